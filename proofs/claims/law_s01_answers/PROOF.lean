import PyProof.Rows.All
import Wide.All
import OpenK.AllK
import Wide.FinOn
import PyProof.EqAt
import PyProof.EqKinds
import PyProof.TupleCall
import KE.BitLaws
import Open.SpecLaws
import KE.OsHead
import KE.OsGo
import KE.KSortTupG
import PyFlatLaws
import PyKm347
import PySem.Challenge.RW_farebest_s01_answers
set_option Elab.async false
set_option linter.all false
set_option maxRecDepth 100000
set_option maxHeartbeats 2000000
namespace L2
open PySem PySem.Spec PyProof.Rows
abbrev Key := Sum Int Str
def keyIs : Key → Value → Bool
  | .inl k, v => Value.isInt k v
  | .inr x, v => Value.isStrOf x v
def keyH (w : World) : Key → Int
  | .inl k => hashInt k
  | .inr x => hashStr w x
theorem keyIs_shape : ∀ {k : Key} {v : Value}, keyIs k v = true → (∃ i t, k = Sum.inl i ∧ v = Value.int i t) ∨ (∃ x t, k = Sum.inr x ∧ v = Value.str x t)
  | .inl i, v, h => by
    obtain ⟨t, e⟩ := Value.isInt_shape (k := i) (v := v) h
    exact .inl ⟨i, t, rfl, e⟩
  | .inr x, v, h => by
    obtain ⟨t, e⟩ := Value.isStrOf_shape (x := x) (v := v) h
    exact .inr ⟨x, t, rfl, e⟩
theorem keyIs_int (i : Int) (t : Tok) : keyIs (.inl i) (.int i t) = true := by simp [keyIs, Value.isInt]
theorem keyIs_str (x : Str) (t : Tok) : keyIs (.inr x) (.str x t) = true := by simp [keyIs, Value.isStrOf]
theorem key_ll (a b : Int) : decide ((Sum.inl a : Key) = Sum.inl b) = (a == b) := by
  by_cases e : a = b
  · subst e; simp
  · have h : ¬ (Sum.inl a : Key) = Sum.inl b := fun q => e (Sum.inl.inj q)
    rw [decide_eq_false h]
    exact (beq_eq_false_iff_ne.mpr e).symm
theorem key_rr (a b : Str) : decide ((Sum.inr a : Key) = Sum.inr b) = decide (a = b) := by
  by_cases e : a = b
  · subst e; simp
  · have h : ¬ (Sum.inr a : Key) = Sum.inr b := fun q => e (Sum.inr.inj q)
    rw [decide_eq_false h, decide_eq_false e]
theorem key_lr (a : Int) (b : Str) : decide ((Sum.inl a : Key) = Sum.inr b) = false := decide_eq_false (fun q => nomatch q)
theorem key_rl (a : Str) (b : Int) : decide ((Sum.inr a : Key) = Sum.inl b) = false := decide_eq_false (fun q => nomatch q)
def mixKind (prog : Program) (w : World) : PySem.KeyKind prog w Key where
  is := keyIs
  hash := keyH w
  inj := fun v a b ha hb => by
    rcases keyIs_shape ha with ⟨i, t, rfl, rfl⟩ | ⟨x, t, rfl, rfl⟩
    · rcases keyIs_shape hb with ⟨j, u, rfl, e⟩ | ⟨y, u, rfl, e⟩
      · injection e with e1 _; rw [e1]
      · exact nomatch e
    · rcases keyIs_shape hb with ⟨j, u, rfl, e⟩ | ⟨y, u, rfl, e⟩
      · exact nomatch e
      · injection e with e1 _; rw [e1]
  byValue := fun k v h => by
    rcases keyIs_shape h with ⟨i, t, rfl, rfl⟩ | ⟨x, t, rfl, rfl⟩ <;> rfl
  pyHash := fun hv h => by
    rcases keyIs_shape hv with ⟨i, t, rfl, rfl⟩ | ⟨x, t, rfl, rfl⟩
    · exact wpAny_pyHash_int h
    · exact wpAny_pyHash_str h
  eqBool := fun hu hv h => by
    rcases keyIs_shape hu with ⟨i, t, rfl, rfl⟩ | ⟨x, t, rfl, rfl⟩
    · rcases keyIs_shape hv with ⟨j, u, rfl, rfl⟩ | ⟨y, u, rfl, rfl⟩
      · rw [key_ll] at h; exact wpAny_eqBool_int h
      · rw [key_lr] at h; exact SeqAt.EqAt.int_str i t y u _ _ _ _ h
    · rcases keyIs_shape hv with ⟨j, u, rfl, rfl⟩ | ⟨y, u, rfl, rfl⟩
      · rw [key_rl] at h; exact SeqAt.EqAt.str_int x t j u _ _ _ _ h
      · rw [key_rr] at h; exact wpAny_eqBool_str h
  «strs» := fun k x t v h => by
    rcases keyIs_shape h with ⟨i, u, rfl, e⟩ | ⟨y, u, rfl, e⟩
    · exact nomatch e
    · injection e with e1 _
      subst e1
      cases v <;> rfl
theorem mixKind_int (prog : Program) (w : World) (i : Int) (t : Tok) : (mixKind prog w).is (.inl i) (.int i t) = true := keyIs_int i t
theorem mixKind_str (prog : Program) (w : World) (x : Str) (t : Tok) : (mixKind prog w).is (.inr x) (.str x t) = true := keyIs_str x t
end L2
namespace L2
open PySem PySem.Spec PyProof.Rows
inductive V where
  | non | bl (b : Bool) | int (i : Int) | str (x : Str) | byt (b : Array UInt8) | flt (b : UInt64) | ref (a : Addr) | ty (n : String)
  deriving DecidableEq
def RelV : V → Value → Prop
  | .non, u => u = Value.none
  | .bl b, u => u = Value.bool b
  | .int i, u => ∃ t, u = Value.int i t
  | .str x, u => ∃ t, u = Value.str x t
  | .byt b, u => ∃ t, u = Value.bytes b t
  | .flt b, u => ∃ t, u = Value.float b t
  | .ref a, u => u = Value.ref a
  | .ty n, u => u = Value.type n
abbrev Vals : List V → List Value → Prop := Paired RelV
theorem Vals.length {xs : List V} {us : List Value} (r : Vals xs us) : xs.length = us.length := Paired.length r
theorem Vals.get : ∀ {xs : List V} {us : List Value} {i : Nat} {x : V}, Vals xs us → xs[i]? = some x → ∃ u, us[i]? = some u ∧ RelV x u
  | _, _, _, _, .nil, e => by simp at e
  | _, _, 0, _, .cons r _, e => by simp at e; subst e; exact ⟨_, rfl, r⟩
  | _, _, i + 1, x, .cons _ t, e => by
    obtain ⟨u, h1, h2⟩ := Vals.get (i := i) (x := x) t (by simpa using e)
    exact ⟨u, by simpa using h1, h2⟩
theorem Vals.set {x : V} {u : Value} (r : RelV x u) : ∀ {xs : List V} {us : List Value} (i : Nat), Vals xs us → Vals (xs.set i x) (us.set i u)
  | _, _, _, .nil => .nil
  | _, _, 0, .cons _ t => .cons r t
  | _, _, i + 1, .cons q t => .cons q (Vals.set r i t)
theorem Vals.append : ∀ {xs ys : List V} {us ws : List Value}, Vals xs us → Vals ys ws → Vals (xs ++ ys) (us ++ ws)
  | _, _, _, _, .nil, s => s
  | _, _, _, _, .cons r t, s => .cons r (Vals.append t s)
theorem Vals.take : ∀ {xs : List V} {us : List Value} (n : Nat), Vals xs us → Vals (xs.take n) (us.take n)
  | _, _, 0, _ => .nil
  | _, _, _ + 1, .nil => .nil
  | _, _, n + 1, .cons r t => .cons r (Vals.take n t)
theorem Vals.drop : ∀ {xs : List V} {us : List Value} (n : Nat), Vals xs us → Vals (xs.drop n) (us.drop n)
  | _, _, 0, r => r
  | _, _, _ + 1, .nil => .nil
  | _, _, n + 1, .cons _ t => Vals.drop n t
def RelO : Option V → Option Value → Prop
  | some v, some u => RelV v u
  | none, none => True
  | _, _ => False
def KV {κ : Type} : List (κ × V) → List (κ × Value) → Prop := Paired fun (p : κ × V) (q : κ × Value) => p.1 = q.1 ∧ RelV p.2 q.2
def kV : Key → V
  | .inl i => .int i
  | .inr x => .str x
inductive HO where
  | lst (xs : List V)
  | tup (xs : List V)
  | dK (kvs : List (Key × V)) | dT (kvs : List (List Key × V))
  | set (S : Int → Bool) (n : Nat)
  | ins (C dx : Addr) (fs : List (Str × V))
  | own (x : Addr)
  | xd (fs : List (Str × V))
  | met (f x : Addr)
  | rng (lo hi : Int)
  | frz (o : Obj) (u : HO)
  | tbl (ps : Array Value)
  | ext (φ : Heap → Prop)
abbrev Hp := Addr → Option HO
def upd (H : Hp) (a : Addr) (o : HO) : Hp := fun b => if b = a then some o else H b
theorem upd_same {H : Hp} {a : Addr} {o : HO} : upd H a o a = some o := by unfold upd; rw [if_pos rfl]
theorem upd_ne {H : Hp} {a b : Addr} {o : HO} (h : b ≠ a) : upd H a o b = H b := by unfold upd; rw [if_neg h]
theorem upd_upd {H : Hp} {a : Addr} {o u : HO} : upd (upd H a o) a u = upd H a u := by
  funext b; unfold upd; split <;> rfl
theorem ne_of {H : Hp} {a b : Addr} {o u : HO} (h : H a = some o) (h' : H b = some u) (d : o ≠ u) : a ≠ b := by
  intro e; subst e; rw [h] at h'; exact d (Option.some.inj h')
theorem ne_of_none {H : Hp} {a b : Addr} {o : HO} (h : H a = some o) (h' : H b = none) : a ≠ b := by
  intro e; subst e; rw [h] at h'; cases h'
section
variable (P : Program) (w : World)
def ObjOk (H : Hp) (h : Heap) (a : Addr) : HO → Prop
  | .lst xs => xs.length ≤ sizeLine ∧ ∃ (its : List Value) (n : Nat), Vals xs its ∧ h.get? a = some { cls := .type "list", data := .seq its.toArray n }
  | .tup xs => xs.length ≤ sizeLine ∧ ∃ its : List Value, Vals xs its ∧ IsTup h a its.toArray
  | .dK kvs => kvs.length ≤ sizeLine ∧ (a == sysModules) = false ∧ ∃ vs, KV kvs vs ∧ h.DictOf (mixKind P w) a vs
  | .dT kvs => kvs.length ≤ sizeLine ∧ (a == sysModules) = false ∧ ∃ xs : List (List Key × Addr × Value),
      Paired (fun (p : List Key × V) (q : List Key × Addr × Value) => p.1 = q.1 ∧ H q.2.1 = some (.tup (p.1.map kV)) ∧ RelV p.2 q.2.2) kvs xs ∧
      ∃ o es ep, h.get? a = some o ∧ o.ExactDict ∧ o.data = .dict es ep ∧ es.toList = xs.map (entryOfKey (tupleKind (mixKind P w))) ∧ (xs.map (·.1)).Nodup
  | .set S n => h.SetOf (intKind P w) a S n
  | .ins C dx fs => H dx = some (.own a) ∧ fs.length ≤ 1000 ∧ dx ≠ a ∧ h.get? a = some (PySem.W.instObj C dx) ∧
      ∃ mA, h.Ns1 dx mA ∧ (∀ f, RelO (fs.lookup f) (mA f)) ∧ PySem.Within mA (fs.map (·.1))
  | .own _ => ∃ o, h.get? a = some o
  | .xd fs => ∃ mA, h.Ns1 a mA ∧ ∀ f, RelO (fs.lookup f) (mA f)
  | .rng lo hi => ∃ t u v, h.get? a = some { cls := .type "range", data := .fields #[.int lo t, .int hi u, .int 1 v] }
  | .frz o u => h.get? a = some o ∧ ObjOk H h a u
  | .tbl ps => h.get? a = some { cls := .none, data := .fields ps }
  | .met f x => h.get? a = some (PySem.W.methodObj (.ref f) (.ref x))
  | .ext φ => φ h ∧ (∃ o, h.get? a = some o) ∧ ∀ h1 h2 : Heap, φ h1 → (∀ o, h1.get? a = some o → h2.get? a = some o) → φ h2
def HOk (H : Hp) (h : Heap) : Prop := ∀ a o, H a = some o → ObjOk P w H h a o
end
section
variable {P : Program} {w : World} {H H' : Hp} {h h' : Heap} {a : Addr} {o : HO}
theorem ObjOk.lt (x : ObjOk P w H h a o) : a < h.objs.size := by
  cases o with
  | lst xs => obtain ⟨_, _, _, _, e⟩ := x; exact Heap.lt_size e
  | tup xs => obtain ⟨_, _, _, p⟩ := x; exact p.lt
  | dK kvs => obtain ⟨_, _, _, _, o, _, _, e, _⟩ := x; exact Heap.lt_size e
  | dT kvs => obtain ⟨_, _, _, _, o, _, _, e, _⟩ := x; exact Heap.lt_size e
  | set S n => obtain ⟨o, _, _, _, e, _⟩ := x; exact Heap.lt_size e
  | ins C dx fs => obtain ⟨_, _, _, e, _⟩ := x; exact Heap.lt_size e
  | own y => obtain ⟨_, e⟩ := x; exact Heap.lt_size e
  | xd fs => obtain ⟨_, ⟨_, _, _, e, _⟩, _⟩ := x; exact Heap.lt_size e
  | rng lo hi => obtain ⟨_, _, _, e⟩ := x; exact Heap.lt_size e
  | frz ob u => obtain ⟨e, _⟩ := x; exact Heap.lt_size e
  | tbl ps => exact Heap.lt_size (show h.get? a = some _ from x)
  | met f y => exact Heap.lt_size (show h.get? a = some _ from x)
  | ext φ => obtain ⟨_, ⟨_, e⟩, _⟩ := x; exact Heap.lt_size e
theorem Paired.mapP {α β : Type} {F G : α → β → Prop} : ∀ {l₁ : List α} {l₂ : List β}, Paired F l₁ l₂ → (∀ a b, F a b → G a b) → Paired G l₁ l₂
  | _, _, .nil, _ => .nil
  | _, _, .cons r t, f => .cons (f _ _ r) (Paired.mapP t f)
theorem ObjOk.stay (x : ObjOk P w H h a o) (k : ∀ b u, (b = a ∨ H b = some (.own a)) → h.get? b = some u → h'.get? b = some u)
    (ho : ∀ b, H b = some (.own a) → H' b = some (.own a)) (ht : ∀ b xs, H b = some (.tup xs) → H' b = some (.tup xs)) : ObjOk P w H' h' a o := by
  induction o with
  | lst xs => obtain ⟨z, its, n, r, e⟩ := x; exact ⟨z, its, n, r, k _ _ (.inl rfl) e⟩
  | tup xs => obtain ⟨z, its, r, ob, e, c⟩ := x; exact ⟨z, its, r, ob, k _ _ (.inl rfl) e, c⟩
  | dK kvs => obtain ⟨z, y, vs, r, ob, es, ep, e, c⟩ := x; exact ⟨z, y, vs, r, ob, es, ep, k _ _ (.inl rfl) e, c⟩
  | dT kvs =>
    obtain ⟨z, y, xs, r, ob, es, ep, e, c⟩ := x
    exact ⟨z, y, xs, Paired.mapP r fun p q z => ⟨z.1, ht _ _ z.2.1, z.2.2⟩, ob, es, ep, k _ _ (.inl rfl) e, c⟩
  | set S n => obtain ⟨ob, es, ep, t, e, c⟩ := x; exact ⟨ob, es, ep, t, k _ _ (.inl rfl) e, c⟩
  | ins C dx fs =>
    obtain ⟨d, z, ne, e, mA, ⟨od, es, ep, e2, c⟩, r⟩ := x
    exact ⟨ho _ d, z, ne, k _ _ (.inl rfl) e, mA, ⟨od, es, ep, k _ _ (.inr d) e2, c⟩, r⟩
  | own y => obtain ⟨ob, e⟩ := x; exact ⟨ob, k _ _ (.inl rfl) e⟩
  | xd fs => obtain ⟨mA, ⟨od, es, ep, e, c⟩, r⟩ := x; exact ⟨mA, ⟨od, es, ep, k _ _ (.inl rfl) e, c⟩, r⟩
  | rng lo hi => obtain ⟨t, u, v, e⟩ := x; exact ⟨t, u, v, k _ _ (.inl rfl) e⟩
  | frz ob u ih => obtain ⟨e, q⟩ := x; exact ⟨k _ _ (.inl rfl) e, ih q⟩
  | tbl ps =>
    have e : h.get? a = some { cls := .none, data := .fields ps } := x
    show h'.get? a = some { cls := .none, data := .fields ps }
    exact k a _ (.inl rfl) e
  | met f y =>
    have e : h.get? a = some (PySem.W.methodObj (.ref f) (.ref y)) := x
    show h'.get? a = some (PySem.W.methodObj (.ref f) (.ref y))
    exact k a _ (.inl rfl) e
  | ext φ => obtain ⟨p, ⟨o, e⟩, st⟩ := x; exact ⟨st _ _ p fun o q => k _ _ (.inl rfl) q, ⟨o, k _ _ (.inl rfl) e⟩, st⟩
theorem HOk.lt (x : HOk P w H h) (e : H a = some o) : a < h.objs.size := (x a o e).lt
theorem HOk.fresh (x : HOk P w H h) (e : h.objs.size ≤ a) : H a = none := by
  cases q : H a with
  | none => rfl
  | some u => exact absurd (Nat.lt_of_lt_of_le (x.lt q) e) (Nat.lt_irrefl _)
theorem HOk.kept (x : HOk P w H h) (k : ∀ b u, h.get? b = some u → h'.get? b = some u) : HOk P w H h' := fun a o e =>
  (x a o e).stay (fun b u _ q => k b u q) (fun _ q => q) fun _ _ q => q
theorem HOk.laid (x : HOk P w H h) (k : ∀ b u, h.get? b = some u → h'.get? b = some u) (hp : h.objs.size ≤ a) (new : ObjOk P w (upd H a o) h' a o) : HOk P w (upd H a o) h' := fun b u e => by
  have hn := x.fresh hp
  by_cases hb : b = a
  · subst hb; rw [upd_same] at e; cases e; exact new
  · rw [upd_ne hb] at e
    exact (x b u e).stay (fun c v _ q => k c v q) (fun c q => by rw [upd_ne (ne_of_none q hn)]; exact q) fun c xs q => by rw [upd_ne (ne_of_none q hn)]; exact q
end
def Rd (H : Hp) (a : Addr) (u : HO) : Prop := H a = some u ∨ ∃ o, H a = some (.frz o u)
theorem Rd.of {H : Hp} {a : Addr} {u : HO} (h : H a = some u) : Rd H a u := .inl h
theorem Rd.ok {P : Program} {w : World} {H : Hp} {h : Heap} {a : Addr} {u : HO} (r : Rd H a u) (x : HOk P w H h) : ObjOk P w H h a u := by
  rcases r with r | ⟨o, r⟩
  · exact x a u r
  · obtain ⟨_, q⟩ := x a _ r
    exact q
def Mut : Option HO → Prop
  | some (.lst _) => True
  | some (.dK _) => True
  | some (.dT _) => True
  | some (.set _ _) => True
  | some (.ins _ _ _) => True
  | some (.ext _) => True
  | _ => False
section
variable {P : Program} {w : World} {H : Hp} {h h' : Heap} {x e : Addr} {o' : HO}
theorem HOk.write (ok : HOk P w H h) (mu : Mut (H x)) (he : e = x ∨ H e = some (.own x)) (k : ∀ b u, b ≠ e → h.get? b = some u → h'.get? b = some u) (heo : ∃ u, h'.get? e = some u)
    (new : ObjOk P w (upd H x o') h' x o') : HOk P w (upd H x o') h' := fun b u q => by
  have nown : ∀ c y, H c = some (.own y) → c ≠ x := fun c y r z => by subst z; rw [r] at mu; exact mu
  have ntup : ∀ c xs, H c = some (.tup xs) → c ≠ x := fun c xs r z => by subst z; rw [r] at mu; exact mu
  by_cases hb : b = x
  · subst hb; rw [upd_same] at q; cases q; exact new
  · rw [upd_ne hb] at q
    by_cases hbe : b = e
    · have q' : H b = some (.own x) := by
        rcases he with z | z
        · exact absurd (hbe.trans z) hb
        · rw [hbe]; exact z
      rw [q] at q'; cases q'
      obtain ⟨v, hv⟩ := heo
      exact ⟨v, by rw [hbe]; exact hv⟩
    · refine (ok b u q).stay (fun c v hc r => k c v ?_ r) (fun c r => by rw [upd_ne (nown c b r)]; exact r) fun c xs r => by rw [upd_ne (ntup c xs r)]; exact r
      rcases hc with rfl | hc
      · exact hbe
      · rintro rfl
        rcases he with z | z
        · exact nown c b hc z
        · rw [hc] at z; cases z; exact hb rfl
end
structure Un (fs ex : List Addr) (H H' : Hp) (h h' : Heap) : Prop where
  keep : ∀ b o, h.get? b = some o → H b = none → b ∉ fs → b ∉ ex → h'.get? b = some o
  slot : ∀ b o, h.get? b = some o → H b = none → b ∈ fs → b ∉ ex → ∃ sl, h'.get? b = some { o with slots := sl }
  free : ∀ b o, h.get? b = some o → H b = none → b ∉ ex → H' b = none
  there : ∀ b o, h.get? b = some o → b ∉ ex → ∃ o', h'.get? b = some o'
  tups : ∀ b xs, H b = some (.tup xs) → H' b = some (.tup xs)
  frzs : ∀ b o u, H b = some (.frz o u) → H' b = some (.frz o u)
  tbls : ∀ b ps, H b = some (.tbl ps) → ∃ more, H' b = some (.tbl (ps ++ more))
section
variable {fs fs' ex ex' : List Addr} {H H1 H2 : Hp} {h h1 h2 h' : Heap} {a x e : Addr} {o : HO}
theorem Un.any (u : Un fs ex H H1 h h1) {b : Addr} {ob : Obj} (q : h.get? b = some ob) (n : H b = none) (hx : b ∉ ex) : ∃ sl, h1.get? b = some { ob with slots := sl } := by
  by_cases hb : b ∈ fs
  · exact u.slot b ob q n hb hx
  · exact ⟨ob.slots, u.keep b ob q n hb hx⟩
theorem Un.kept (k : ∀ b u, h.get? b = some u → h'.get? b = some u) : Un fs ex H H h h' :=
  ⟨fun b ob q _ _ _ => k b ob q, fun b ob q _ _ _ => ⟨ob.slots, k b ob q⟩, fun _ _ _ n _ => n, fun b ob q _ => ⟨ob, k b ob q⟩, fun _ _ q => q, fun _ _ _ q => q, fun _ ps q => ⟨#[], by rw [q]; simp⟩⟩
theorem Un.refl : Un fs ex H H h h := Un.kept fun _ _ q => q
theorem Un.laid (k : ∀ b u, h.get? b = some u → h'.get? b = some u) (hp : h.objs.size ≤ a) (hn : H a = none) : Un fs ex H (upd H a o) h h' where
  keep := fun b u q _ _ _ => k b u q
  slot := fun b u q _ _ _ => ⟨u.slots, k b u q⟩
  free := fun b u q n _ => by rw [upd_ne (Nat.ne_of_lt (Nat.lt_of_lt_of_le (Heap.lt_size q) hp))]; exact n
  there := fun b u q _ => ⟨u, k b u q⟩
  tups := fun b xs q => by rw [upd_ne (ne_of_none q hn)]; exact q
  frzs := fun b u xs q => by rw [upd_ne (ne_of_none q hn)]; exact q
  tbls := fun b ps q => ⟨#[], by rw [upd_ne (ne_of_none q hn), q]; simp⟩
theorem Un.write (mu : Mut (H x)) (he : e = x ∨ H e = some (.own x)) (k : ∀ b u, b ≠ e → h.get? b = some u → h'.get? b = some u) (heo : ∃ u, h'.get? e = some u) : Un fs ex H (upd H x o) h h' := by
  have hx : ∀ b, H b = none → b ≠ x := fun b n z => by subst z; rw [n] at mu; exact mu
  have hb : ∀ b, H b = none → b ≠ e := fun b n z => by
    subst z
    rcases he with r | r
    · exact hx b n r
    · rw [n] at r; cases r
  have hm : ∀ b u, H b = some u → ¬ Mut (some u) → b ≠ x := fun b u q nm z => by subst z; rw [q] at mu; exact nm mu
  refine ⟨fun b u q n _ _ => k b u (hb b n) q, fun b u q n _ _ => ⟨u.slots, k b u (hb b n) q⟩, fun b u q n _ => by rw [upd_ne (hx b n)]; exact n, fun b u q _ => ?_,
    fun b xs q => by rw [upd_ne (hm b _ q fun z => z)]; exact q, fun b u xs q => by rw [upd_ne (hm b _ q fun z => z)]; exact q, fun b ps q => ⟨#[], by rw [upd_ne (hm b _ q fun z => z), q]; simp⟩⟩
  by_cases hbe : b = e
  · subst hbe; exact heo
  · exact ⟨u, k b u hbe q⟩
end
def trk (h : Heap) (H : Hp) : List Addr := (List.range h.objs.size).filter fun a => (H a).isSome
def hidT (h : Heap) (H : Hp) : Heap := PySem.W.hideAll h (trk h H)
theorem hidT_size (h : Heap) (H : Hp) : (hidT h H).objs.size = h.objs.size := PySem.W.hideAll_size _ _
theorem hidT_get {h : Heap} {H : Hp} {b : Addr} {o : Obj} (e : h.get? b = some o) (n : H b = none) : (hidT h H).get? b = some o :=
  PySem.W.hideAll_get _ e fun hm => by
    have q : (H b).isSome = true := (List.mem_filter.mp hm).2
    rw [n] at q; simp at q
theorem of_hidT {h : Heap} {H : Hp} {b : Addr} {o : Obj} (e : (hidT h H).get? b = some o) : h.get? b = some o ∧ H b = none := by
  have e' : h.get? b = some o := PySem.W.of_hideAll (trk h H) e
  refine ⟨e', ?_⟩
  cases q : H b with
  | none => rfl
  | some x =>
    have hm : b ∈ trk h H := List.mem_filter.mpr ⟨List.mem_range.mpr (Heap.lt_size e'), by simp [q]⟩
    have z : (hidT h H).get? b = none := PySem.W.hideAll_none (trk h H) hm
    rw [z] at e; cases e
end L2
namespace L2
open PySem PySem.Spec PyProof.Rows
structure Mod (K : PySem.W.Frag) (mg : Str → Option Value) (base : Heap) : Prop where
  kin : K.In base
  glob : base.Ns mainGlobals mg
  blt : ∃ mb, base.Ns builtinsNs mb ∧ ∀ x : Str, x ≠ "__name__" → mb x = bootBuiltins x
  nolimit : base.NoLimit
structure Cx where
  prog : Program
  w : World
  K : PySem.W.Frag
  mg : Str → Option Value
  base : Heap
  A : Around
  N : List Str
  s_0 : Shared
  H_0 : Hp
  env : Env
  outer : List Env
  stack : List Env
  ex : List Addr
  fn : Str → Bool
  calm : Bool
  pn : List (Addr × Obj)
  xe : Value → Shared → Prop
def frs (l : List Env) : List Addr := l.filterMap (·.frame)
abbrev Cx.fs (X : Cx) : List Addr := frs X.outer
def Vis (sc : Scope) (x : Str) : Prop := sc.names.lookup x = some .local ∨ sc.names.lookup x = some .cell ∨ sc.names.lookup x = some .free
def Loc (sc : Scope) (x : Str) : Prop := sc.names.lookup x = some .local ∨ sc.names.lookup x = some .cell
def Look (env : Env) (h : Heap) (m : Str → Option Value) (x : Str) (u : Value) : Prop :=
  (env.kindOf x = some .local ∧ m x = some u) ∨ ((env.kindOf x = some .cell ∨ env.kindOf x = some .free) ∧ ∃ c, env.cells.lookup x = some c ∧ h.IsCell c (some u))
structure Cx.Ok (X : Cx) : Prop where
  mod : Mod X.K X.mg X.base
  kind : X.env.scope.kind = .function
  glob : X.env.globals = mainGlobals
  blt : X.env.builtins = builtinsNs
  above : X.s_0.heap.objs.size ≤ X.env.locals
  inj : ∀ x y c, X.env.cells.lookup x = some c → X.env.cells.lookup y = some c → x = y
  has : ∀ x, (X.env.kindOf x = some .cell ∨ X.env.kindOf x = some .free) → ∃ c, X.env.cells.lookup x = some c
  cab : ∀ x c, X.fn x = true → X.env.cells.lookup x = some c → X.s_0.heap.objs.size ≤ c
  hd : X.calm = true → X.A.handled = none
  frames : X.A.frames = some X.stack
  stk : X.stack = X.outer ∨ (X.stack = X.env :: X.outer ∧ X.env.frame = some X.env.locals)
  exf : ∀ b ∈ X.ex, b ≠ X.env.locals ∧ ∀ x c, X.env.cells.lookup x = some c → c ≠ b
  bs : ∀ b o, X.base.get? b = some o → X.s_0.heap.get? b = some o ∧ X.H_0 b = none
  bsz : X.base.objs.size ≤ X.s_0.heap.objs.size
  noex : ∀ b o, X.base.get? b = some o → b ∉ X.ex
  exfs : ∀ b ∈ X.ex, b ∉ X.fs
  funs : X.s_0.heap.FunFrames X.base X.outer
  frf : ∀ b ∈ X.fs, X.H_0 b = none
structure Inv (X : Cx) (pins : List (Addr × Obj)) (σ : List (Option V)) (H : Hp) (s : Shared) : Prop where
  ok : X.Ok
  os : s.os = X.s_0.os
  bare : AllBare s.gens
  base : Un X.fs X.ex X.H_0 H X.s_0.heap s.heap
  loc : ∃ m, s.heap.Ns X.env.locals m ∧ ∀ (i : Nat) (x : Str) (v : V), X.N[i]? = some x → σ[i]? = some (some v) → Vis X.env.scope x → ∃ u, RelV v u ∧ Look X.env s.heap m x u
  cell : ∀ x c, X.env.cells.lookup x = some c → ∃ v, s.heap.IsCell c v
  free : H X.env.locals = none
  freeC : ∀ x c, X.env.cells.lookup x = some c → H c = none
  pin : ∀ p ∈ X.pn ++ pins, s.heap.get? p.1 = some p.2 ∧ H p.1 = none ∧ p.1 ≠ X.env.locals ∧ p.1 ∉ X.fs ∧ ∀ v, p.2.data ≠ .cell v
  hok : HOk X.prog X.w H s.heap
  len : σ.length = X.N.length
section
variable {X : Cx} {pins : List (Addr × Obj)} {σ : List (Option V)} {H H' : Hp} {s : Shared} {h' : Heap}
theorem Cx.Ok.nofr (ok : X.Ok) {b : Addr} {o : Obj} (e : X.base.get? b = some o) : b ∉ X.fs := fun hb => by
  have := (ok.funs.mem hb).1
  rw [e] at this; cases this
theorem Inv.bs (I : Inv X pins σ H s) : ∀ b o, X.base.get? b = some o → s.heap.get? b = some o ∧ H b = none := fun b o e =>
  ⟨I.base.keep b o (I.ok.bs b o e).1 (I.ok.bs b o e).2 (I.ok.nofr e) (I.ok.noex b o e), I.base.free b o (I.ok.bs b o e).1 (I.ok.bs b o e).2 (I.ok.noex b o e)⟩
theorem Inv.bk (I : Inv X pins σ H s) : ∀ b o, X.base.get? b = some o → s.heap.get? b = some o := fun b o e => (I.bs b o e).1
theorem Inv.mod (I : Inv X pins σ H s) : Mod X.K X.mg X.base := I.ok.mod
theorem Inv.kIn (I : Inv X pins σ H s) : X.K.In s.heap := I.ok.mod.kin.keeps I.bk
theorem Inv.lt (I : Inv X pins σ H s) : X.env.locals < s.heap.objs.size := let ⟨_, hn, _⟩ := I.loc; hn.lt
theorem Inv.sz (I : Inv X pins σ H s) : X.s_0.heap.objs.size ≤ s.heap.objs.size := Nat.le_trans I.ok.above (Nat.le_of_lt I.lt)
theorem Inv.nofs (I : Inv X pins σ H s) {a : Addr} (h : s.heap.objs.size ≤ a) : a ∉ X.fs := fun hb => by
  obtain ⟨_, o, ho, _⟩ := I.ok.funs.mem hb
  exact absurd (Nat.lt_of_lt_of_le (Heap.lt_size ho) (Nat.le_trans I.sz h)) (Nat.lt_irrefl _)
theorem Inv.cne (I : Inv X pins σ H s) : ∀ x c, X.env.cells.lookup x = some c → c ≠ X.env.locals := fun x c e z => by
  obtain ⟨v, o, ho, hd⟩ := I.cell x c e
  obtain ⟨m, ⟨o', es, ep, ho', hd', _⟩, _⟩ := I.loc
  rw [z, ho'] at ho; cases ho; rw [hd'] at hd; cases hd
theorem Inv.funs (I : Inv X pins σ H s) : s.heap.FunFrames X.base X.outer := by
  have all : ∀ (l : List Env), (∀ b ∈ frs l, b ∈ X.fs) → X.s_0.heap.FunFrames X.base l → s.heap.FunFrames X.base l := by
    intro l
    induction l with
    | nil => intro _ _; trivial
    | cons env r ih =>
      intro hs hl
      obtain ⟨hk, ⟨L, o, hf, hn, ho, hd⟩, hr⟩ := hl
      have hL : L ∈ X.fs := hs L (by unfold frs; rw [List.filterMap_cons, hf]; exact List.mem_cons_self)
      obtain ⟨sl, e⟩ := I.base.slot L o ho (I.ok.frf L hL) hL fun z => I.ok.exfs L z hL
      exact ⟨hk, ⟨L, _, hf, hn, e, hd⟩, ih (fun b hb => hs b (by unfold frs; rw [List.filterMap_cons, hf]; exact List.mem_cons_of_mem _ hb)) hr⟩
  exact all X.outer (fun _ hb => hb) I.ok.funs
theorem Inv.stack (I : Inv X pins σ H s) : s.heap.FunFrames X.base X.stack := by
  rcases I.ok.stk with e | ⟨e, hf⟩
  · rw [e]; exact I.funs
  · rw [e]
    obtain ⟨m, hn, _⟩ := I.loc
    refine .cons (by rw [I.ok.kind]; decide) hf hn ?_ I.funs
    exact Heap.get?_none_of_le (Nat.le_trans I.ok.bsz I.ok.above)
theorem Inv.stkSub (I : Inv X pins σ H s) : ∀ b ∈ frs X.stack, b ∈ X.env.locals :: X.fs := fun b hb => by
  rcases I.ok.stk with e | ⟨e, hf⟩
  · rw [e] at hb; exact List.mem_cons_of_mem _ hb
  · rw [e] at hb
    unfold frs at hb
    rw [List.filterMap_cons, hf] at hb
    exact hb
theorem Inv.stkFree (I : Inv X pins σ H s) : ∀ b ∈ frs X.stack, H b = none := fun b hb => by
  rcases List.mem_cons.mp (I.stkSub b hb) with e | hb
  · rw [e]; exact I.free
  · obtain ⟨_, o, ho, _⟩ := I.ok.funs.mem hb
    exact I.base.free b o ho (I.ok.frf b hb) fun z => I.ok.exfs b z hb
theorem Inv.step {g' : Array GenState} {t' : Nat} {d' : Drawn} {ch : List Addr} (I : Inv X pins σ H s)
    (hch : ∀ b ∈ ch, (b ∈ X.ex ∨ X.s_0.heap.objs.size ≤ b) ∧ b ≠ X.env.locals ∧ (∀ x c, X.env.cells.lookup x = some c → c ≠ b) ∧ ∀ p ∈ X.pn ++ pins, p.1 ≠ b)
    (keep : ∀ b o, b ≠ X.env.locals → b ∉ X.fs → b ∉ ch → s.heap.get? b = some o → H b = none → h'.get? b = some o)
    (slot : ∀ b o, b ≠ X.env.locals → b ∈ X.fs → b ∉ ch → s.heap.get? b = some o → H b = none → ∃ sl, h'.get? b = some { o with slots := sl }) (free : ∀ b o, b ∉ ch → s.heap.get? b = some o → H b = none → H' b = none)
    (there : ∀ b o, b ∉ ch → s.heap.get? b = some o → ∃ o', h'.get? b = some o')
    (tups : ∀ b xs, H b = some (.tup xs) → H' b = some (.tup xs)) (frzs : ∀ b o u, H b = some (.frz o u) → H' b = some (.frz o u)) (tbls : ∀ b ps, H b = some (.tbl ps) → ∃ more, H' b = some (.tbl (ps ++ more)))
    (ns : ∀ m, s.heap.Ns X.env.locals m → h'.Ns X.env.locals m) (hok : HOk X.prog X.w H' h') (hg : AllBare g') :
    Inv X pins σ H' { s with heap := h', gens := g', drawn := d', toks := t' } := by
  have neL : ∀ b o, X.s_0.heap.get? b = some o → b ≠ X.env.locals := fun b o e => Nat.ne_of_lt (Nat.lt_of_lt_of_le (Heap.lt_size e) I.ok.above)
  have neC : ∀ b o, X.s_0.heap.get? b = some o → b ∉ X.ex → b ∉ ch := fun b o e hx hb => by
    rcases (hch b hb).1 with z | z
    · exact hx z
    · exact absurd (Nat.lt_of_lt_of_le (Heap.lt_size e) z) (Nat.lt_irrefl _)
  have cellK : ∀ x c, X.env.cells.lookup x = some c → ∀ v, s.heap.IsCell c v → h'.IsCell c v := fun x c e v ⟨o, ho, hd⟩ => by
    have nch : c ∉ ch := fun z => (hch c z).2.2.1 x c e rfl
    by_cases hc : c ∈ X.fs
    · obtain ⟨sl, q⟩ := slot c o (I.cne x c e) hc nch ho (I.freeC x c e)
      exact ⟨_, q, hd⟩
    · exact ⟨o, keep c o (I.cne x c e) hc nch ho (I.freeC x c e), hd⟩
  refine ⟨I.ok, I.os, hg, ⟨fun b o e n hb hx => ?_, fun b o e n hb hx => ?_, fun b o e n hx => ?_, fun b o e hx => ?_, fun b xs e => tups b xs (I.base.tups b xs e), fun b o xs e => frzs b o xs (I.base.frzs b o xs e), fun b ps e => ?_⟩, ?_, fun x c e => ?_, ?_, fun x c e => ?_, fun p hp => ?_, hok, I.len⟩
  · exact keep b o (neL b o e) hb (neC b o e hx) (I.base.keep b o e n hb hx) (I.base.free b o e n hx)
  · obtain ⟨sl, e1⟩ := I.base.slot b o e n hb hx
    obtain ⟨sl', e2⟩ := slot b _ (neL b o e) hb (neC b o e hx) e1 (I.base.free b o e n hx)
    exact ⟨sl', e2⟩
  · obtain ⟨o', e1⟩ := I.base.there b o e hx
    exact free b o' (neC b o e hx) e1 (I.base.free b o e n hx)
  · obtain ⟨o', e1⟩ := I.base.there b o e hx
    exact there b o' (neC b o e hx) e1
  · obtain ⟨m1, e1⟩ := I.base.tbls b ps e
    obtain ⟨m2, e2⟩ := tbls b _ e1
    exact ⟨m1 ++ m2, by rw [e2, Array.append_assoc]⟩
  · obtain ⟨m, hn, hl⟩ := I.loc
    refine ⟨m, ns m hn, fun i x v e1 e2 e3 => ?_⟩
    obtain ⟨u, r, l⟩ := hl i x v e1 e2 e3
    refine ⟨u, r, ?_⟩
    rcases l with l | ⟨k, c, e, z⟩
    · exact .inl l
    · exact .inr ⟨k, c, e, cellK x c e _ z⟩
  · obtain ⟨v, z⟩ := I.cell x c e
    exact ⟨v, cellK x c e v z⟩
  · obtain ⟨m, ⟨o, _, _, ho, _⟩, _⟩ := I.loc
    exact free _ o (fun z => (hch _ z).2.1 rfl) ho I.free
  · obtain ⟨v, o, ho, hd⟩ := I.cell x c e
    exact free c o (fun z => (hch c z).2.2.1 x c e rfl) ho (I.freeC x c e)
  · obtain ⟨e, n, ne, nf, d⟩ := I.pin p hp
    have nch : p.1 ∉ ch := fun z => (hch p.1 z).2.2.2 p hp rfl
    exact ⟨keep p.1 p.2 ne nf nch e n, free p.1 p.2 nch e n, ne, nf, d⟩
theorem Inv.un {t' : Nat} (I : Inv X pins σ H s) (u : Un X.fs [] H H' s.heap h') (hok : HOk X.prog X.w H' h') : Inv X pins σ H' { s with heap := h', toks := t' } := by
  obtain ⟨m, ⟨o, es, ep, ho, r⟩, _⟩ := id I.loc
  obtain ⟨sl, hL⟩ := u.any ho I.free (by simp)
  exact I.step (g' := s.gens) (d' := s.drawn) (ch := []) (fun _ z => nomatch z) (fun b o _ hb _ e n => u.keep b o e n hb (by simp)) (fun b o _ hb _ e n => u.slot b o e n hb (by simp)) (fun b o _ e n => u.free b o e n (by simp)) (fun b o _ e => u.there b o e (by simp)) u.tups u.frzs u.tbls (fun m' hm => by
    obtain ⟨o', es', ep', ho', r'⟩ := hm
    rw [ho] at ho'; cases ho'
    exact ⟨_, es', ep', hL, r'⟩) hok I.bare
theorem Inv.call {g' : Array GenState} {t' : Nat} {d' : Drawn} {ch : List Addr} (I : Inv X pins σ H s) (u : Un (frs X.stack) ch H H' s.heap h') (hok : HOk X.prog X.w H' h') (hg : AllBare g')
    (hch : ∀ b ∈ ch, (b ∈ X.ex ∨ X.s_0.heap.objs.size ≤ b) ∧ b ≠ X.env.locals ∧ (∀ x c, X.env.cells.lookup x = some c → c ≠ b) ∧ ∀ p ∈ X.pn ++ pins, p.1 ≠ b) :
    Inv X pins σ H' { s with heap := h', gens := g', drawn := d', toks := t' } := by
  obtain ⟨m, ⟨o, es, ep, ho, r⟩, _⟩ := id I.loc
  obtain ⟨sl, hL⟩ := u.any ho I.free fun z => (hch _ z).2.1 rfl
  exact I.step (ch := ch) hch (fun b o hL hb hc e n => u.keep b o e n (fun z => (List.mem_cons.mp (I.stkSub b z)).elim hL hb) hc) (fun b o _ _ hc e n => u.any e n hc) (fun b o hc e n => u.free b o e n hc) (fun b o hc e => u.there b o e hc) u.tups u.frzs u.tbls (fun m' hm => by
    obtain ⟨o', es', ep', ho', r'⟩ := hm
    rw [ho] at ho'; cases ho'
    exact ⟨_, es', ep', hL, r'⟩) hok hg
theorem Inv.turned {t' : Nat} {it : Addr} (I : Inv X pins σ H s) (k : ∀ b o, b ≠ it → s.heap.get? b = some o → h'.get? b = some o) (hn : H it = none) (hL : it ≠ X.env.locals)
    (h1 : it ∈ X.ex ∨ X.s_0.heap.objs.size ≤ it) (h2 : ∀ x c, X.env.cells.lookup x = some c → c ≠ it) (h3 : ∀ p ∈ X.pn ++ pins, p.1 ≠ it) : Inv X pins σ H { s with heap := h', toks := t' } := by
  have nit : ∀ b u, H b = some u → b ≠ it := fun b u e z => by rw [z, hn] at e; cases e
  refine I.step (g' := s.gens) (d' := s.drawn) (ch := [it]) (fun b hb => ?_) (fun b o _ _ hc e _ => k b o (fun z => hc (by simp [z])) e) (fun b o _ _ hc e _ => ⟨o.slots, k b o (fun z => hc (by simp [z])) e⟩) (fun _ _ _ _ n => n)
    (fun b o hc e => ⟨o, k b o (fun z => hc (by simp [z])) e⟩) (fun _ _ e => e) (fun _ _ _ e => e) (fun b ps e => ⟨#[], by rw [e]; simp⟩) (fun m hm => ?_) (fun b u e => ?_) I.bare
  · have e : b = it := by simpa using hb
    subst e
    exact ⟨h1, hL, h2, h3⟩
  · obtain ⟨o, es, ep, ho, r⟩ := hm
    exact ⟨o, es, ep, k _ o (Ne.symm hL) ho, r⟩
  · refine (I.hok b u e).stay (fun c v hc q => k c v ?_ q) (fun _ q => q) fun _ _ q => q
    rcases hc with z | z
    · rw [z]; exact nit b u e
    · exact nit c _ z
theorem Inv.tok (I : Inv X pins σ H s) (t : Nat) : Inv X pins σ H { s with toks := t } := I.un (h' := s.heap) (t' := t) Un.refl I.hok
theorem Inv.kept {t' : Nat} (I : Inv X pins σ H s) (k : ∀ b u, s.heap.get? b = some u → h'.get? b = some u) : Inv X pins σ H { s with heap := h', toks := t' } := I.un (Un.kept k) (I.hok.kept k)
theorem Inv.laid {a : Addr} {o : HO} {t' : Nat} (I : Inv X pins σ H s) (k : ∀ b u, s.heap.get? b = some u → h'.get? b = some u) (hp : s.heap.objs.size ≤ a) (new : ObjOk X.prog X.w (upd H a o) h' a o) :
    Inv X pins σ (upd H a o) { s with heap := h', toks := t' } := I.un (Un.laid k hp (I.hok.fresh hp)) (I.hok.laid k hp new)
theorem Inv.write {x e : Addr} {o : HO} {t' : Nat} (I : Inv X pins σ H s) (mu : Mut (H x)) (he : e = x ∨ H e = some (.own x)) (k : ∀ b u, b ≠ e → s.heap.get? b = some u → h'.get? b = some u) (heo : ∃ u, h'.get? e = some u)
    (new : ObjOk X.prog X.w (upd H x o) h' x o) : Inv X pins σ (upd H x o) { s with heap := h', toks := t' } := I.un (Un.write mu he k heo) (I.hok.write mu he k heo new)
theorem Inv.weak {σ' : List (Option V)} (I : Inv X pins σ H s) (hl : σ'.length = σ.length) (w : ∀ (i : Nat) v, σ'[i]? = some (some v) → σ[i]? = some (some v)) : Inv X pins σ' H s :=
  ⟨I.ok, I.os, I.bare, I.base, let ⟨m, hn, hl'⟩ := I.loc; ⟨m, hn, fun i x v e1 e2 e3 => hl' i x v e1 (w i v e2) e3⟩, I.cell, I.free, I.freeC, I.pin, I.hok, hl.trans I.len⟩
theorem Inv.pins_of {pins' : List (Addr × Obj)} (I : Inv X pins σ H s) (h : ∀ p ∈ pins', s.heap.get? p.1 = some p.2 ∧ H p.1 = none ∧ p.1 ≠ X.env.locals ∧ p.1 ∉ X.fs ∧ ∀ v, p.2.data ≠ .cell v) : Inv X pins' σ H s :=
  ⟨I.ok, I.os, I.bare, I.base, I.loc, I.cell, I.free, I.freeC, fun p hp => (List.mem_append.mp hp).elim (fun z => I.pin p (List.mem_append_left _ z)) (h p), I.hok, I.len⟩
theorem nodup_ix {N : List Str} (hN : N.Nodup) {i j : Nat} {x : Str} (a : N[i]? = some x) (b : N[j]? = some x) : i = j := by
  obtain ⟨h1, e1⟩ := List.getElem?_eq_some_iff.mp a
  obtain ⟨h2, e2⟩ := List.getElem?_eq_some_iff.mp b
  exact (List.getElem_inj hN).mp (e1.trans e2.symm)
theorem store_ok2 {M : Model} {A : Around} {E : Value → Shared → Prop} {i : Nat} {x : Str} {v : V} {u : Value} {Q : Unit → Shared → Prop} (I : Inv X pins σ H s) (hN : X.N.Nodup) (hi : X.N[i]? = some x) (hx : Loc X.env.scope x) (r : RelV v u)
    (h : ∀ s', Inv X pins (σ.set i (some v)) H s' → (∃ a, Heap.SameBut a s.heap s'.heap ∧ (a = X.env.locals ∨ X.env.cells.lookup x = some a)) → Q () s') (hf : X.fn x = true ∨ X.env.scope.names.lookup x = some .local := by first | exact .inl rfl | exact .inr rfl | assumption) : wpAny M A (storeName X.env x u) Q E s := by
  obtain ⟨m, hn, hl⟩ := id I.loc
  have hcls : (X.env.scope.kind == .class || (X.env.scope.kind == .module && X.env.locals != X.env.globals)) = false := by rw [I.ok.kind]; rfl
  have hiσ : i < σ.length := by rw [I.len]; exact (List.getElem?_eq_some_iff.mp hi).1
  have cne := I.cne
  have tracked : ∀ {a : Addr} {h' : Heap}, (∃ o, s.heap.get? a = some o ∧ H a = none) → Heap.SameBut a s.heap h' → HOk X.prog X.w H h' := fun {a h'} ha hs b ob e => by
    obtain ⟨_, _, hfree⟩ := ha
    refine (I.hok b ob e).stay (fun c w' hc q => (hs.2 c ?_).trans q) (fun _ q => q) fun _ _ q => q
    rintro rfl
    rcases hc with rfl | hc
    · rw [hfree] at e; cases e
    · rw [hfree] at hc; cases hc
  rcases hx with hk | hk
  · refine wpAny_storeName_local hk hn (fun h' hn' hs => ?_) hcls
    obtain ⟨oL, _, _, hoL, _⟩ := id hn
    refine h _ ⟨I.ok, I.os, I.bare, ⟨fun b o e n hb hx => ?_, fun b o e n hb hx => ?_, I.base.free, fun b o e hx => ?_, I.base.tups, I.base.frzs, I.base.tbls⟩, ⟨_, hn', fun j y v' e1 e2 e3 => ?_⟩, fun y c e => ?_, I.free, I.freeC, fun p hp => ?_, tracked ⟨oL, hoL, I.free⟩ hs, by simpa using I.len⟩ ⟨_, hs, .inl rfl⟩
    · exact (hs.2 b (Nat.ne_of_lt (Nat.lt_of_lt_of_le (Heap.lt_size e) I.ok.above))).trans (I.base.keep b o e n hb hx)
    · obtain ⟨sl, e1⟩ := I.base.slot b o e n hb hx
      exact ⟨sl, (hs.2 b (Nat.ne_of_lt (Nat.lt_of_lt_of_le (Heap.lt_size e) I.ok.above))).trans e1⟩
    · obtain ⟨o', e1⟩ := I.base.there b o e hx
      exact ⟨o', (hs.2 b (Nat.ne_of_lt (Nat.lt_of_lt_of_le (Heap.lt_size e) I.ok.above))).trans e1⟩
    · by_cases hj : j = i
      · subst hj
        rw [hi] at e1; cases e1
        rw [List.getElem?_set_self hiσ] at e2
        cases e2
        exact ⟨u, r, .inl ⟨hk, by simp⟩⟩
      · rw [List.getElem?_set_ne (Ne.symm hj)] at e2
        obtain ⟨u', r', q⟩ := hl j y v' e1 e2 e3
        refine ⟨u', r', ?_⟩
        rcases q with ⟨k, e⟩ | ⟨k, c, e, z⟩
        · refine .inl ⟨k, ?_⟩
          have : y ≠ x := fun e => hj (nodup_ix hN e1 (e ▸ hi))
          simp [this, e]
        · exact .inr ⟨k, c, e, z.sameBut hs (cne y c e)⟩
    · obtain ⟨w', z⟩ := I.cell y c e
      exact ⟨w', z.sameBut hs (cne y c e)⟩
    · obtain ⟨e, n, ne, nf, d⟩ := I.pin p hp
      exact ⟨(hs.2 p.1 ne).trans e, n, ne, nf, d⟩
  · have hfn : X.fn x = true := by
      rcases hf with z | z
      · exact z
      · rw [z] at hk; cases hk
    obtain ⟨c, hc⟩ := I.ok.has x (.inl hk)
    obtain ⟨w', z⟩ := I.cell x c hc
    refine wpAny_storeName_cell I.ok.kind hk hc z (fun h' hc' hs => ?_)
    obtain ⟨oc, hoc, hocd⟩ := id z
    refine h { s with heap := h' } ⟨I.ok, I.os, I.bare, ⟨fun b o e n hb hx => ?_, fun b o e n hb hx => ?_, I.base.free, fun b o e hx => ?_, I.base.tups, I.base.frzs, I.base.tbls⟩, ⟨m, hn.sameBut hs (Ne.symm (cne x c hc)), fun j y v' e1 e2 e3 => ?_⟩, fun y c' e => ?_, I.free, I.freeC, fun p hp => ?_, tracked ⟨oc, hoc, I.freeC x c hc⟩ hs, by simpa using I.len⟩ ⟨c, hs, .inr hc⟩
    · exact (hs.2 b (Nat.ne_of_lt (Nat.lt_of_lt_of_le (Heap.lt_size e) (I.ok.cab x c hfn hc)))).trans (I.base.keep b o e n hb hx)
    · obtain ⟨sl, e1⟩ := I.base.slot b o e n hb hx
      exact ⟨sl, (hs.2 b (Nat.ne_of_lt (Nat.lt_of_lt_of_le (Heap.lt_size e) (I.ok.cab x c hfn hc)))).trans e1⟩
    · obtain ⟨o', e1⟩ := I.base.there b o e hx
      exact ⟨o', (hs.2 b (Nat.ne_of_lt (Nat.lt_of_lt_of_le (Heap.lt_size e) (I.ok.cab x c hfn hc)))).trans e1⟩
    · by_cases hj : j = i
      · subst hj
        rw [hi] at e1; cases e1
        rw [List.getElem?_set_self hiσ] at e2
        cases e2
        exact ⟨u, r, .inr ⟨.inl hk, c, hc, hc'⟩⟩
      · rw [List.getElem?_set_ne (Ne.symm hj)] at e2
        obtain ⟨u', r', q⟩ := hl j y v' e1 e2 e3
        refine ⟨u', r', ?_⟩
        rcases q with q | ⟨k, c', e, z'⟩
        · exact .inl q
        · refine .inr ⟨k, c', e, z'.sameBut hs ?_⟩
          rintro rfl
          exact hj (nodup_ix hN e1 (I.ok.inj _ _ _ e hc ▸ hi))
    · by_cases hcc : c' = c
      · subst hcc; exact ⟨_, hc'⟩
      · obtain ⟨w2, z2⟩ := I.cell y c' e
        exact ⟨w2, z2.sameBut hs hcc⟩
    · obtain ⟨e, n, ne, nf, d⟩ := I.pin p hp
      refine ⟨(hs.2 p.1 ?_).trans e, n, ne, nf, d⟩
      intro q
      rw [q, hoc] at e
      have q' : oc = p.2 := Option.some.inj e
      exact d w' (by rw [← q']; exact hocd)
theorem store_ok {M : Model} {A : Around} {E : Value → Shared → Prop} {i : Nat} {x : Str} {v : V} {u : Value} {Q : Unit → Shared → Prop} (I : Inv X pins σ H s) (hN : X.N.Nodup) (hi : X.N[i]? = some x) (hx : Loc X.env.scope x) (r : RelV v u)
    (h : ∀ s', Inv X pins (σ.set i (some v)) H s' → Q () s') (hf : X.fn x = true ∨ X.env.scope.names.lookup x = some .local := by first | exact .inl rfl | exact .inr rfl | assumption) : wpAny M A (storeName X.env x u) Q E s :=
  store_ok2 I hN hi hx r (fun s' I' _ => h s' I') hf
theorem Inv.call' {s' : Shared} {ch : List Addr} (I : Inv X pins σ H s) (ho : s'.os = s.os) (u : Un (frs X.stack) ch H H' s.heap s'.heap) (hok : HOk X.prog X.w H' s'.heap) (hg : AllBare s'.gens)
    (hch : ∀ b ∈ ch, (b ∈ X.ex ∨ X.s_0.heap.objs.size ≤ b) ∧ b ≠ X.env.locals ∧ (∀ x c, X.env.cells.lookup x = some c → c ≠ b) ∧ ∀ p ∈ X.pn ++ pins, p.1 ≠ b) : Inv X pins σ H' s' := by
  obtain ⟨h', g', d', t', o'⟩ := s'
  have e : o' = s.os := ho
  subst e
  exact I.call (g' := g') (t' := t') (d' := d') u hok hg hch
end
abbrev XK := Value → Option Addr → Hp → Prop
abbrev St := List (Option V)
abbrev VK := V → Hp → Prop
abbrev TE := St → Hp → VK → Prop
abbrev TT := St → Hp → (Bool → Hp → Prop) → Prop
abbrev TA := St → Hp → (List V → Hp → Prop) → Prop
structure Ends where
  nx : St → Hp → Prop
  rt : VK
  bk : St → Hp → Prop := fun _ _ => False
  ct : St → Hp → Prop := fun _ _ => False
abbrev TS := Ends → St → Hp → Prop
def EP (X : Cx) (pins : List (Addr × Obj)) (σ : St) (Q : VK) (u : Value) (s' : Shared) : Prop := ∃ v H', Inv X pins σ H' s' ∧ RelV v u ∧ Q v H'
def TP (X : Cx) (pins : List (Addr × Obj)) (σ : St) (Q : Bool → Hp → Prop) (b : Bool) (s' : Shared) : Prop := ∃ H', Inv X pins σ H' s' ∧ Q b H'
def AP (X : Cx) (pins : List (Addr × Obj)) (σ : St) (Q : List V → Hp → Prop) (us : List Value) (s' : Shared) : Prop := ∃ vs H', Inv X pins σ H' s' ∧ Vals vs us ∧ Q vs H'
def SP (X : Cx) (pins : List (Addr × Obj)) (D : Ends) (f : Flow) (s' : Shared) : Prop :=
  match f with
  | .next => ∃ σ' H', Inv X pins σ' H' s' ∧ D.nx σ' H'
  | .brk => ∃ σ' H', Inv X pins σ' H' s' ∧ D.bk σ' H'
  | .cont => ∃ σ' H', Inv X pins σ' H' s' ∧ D.ct σ' H'
  | .ret u => ∃ v σ' H', Inv X pins σ' H' s' ∧ RelV v u ∧ D.rt v H'
def PE (X : Cx) (e : Expr) (t : TE) : Prop :=
  ∀ (pins : List (Addr × Obj)) (s : Shared) (σ : St) (H : Hp) (Q : VK), Inv X pins σ H s → t σ H Q → wpAny (model X.prog X.w) X.A (eval e X.env) (EP X pins σ Q) X.xe s
def PT (X : Cx) (e : Expr) (t : TT) : Prop :=
  ∀ (pins : List (Addr × Obj)) (s : Shared) (σ : St) (H : Hp) (Q : Bool → Hp → Prop), Inv X pins σ H s → t σ H Q → wpAny (model X.prog X.w) X.A (isTrue e X.env (eval e X.env)) (TP X pins σ Q) X.xe s
def PW (X : Cx) (e : Expr) (t : TT) : Prop :=
  ∀ (whole : Sem Value) (pins : List (Addr × Obj)) (s : Shared) (σ : St) (H : Hp) (Q : Bool → Hp → Prop), Inv X pins σ H s → t σ H Q → wpAny (model X.prog X.w) X.A (isTrue e X.env whole) (TP X pins σ Q) X.xe s
theorem PW.pt {X : Cx} {e : Expr} {t : TT} (h : PW X e t) : PT X e t := h _
def PA (X : Cx) (es : List Expr) (t : TA) : Prop :=
  ∀ (pos : Pos) (pins : List (Addr × Obj)) (s : Shared) (σ : St) (H : Hp) (Q : List V → Hp → Prop), Inv X pins σ H s → t σ H Q → wpAny (model X.prog X.w) X.A (spliced (backTo pos (starEach es X.env))) (AP X pins σ Q) X.xe s
def PS (X : Cx) (st : Stmt) (t : TS) : Prop :=
  ∀ (pins : List (Addr × Obj)) (s : Shared) (σ : St) (H : Hp) (D : Ends), Inv X pins σ H s → t D σ H → wpAny (model X.prog X.w) X.A (exec st X.env) (SP X pins D) X.xe s
def PSs (X : Cx) (st : List Stmt) (t : TS) : Prop :=
  ∀ (pins : List (Addr × Obj)) (s : Shared) (σ : St) (H : Hp) (D : Ends), Inv X pins σ H s → t D σ H → wpAny (model X.prog X.w) X.A (execs st X.env) (SP X pins D) X.xe s
theorem thn {α : Type} {t : Sem α} {Q Q' : α → Shared → Prop} {M : Model} {A : Around} {E : Value → Shared → Prop} {s : Shared} (h : wpAny M A t Q E s) (hQ : ∀ a s, Q a s → Q' a s) : wpAny M A t Q' E s := wpAny_mono h hQ fun _ _ x => x
end L2
namespace L2
open PySem PySem.Spec PyProof.Rows
section
variable {X : Cx}
def tVar (i : Nat) : TE := fun σ H Q => ∃ v, σ[i]? = some (some v) ∧ Q v H
def tC (v : V) : TE := fun _ H Q => Q v H
theorem pe_var {i : Nat} {x : Str} {pos : Pos} (hN : X.N[i]? = some x) (hv : Vis X.env.scope x) (hd : (x == ("__debug__" : Str)) = false := by decide) (hcd : (x == ("__classdict__" : Str)) = false := by decide) : PE X (.Name x pos) (tVar i) := by
  intro pins s σ H Q I h
  obtain ⟨v, e, h⟩ := h
  obtain ⟨m, hn, hl⟩ := I.loc
  obtain ⟨u, r, l⟩ := hl i x v hN e hv
  have fin : EP X pins σ Q u s := ⟨v, H, I, r, h⟩
  rcases l with ⟨hk, hm⟩ | ⟨hk, c, hc, hcell⟩
  · exact wpAny_Name (wpAny_loadName_local I.ok.kind hk hn hm fin) hd
  · rcases hk with hk | hk
    · exact wpAny_Name (wpAny_loadName_cell I.ok.kind hk hc hcell fin) hd
    · exact wpAny_Name (wpAny_loadName_free I.ok.kind hk hc hcell fin hcd) hd
theorem pe_int {i j pos} : PE X (.Constant (.int i) j pos) (tC (.int i)) := fun _ _ _ H _ I h => wpAny_Constant_int ⟨.int i, H, I.tok _, ⟨_, rfl⟩, h⟩
theorem pe_bl {b j pos} : PE X (.Constant (.bool b) j pos) (tC (.bl b)) := fun _ _ _ H _ I h => Constant_bool ⟨.bl b, H, I, rfl, h⟩
theorem pe_non {j pos} : PE X (.Constant .none j pos) (tC .non) := fun _ _ _ H _ I h => Constant_none ⟨.non, H, I, rfl, h⟩
def Gl (X : Cx) (x : Str) : Prop := X.env.kindOf x = some .globalImplicit
theorem ld_glob {E : Value → Shared → Prop} {pins : List (Addr × Obj)} {s : Shared} {σ : St} {H : Hp} {x : Str} {u : Value} {pos : Pos} {Q : Value → Shared → Prop} (I : Inv X pins σ H s) (hg : Gl X x) (hm : X.mg x = some u) (h : Q u s)
    (hd : (x == ("__debug__" : Str)) = false := by decide) : wpAny (model X.prog X.w) X.A (eval (.Name x pos) X.env) Q E s :=
  Calls.Name_function_global I.ok.kind hg (Calls.loadGlobal_global (by rw [I.ok.glob]; exact I.mod.glob.keeps I.bk) hm h) hd
theorem ld_blt {E : Value → Shared → Prop} {pins : List (Addr × Obj)} {s : Shared} {σ : St} {H : Hp} {x : Str} {u : Value} {pos : Pos} {Q : Value → Shared → Prop} (I : Inv X pins σ H s) (hg : Gl X x) (hm : X.mg x = none) (hv : bootBuiltins x = some u) (h : Q u s)
    (hn : x ≠ "__name__" := by decide) (hd : (x == ("__debug__" : Str)) = false := by decide) : wpAny (model X.prog X.w) X.A (eval (.Name x pos) X.env) Q E s := by
  obtain ⟨mb, h1, h2⟩ := I.mod.blt
  exact Calls.Name_function_global I.ok.kind hg (Calls.loadGlobal_builtin (by rw [I.ok.glob]; exact I.mod.glob.keeps I.bk) hm (by rw [I.ok.blt]; exact h1.keeps I.bk) ((h2 x hn).trans hv) h) hd
theorem pe_glob {x : Str} {v : V} {u : Value} {pos : Pos} (hg : Gl X x) (hm : X.mg x = some u) (r : RelV v u) (hd : (x == ("__debug__" : Str)) = false := by decide) : PE X (.Name x pos) (tC v) :=
  fun _ _ _ H _ I h => ld_glob I hg hm ⟨v, H, I, r, h⟩ hd
variable {a b : Expr} {ta tb : TE} {pos : Pos}
def PC (X : Cx) (op : CmpOp) (a b : Expr) (t : TE) : Prop :=
  ∀ (pins : List (Addr × Obj)) (s : Shared) (σ : St) (H : Hp) (Q : VK), Inv X pins σ H s → t σ H Q →
    wpAny (model X.prog X.w) X.A (eval a X.env) (fun v s₁ => wpAny (model X.prog X.w) X.A (eval b X.env) (fun u s₂ => wpAny (model X.prog X.w) X.A (compareOp op v u) (EP X pins σ Q) X.xe s₂) X.xe s₁) X.xe s
def tB (t : TE) : TT := fun σ H Q => t σ H fun x H1 => ∃ c, x = .bl c ∧ Q c H1
theorem pt_cmp {op : CmpOp} {t : TE} (h : PC X op a b t) (h1 : behindInMarks op b = false := by first | exact nobehind _ (by decide) (by decide) | rfl) : PT X (.Compare a [op] [b] pos) (tB t) := by
  intro pins s σ H Q I hw
  refine wpAny_isTrue_Compare1 (thn (h pins s σ H _ I hw) fun v s1 h1 => thn h1 fun u s2 h2 => thn h2 fun c s3 ⟨x, H1, I1, r1, q1⟩ => ?_) h1
  obtain ⟨d, rfl, q⟩ := q1
  cases r1
  exact wpAny_truthy_bool ⟨H1, I1, q⟩
theorem pt_val {e : Expr} {t : TE} (h : PE X e t) (he : ∀ whole, isTrue e X.env whole = (do let v ← whole; standAt e.pos; holding [v] (truthy v)) := by intro _; rfl) : PT X e (tB t) := by
  intro pins s σ H Q I hw
  refine isTrue_plain (thn (h pins s σ H _ I hw) fun v s1 ⟨x, H1, I1, r1, q1⟩ => ?_) (he _)
  obtain ⟨d, rfl, q⟩ := q1
  cases r1
  exact wpAny_truthy_bool ⟨H1, I1, q⟩
variable {tA tB' : TT} {rest : List Expr}
def tOr (t u : TT) : TT := fun σ H Q => t σ H fun c H1 => if c = true then Q true H1 else u σ H1 Q
def tNot (t : TT) : TT := fun σ H Q => t σ H fun c H1 => Q (!c) H1
theorem pw_or1 (ha : PT X a tA) : PW X (.BoolOp .Or [a] pos) tA := by
  intro wh pins s σ H Q I h
  refine isTrue_or (thn (ha pins s σ H Q I h) fun c s1 e => ?_)
  cases c with
  | false => exact isTrue_or_nil e
  | true => exact e
theorem pw_or (ha : PT X a tA) (hb : PW X (.BoolOp .Or (b :: rest) pos) tB') : PW X (.BoolOp .Or (a :: b :: rest) pos) (tOr tA tB') := by
  intro wh pins s σ H Q I h
  refine isTrue_or (thn (ha pins s σ H _ I h) fun c s1 ⟨H1, I1, q1⟩ => ?_)
  cases c with
  | true => exact ⟨H1, I1, q1⟩
  | false => exact hb wh pins s1 σ H1 Q I1 q1
theorem pt_not (ha : PT X a tA) : PT X (.UnaryOp .Not a pos) (tNot tA) := by
  intro pins s σ H Q I h
  exact isTrue_not (ha pins s σ H (fun c H1 => Q (!c) H1) I h)
def tAndV (ta tb : TE) : TE := fun σ H Q => ta σ H fun x H1 => ∃ c, x = .bl c ∧ if c = true then tb σ H1 Q else Q (.bl false) H1
def tOrV (ta tb : TE) : TE := fun σ H Q => ta σ H fun x H1 => ∃ c, x = .bl c ∧ if c = true then Q (.bl true) H1 else tb σ H1 Q
theorem pe_one {op} {t : TE} (h : PE X a t) : PE X (.BoolOp op [a] pos) t := fun pins s σ H Q I hw => BoolOp_one (h pins s σ H Q I hw)
theorem pe_and (ha : PE X a ta) (hb : PE X (.BoolOp .And (b :: rest) pos) tb) : PE X (.BoolOp .And (a :: b :: rest) pos) (tAndV ta tb) := by
  intro pins s σ H Q I h
  refine BoolOp_and (thn (ha pins s σ H _ I h) fun v s1 ⟨x, H1, I1, r1, q1⟩ => ?_)
  obtain ⟨c, rfl, q1⟩ := q1
  cases r1
  refine wpAny_truthy_bool ?_
  cases c with
  | true => exact hb pins s1 σ H1 Q I1 q1
  | false => exact ⟨.bl false, H1, I1, rfl, q1⟩
theorem pe_or (ha : PE X a ta) (hb : PE X (.BoolOp .Or (b :: rest) pos) tb) : PE X (.BoolOp .Or (a :: b :: rest) pos) (tOrV ta tb) := by
  intro pins s σ H Q I h
  refine BoolOp_or (thn (ha pins s σ H _ I h) fun v s1 ⟨x, H1, I1, r1, q1⟩ => ?_)
  obtain ⟨c, rfl, q1⟩ := q1
  cases r1
  refine wpAny_truthy_bool ?_
  cases c with
  | false => exact hb pins s1 σ H1 Q I1 q1
  | true => exact ⟨.bl true, H1, I1, rfl, q1⟩
def tIf (t : TT) (ta tb : TE) : TE := fun σ H Q => t σ H fun c H1 => if c = true then ta σ H1 Q else tb σ H1 Q
theorem pe_ifExp {c : Expr} (hc : PT X c tA) (ha : PE X a ta) (hb : PE X b tb) : PE X (.IfExp c a b pos) (tIf tA ta tb) := by
  intro pins s σ H Q I h
  refine wpAny_IfExp (thn (hc pins s σ H _ I h) fun d s1 ⟨H1, I1, q1⟩ => ?_)
  cases d with
  | true => exact ha pins s1 σ H1 Q I1 q1
  | false => exact hb pins s1 σ H1 Q I1 q1
end
end L2
namespace L2
open PySem PySem.Spec PyProof.Rows
def SqL (K : PySem.W.Frag) (H : Hp) (a : Addr) (xs : List V) : Prop :=
  Rd H a (.lst xs) ∨
    ∃ (o : Obj) (its : Array Value) (n : Nat), K.lookup a = some o ∧ o.cls = .type "list" ∧ o.dict = none ∧ o.data = .seq its n ∧ its.size ≤ sizeLine ∧ Vals xs its.toList
def SqT (K : PySem.W.Frag) (H : Hp) (a : Addr) (xs : List V) : Prop :=
  Rd H a (.tup xs) ∨
    ∃ (o : Obj) (its : Array Value) (n : Nat), K.lookup a = some o ∧ o.cls = .type "tuple" ∧ o.data = .seq its n ∧ its.size ≤ sizeLine ∧ Vals xs its.toList
def absV : Value → Option V
  | .none => some .non
  | .bool b => some (.bl b)
  | .int i _ => some (.int i)
  | .str x _ => some (.str x)
  | .bytes b _ => some (.byt b)
  | .float b _ => some (.flt b)
  | .ref a => some (.ref a)
  | .type n => some (.ty n)
  | _ => none
theorem RelV.abs {x : V} {u : Value} (r : RelV x u) : absV u = some x := by
  cases x with
  | non => cases r; rfl
  | bl _ => cases r; rfl
  | int _ => obtain ⟨t, rfl⟩ := r; rfl
  | str _ => obtain ⟨t, rfl⟩ := r; rfl
  | byt _ => obtain ⟨t, rfl⟩ := r; rfl
  | flt _ => obtain ⟨t, rfl⟩ := r; rfl
  | ref _ => cases r; rfl
  | ty _ => cases r; rfl
theorem RelV.inj {x y : V} {u : Value} (r : RelV x u) (q : RelV y u) : x = y := Option.some.inj (r.abs.symm.trans q.abs)
theorem Vals.inj : ∀ {xs ys : List V} {us : List Value}, Vals xs us → Vals ys us → xs = ys
  | _, _, _, .nil, .nil => rfl
  | _, _, _, .cons r t, .cons r' t' => by rw [r.inj r', Vals.inj t t']
section
variable {X : Cx} {pins : List (Addr × Obj)} {σ : St} {H : Hp} {s : Shared} {a : Addr} {xs ys : List V}
theorem SqL.of {K : PySem.W.Frag} (h : H a = some (.lst xs)) : SqL K H a xs := .inl (.inl h)
theorem SqT.of {K : PySem.W.Frag} (h : H a = some (.tup xs)) : SqT K H a xs := .inl (.inl h)
theorem Inv.list (I : Inv X pins σ H s) (h : SqL X.K H a xs) : ∃ its : List Value, Vals xs its ∧ PlainL s.heap a its.toArray ∧ xs.length ≤ sizeLine := by
  rcases h with h | ⟨o, its, n, hk, hc, hd, hs, hz, r⟩
  · obtain ⟨z, its, n, r, e⟩ := h.ok I.hok
    exact ⟨its, r, ⟨_, n, e, rfl, rfl, rfl⟩, z⟩
  · refine ⟨its.toList, r, ⟨o, n, I.kIn a o hk, hc, hd, by simpa using hs⟩, ?_⟩
    have e := r.length
    simp only [Array.length_toList] at e
    omega
theorem Inv.tuple (I : Inv X pins σ H s) (h : SqT X.K H a xs) : ∃ its : List Value, Vals xs its ∧ IsTup s.heap a its.toArray ∧ xs.length ≤ sizeLine := by
  rcases h with h | ⟨o, its, n, hk, hc, hs, hz, r⟩
  · obtain ⟨z, its, r, p⟩ := h.ok I.hok
    exact ⟨its, r, p, z⟩
  · refine ⟨its.toList, r, ⟨o, I.kIn a o hk, hc, n, by simpa using hs⟩, ?_⟩
    have e := r.length
    simp only [Array.length_toList] at e
    omega
theorem Inv.list_inj (I : Inv X pins σ H s) (h : SqL X.K H a xs) (h' : SqL X.K H a ys) : xs = ys := by
  obtain ⟨its, r, ⟨o, n, e, _, _, d⟩, _⟩ := I.list h
  obtain ⟨its', r', ⟨o', n', e', _, _, d'⟩, _⟩ := I.list h'
  rw [e] at e'; cases e'
  rw [d] at d'
  injection d' with d1 _
  have : its = its' := by simpa using congrArg Array.toList d1
  subst this
  exact r.inj r'
end
abbrev Cx.wish (X : Cx) (E : Value → Shared → Prop) : Cx := { X with xe := E }
abbrev Cx.nox (X : Cx) : Cx := X.wish fun _ _ => False
theorem Cx.Ok.wish {X : Cx} (ok : X.Ok) (E : Value → Shared → Prop) : (X.wish E).Ok :=
  ⟨ok.mod, ok.kind, ok.glob, ok.blt, ok.above, ok.inj, ok.has, ok.cab, ok.hd, ok.frames, ok.stk, ok.exf, ok.bs, ok.bsz, ok.noex, ok.exfs, ok.funs, ok.frf⟩
theorem Cx.Ok.unwish {X : Cx} {E : Value → Shared → Prop} (ok : (X.wish E).Ok) : X.Ok :=
  ⟨ok.mod, ok.kind, ok.glob, ok.blt, ok.above, ok.inj, ok.has, ok.cab, ok.hd, ok.frames, ok.stk, ok.exf, ok.bs, ok.bsz, ok.noex, ok.exfs, ok.funs, ok.frf⟩
section
variable {X : Cx} {pins : List (Addr × Obj)} {σ : St} {H : Hp} {s : Shared} {E : Value → Shared → Prop}
theorem Inv.wish (I : Inv X pins σ H s) (E : Value → Shared → Prop) : Inv (X.wish E) pins σ H s := ⟨I.ok.wish E, I.os, I.bare, I.base, I.loc, I.cell, I.free, I.freeC, I.pin, I.hok, I.len⟩
theorem Inv.unwish (I : Inv (X.wish E) pins σ H s) : Inv X pins σ H s := ⟨I.ok.unwish, I.os, I.bare, I.base, I.loc, I.cell, I.free, I.freeC, I.pin, I.hok, I.len⟩
theorem SP.unwish {D : Ends} {f : Flow} {s' : Shared} (h : SP (X.wish E) pins D f s') : SP X pins D f s' := by
  cases f with
  | next => obtain ⟨σ', H', I, q⟩ := h; exact ⟨σ', H', I.unwish, q⟩
  | brk => obtain ⟨σ', H', I, q⟩ := h; exact ⟨σ', H', I.unwish, q⟩
  | cont => obtain ⟨σ', H', I, q⟩ := h; exact ⟨σ', H', I.unwish, q⟩
  | ret u => obtain ⟨v, σ', H', I, r, q⟩ := h; exact ⟨v, σ', H', I.unwish, r, q⟩
theorem PSs.nox {st : List Stmt} {t : TS} (h : PSs X.nox st t) : PSs X st t := fun pins s σ H D I hw =>
  wpAny_mono (h pins s σ H D (I.wish _) hw) (fun _ _ q => q.unwish) fun _ _ z => False.elim z
end
section
variable {X : Cx} {st : Stmt} {rest : List Stmt} {t u : TS} {e : Expr} {te : TE} {pos : Pos}
def tNext : TS := fun D σ H => D.nx σ H
def tSeq (t u : TS) : TS := fun D σ H => t { D with nx := u D } σ H
theorem pss_nil : PSs X [] tNext := fun _ _ σ H _ I h => wpAny_execs_nil ⟨σ, H, I, h⟩
theorem pss_cons (h1 : PS X st t) (h2 : PSs X rest u) : PSs X (st :: rest) (tSeq t u) := by
  intro pins s σ H D I h
  refine wpAny_execs_cons (thn (h1 pins s σ H { D with nx := u D } I h) fun f s1 q => ?_)
  cases f with
  | next =>
    obtain ⟨σ', H', I', q⟩ := q
    exact h2 pins s1 σ' H' D I' q
  | ret v => exact q
  | brk => exact q
  | cont => exact q
theorem pss_one (h1 : PS X st t) : PSs X [st] t := by
  intro pins s σ H D I h
  refine wpAny_execs_cons (thn (h1 pins s σ H D I h) fun f s1 q => ?_)
  cases f with
  | next => exact wpAny_execs_nil q
  | ret v => exact q
  | brk => exact q
  | cont => exact q
theorem Inv.quiet {pins : List (Addr × Obj)} {σ : St} {H : Hp} {s : Shared} (I : Inv X pins σ H s) : interactive X.env = false := by simp [interactive, I.ok.kind]
def tDrop (te : TE) : TS := fun D σ H => te σ H fun _ H1 => D.nx σ H1
theorem ps_expr (he : PE X e te) (hs : swapsWith e none pos.line X.env = pure false := by rfl) : PS X (.Expr e pos) (tDrop te) := by
  intro pins s σ H D I h
  exact wpAny_Expr_any (thn (he pins s σ H _ I h) fun v s1 ⟨x, H1, I1, r1, q1⟩ => ⟨σ, H1, I1, q1⟩) I.quiet hs
def tRet (te : TE) : TS := fun D σ H => te σ H D.rt
theorem ps_ret (he : PE X e te) : PS X (.Return (some e) pos) (tRet te) := by
  intro pins s σ H D I h
  exact wpAny_Return_some (thn (he pins s σ H _ I h) fun v s1 ⟨x, H1, I1, r1, q1⟩ => ⟨x, σ, H1, I1, r1, q1⟩)
def tIfS (c : TT) (t u : TS) : TS := fun D σ H => c σ H fun b H1 => if b = true then t D σ H1 else u D σ H1
theorem ps_if {c : Expr} {a b : List Stmt} {tc : TT} (hc : PT X c tc) (ha : PSs X a t) (hb : PSs X b u) : PS X (.If c a b pos) (tIfS tc t u) := by
  intro pins s σ H D I h
  refine wpAny_If (thn (hc pins s σ H _ I h) fun d s1 ⟨H1, I1, q1⟩ => ?_)
  cases d with
  | true => exact ha pins s1 σ H1 D I1 q1
  | false => exact hb pins s1 σ H1 D I1 q1
end
abbrev TG := V → St → Hp → (St → Hp → Prop) → Prop
abbrev TGs := List V → St → Hp → (St → Hp → Prop) → Prop
def PG (X : Cx) (target : Expr) (t : TG) : Prop :=
  ∀ (pins : List (Addr × Obj)) (s : Shared) (σ : St) (H : Hp) (v : V) (u : Value) (Q : St → Hp → Prop), Inv X pins σ H s → RelV v u → t v σ H Q →
    wpAny (model X.prog X.w) X.A (assign target X.env u) (fun _ s' => ∃ σ' H', Inv X pins σ' H' s' ∧ Q σ' H') X.xe s
def PGs (X : Cx) (ts : List Expr) (t : TGs) : Prop :=
  ∀ (pins : List (Addr × Obj)) (s : Shared) (σ : St) (H : Hp) (vs : List V) (us : List Value) (Q : St → Hp → Prop), Inv X pins σ H s → Vals vs us → t vs σ H Q →
    wpAny (model X.prog X.w) X.A (assignInOrder ((assignEach ts X.env).map (·.2)) us) (fun _ s' => ∃ σ' H', Inv X pins σ' H' s' ∧ Q σ' H') X.xe s
abbrev TSet := V → V → V → Hp → (Hp → Prop) → Prop
def PSet (X : Cx) (t : TSet) : Prop :=
  ∀ (pins : List (Addr × Obj)) (s : Shared) (σ : St) (H : Hp) (o i v : V) (ov iv u : Value) (Q : Hp → Prop), Inv X pins σ H s → RelV o ov → RelV i iv → RelV v u → t o i v H Q →
    wpAny (model X.prog X.w) X.A (setItem ov iv u) (fun _ s' => ∃ H', Inv X pins σ H' s' ∧ Q H') X.xe s
section
variable {X : Cx} {pos : Pos}
def gName (i : Nat) : TG := fun v σ H Q => Q (σ.set i (some v)) H
theorem pg_name {i : Nat} {x : Str} (hN : X.N.Nodup) (hi : X.N[i]? = some x) (hx : Loc X.env.scope x) (hf : X.fn x = true ∨ X.env.scope.names.lookup x = some .local := by first | exact .inl rfl | exact .inr rfl | assumption) : PG X (.Name x pos) (gName i) := by
  intro pins s σ H v u Q I r h
  exact wpAny_assign_Name (store_ok I hN hi hx r (fun s' I' => ⟨_, H, I', h⟩) hf)
def gNil : TGs := fun vs σ H Q => vs = [] ∧ Q σ H
def gCons (t : TG) (u : TGs) : TGs := fun vs σ H Q => ∃ v r, vs = v :: r ∧ t v σ H fun σ' H' => u r σ' H' Q
theorem pgs_nil : PGs X [] gNil := by
  intro pins s σ H vs us Q I r h
  obtain ⟨e, h⟩ := h
  subst e
  cases r
  exact assignInOrder_nil ⟨σ, H, I, h⟩
theorem pgs_cons {e : Expr} {es : List Expr} {t : TG} {u : TGs} (h1 : PG X e t) (h2 : PGs X es u)
    (hs : (assignEach (e :: es) X.env).map (·.2) = assign e X.env :: (assignEach es X.env).map (·.2) := by rfl) : PGs X (e :: es) (gCons t u) := by
  intro pins s σ H vs us Q I r h
  obtain ⟨v, vr, e1, h⟩ := h
  subst e1
  cases r with
  | cons r rr =>
    rw [hs]
    refine assignInOrder_cons (thn (h1 pins s σ H _ _ _ I r h) fun _ s1 ⟨σ1, H1, I1, q1⟩ => ?_)
    exact h2 pins s1 σ1 H1 _ _ Q I1 rr q1
def gTup (K : PySem.W.Frag) (n : Nat) (t : TGs) : TG := fun v σ H Q => ∃ a xs, v = .ref a ∧ SqT K H a xs ∧ xs.length = n ∧ t xs σ H Q
theorem pg_tup {es : List Expr} {k : Nat} {t : TGs} {n : Nat} (hc : X.calm = true) (h : PGs X es t)
    (hn : (assignEach es X.env).length = n := by rfl) (hst : (assignEach es X.env).findIdx? (·.1) = none := by rfl) : PG X (.Tuple es k pos) (gTup X.K n t) := by
  intro pins s σ H v u Q I r hw
  obtain ⟨a, xs, e1, hq, hl, hw⟩ := hw
  subst e1
  cases r
  obtain ⟨its, rv, ht, hz⟩ := I.tuple hq
  refine assign_Tuple_tuple (I.ok.hd hc) ht (by simp [hn, ← hl, rv.length]) hst fun h' hx => ?_
  have I1 : Inv X pins σ H { s with heap := h' } := I.kept (t' := s.toks) fun b o e => hx b o (Nat.ne_of_lt (Heap.lt_size e)) e
  exact h pins _ σ H xs _ Q I1 (by simpa using rv) hw
def gSub (to ti : TE) (t : TSet) : TG := fun v σ H Q => to σ H fun o H1 => ti σ H1 fun i H2 => t o i v H2 fun H3 => Q σ H3
theorem pg_sub {o i : Expr} {to ti : TE} {t : TSet} (ho : PE X o to) (hi : PE X i ti) (hs : PSet X t)
    (ha : ∀ v, assign (.Subscript o i pos) X.env v = (do
      let ov ← holding [v] (eval o X.env)
      let iv ← holding [v, ov] (eval i X.env)
      standAt pos
      holding [v, ov, iv] (setItem ov iv v)
      release [v, ov, iv] []) := by intro _; rfl) : PG X (.Subscript o i pos) (gSub to ti t) := by
  intro pins s σ H v u Q I r h
  rw [ha]
  refine wpAny_bind (wpAny_holding (thn (ho pins s σ H _ I h) fun ov s1 ⟨x, H1, I1, r1, q1⟩ => ?_))
  refine wpAny_bind (wpAny_holding (thn (hi pins s1 σ H1 _ I1 q1) fun iv s2 ⟨y, H2, I2, r2, q2⟩ => ?_))
  refine wpAny_bind (wpAny_standAt (wpAny_bind (wpAny_holding (thn (hs pins s2 σ H2 x y v ov iv u _ I2 r1 r2 r q2) fun _ s3 ⟨H3, I3, q3⟩ => ?_))))
  exact wpAny_release ⟨σ, H3, I3, q3⟩
def tAsg (te : TE) (g : TG) : TS := fun D σ H => te σ H fun x H1 => g x σ H1 D.nx
theorem ps_asg {tg e : Expr} {te : TE} {g : TG} (he : PE X e te) (hg : PG X tg g) (hs : swapsWithSole [tg] e pos.line X.env = pure false := by rfl) (hw : swappedStores [tg] e X.env = pure none := by rfl)
    (h1 : (assignEach [tg] X.env).map (·.2) = [assign tg X.env] := by rfl) : PS X (.Assign [tg] e pos) (tAsg te g) := by
  intro pins s σ H D I h
  refine wpAny_Assign_stores (thn (he pins s σ H _ I h) fun v s1 ⟨x, H1, I1, r1, q1⟩ => ?_) hs hw
  rw [h1]
  exact thn (hg pins s1 σ H1 x v _ I1 r1 q1) fun _ s2 q => q
theorem ps_set {i : Nat} {x : Str} {e : Expr} {te : TE} {pos' : Pos} (hN : X.N.Nodup) (hi : X.N[i]? = some x) (hx : Loc X.env.scope x) (he : PE X e te) (hs : swapsWith e (some (.Name x pos')) pos.line X.env = pure false := by rfl) (hf : X.fn x = true ∨ X.env.scope.names.lookup x = some .local := by first | exact .inl rfl | exact .inr rfl | assumption) :
    PS X (.Assign [.Name x pos'] e pos) (tAsg te (gName i)) := by
  intro pins s σ H D I h
  refine wpAny_Assign_Name (thn (he pins s σ H _ I h) fun v s1 ⟨y, H1, I1, r1, q1⟩ => ?_) hs
  exact store_ok I1 hN hi hx r1 (fun s2 I2 => ⟨_, H1, I2, q1⟩) hf
end
section
variable {X : Cx} {pos : Pos}
def tWhile (c : TT) (tb : TS) : TS := fun D σ H => ∃ W : Nat → St → Hp → Prop, (∃ m, W m σ H) ∧ ∀ m σ H, W m σ H →
  c σ H fun b H1 => if b = true then ∃ N : St → Hp → Prop, (∀ σ' H', N σ' H' → ∃ m', m' < m ∧ W m' σ' H') ∧ tb { D with nx := N, ct := N, bk := D.nx } σ H1 else D.nx σ H1
theorem ps_while {c : Expr} {body : List Stmt} {tc : TT} {tb : TS} (hp : PassesOwn (model X.prog X.w) X.A X.env X.xe) (hc : PT X c tc) (hb : PSs X body tb) : PS X (.While c body [] pos) (tWhile tc tb) := by
  intro pins s σ H D I h
  obtain ⟨W, ⟨m0, w0⟩, turn⟩ := h
  refine wpAny_While (codeAny_whileLoop (fun n s' => ∃ σ' H', Inv X pins σ' H' s' ∧ W n σ' H') ?_ m0 ⟨σ, H, I, w0⟩)
  rintro n s1 ⟨σ1, H1, I1, w1⟩
  refine wpAny_passesOwn hp (thn (hc pins s1 σ1 H1 _ I1 (turn n σ1 H1 w1)) fun b s2 ⟨H2, I2, q2⟩ => ?_)
  cases b with
  | true =>
    obtain ⟨N, hN, q2⟩ := q2
    rw [if_pos rfl]
    refine wpAny_passesOwn hp (thn (hb pins s2 σ1 H2 _ I2 q2) fun f s3 q3 => ?_)
    cases f with
    | next =>
      obtain ⟨σ3, H3, I3, n3⟩ := q3
      obtain ⟨m', hm, w3⟩ := hN σ3 H3 n3
      exact ⟨m', hm, σ3, H3, I3, w3⟩
    | cont =>
      obtain ⟨σ3, H3, I3, n3⟩ := q3
      obtain ⟨m', hm, w3⟩ := hN σ3 H3 n3
      exact ⟨m', hm, σ3, H3, I3, w3⟩
    | brk => exact q3
    | ret v => exact q3
  | false =>
    rw [if_neg Bool.false_ne_true]
    exact wpAny_execs_nil ⟨σ1, H2, I2, q2⟩
end
structure It where
  go : Nat → Hp → Prop
  yld : Nat → Hp → V → Hp → Prop
  stop : Nat → Hp → Prop
def FpOk (X : Cx) (pins : List (Addr × Obj)) (H : Hp) (b : Addr) : Prop :=
  H b = none ∧ b ≠ X.env.locals ∧ b ∉ X.fs ∧ (b ∈ X.ex ∨ X.s_0.heap.objs.size ≤ b) ∧ (∀ x c, X.env.cells.lookup x = some c → c ≠ b) ∧ ∀ p ∈ X.pn ++ pins, p.1 ≠ b
theorem Inv.fpOk {X : Cx} {pins : List (Addr × Obj)} {σ : St} {H H' : Hp} {s : Shared} {b : Addr} (I : Inv X pins σ H s) (hb : s.heap.objs.size ≤ b) (hn : H' b = none) : FpOk X pins H' b := by
  refine ⟨hn, Nat.ne_of_gt (Nat.lt_of_lt_of_le I.lt hb), I.nofs hb, .inr (Nat.le_trans I.sz hb), fun x c e z => ?_, fun p hp z => ?_⟩
  · obtain ⟨v, q⟩ := I.cell x c e
    exact absurd (Nat.lt_of_lt_of_le q.lt (by rw [z]; exact hb)) (Nat.lt_irrefl _)
  · exact absurd (Nat.lt_of_lt_of_le (Heap.lt_size (I.pin p hp).1) (by rw [z]; exact hb)) (Nat.lt_irrefl _)
structure Turn (P : Program) (w : World) (K : PySem.W.Frag) (tg : Expr) (J : It) (fp : List Addr) (it : Addr) (tn : Nat → Heap → Prop) : Prop where
  mem : it ∈ fp
  obj : ∀ i h, tn i h → ∀ b ∈ fp, ∃ o, h.get? b = some o ∧ ∀ v, o.data ≠ .cell v
  keep : ∀ i h h', tn i h → (∀ b ∈ fp, ∀ o, h.get? b = some o → h'.get? b = some o) → tn i h'
  item : ∀ (X : Cx), X.prog = P → X.w = w → X.K = K → X.calm = true → ∀ (i : Nat) (pins : List (Addr × Obj)) (s : Shared) (σ : St) (H : Hp) (E : Value → Shared → Prop), Inv X pins σ H s → (∀ b ∈ fp, FpOk X pins H b) → tn i s.heap → J.go i H →
    wpAny (model P w) X.A (pyNext (.ref it)) (fun r s1 => ∃ u, r = some u ∧
      wpAny (model P w) X.A (letOwnedTupleGo tg (.ref it) u) (fun _ s2 => ∃ x H', Inv X pins σ H' s2 ∧ RelV x u ∧ J.yld i H x H' ∧ tn (i + 1) s2.heap ∧ ∀ b ∈ fp, H' b = none) E s1) E s
  done : ∀ (X : Cx), X.prog = P → X.w = w → X.K = K → X.calm = true → ∀ (i : Nat) (pins : List (Addr × Obj)) (s : Shared) (σ : St) (H : Hp) (E : Value → Shared → Prop), Inv X pins σ H s → (∀ b ∈ fp, FpOk X pins H b) → tn i s.heap → J.stop i H →
    wpAny (model P w) X.A (pyNext (.ref it)) (fun r s1 => r = none ∧ Inv X pins σ H s1) E s
  self : ∀ (A : Around) (i : Nat) (s : Shared) (Q : Value → Shared → Prop) (E : Value → Shared → Prop), tn i s.heap → Q (.ref it) s → wpAny (model P w) A (pyIter (.ref it)) Q E s
abbrev TI := St → Hp → (It → Hp → Prop) → Prop
def PIE (X : Cx) (pins : List (Addr × Obj)) (σ : St) (tg : Expr) (R : It → Hp → Prop) (itv : Value) (s2 : Shared) : Prop :=
  ∃ (it : Addr) (fp : List Addr) (tn : Nat → Heap → Prop) (J : It) (H' : Hp), itv = .ref it ∧ Inv X pins σ H' s2 ∧ Turn X.prog X.w X.K tg J fp it tn ∧ tn 0 s2.heap ∧ (∀ b ∈ fp, FpOk X pins H' b) ∧ R J H'
def PI (X : Cx) (tg iter : Expr) (wi : TI) : Prop :=
  ∀ (pins : List (Addr × Obj)) (s : Shared) (σ : St) (H : Hp) (R : It → Hp → Prop), Inv X pins σ H s → wi σ H R →
    wpAny (model X.prog X.w) X.A (eval iter X.env) (fun v s1 => wpAny (model X.prog X.w) X.A (pyIter v) (PIE X pins σ tg R) X.xe s1) X.xe s
theorem go_of {M : Model} {A : Around} {E : Value → Shared → Prop} {s : Shared} {tg : Expr} {it : Addr} {u : Value} {o : Obj} {n : String} {vs : Array Value} {Q : Unit → Shared → Prop} (ho : s.heap.get? it = some o) (hc : o.cls = .type n) (hd : o.data = .fields vs)
    (hn : ["enumerate", "zip", "dict_itemiterator", "dict_reverseitemiterator", "odict_iterator", "itertools.zip_longest", "itertools.pairwise"].contains n = false) (hQ : Q () s) : wpAny M A (letOwnedTupleGo tg (.ref it) u) Q E s := by
  unfold letOwnedTupleGo
  cases tg <;> first
    | exact wpAny_pure hQ
    | (cases u <;> first
        | exact wpAny_pure hQ
        | (refine wpAny_bind (wpAny_load ho ?_)
           rw [hc, hd]
           show wpAny M A (if (["enumerate", "zip", "dict_itemiterator", "dict_reverseitemiterator", "odict_iterator", "itertools.zip_longest", "itertools.pairwise"].contains n && vs[0]? == some (rawInt _)) = true then _ else _) Q E s
           rw [if_neg (by intro h; rw [hn, Bool.false_and] at h; cases h)]
           exact wpAny_pure hQ))
def Itl (K : PySem.W.Frag) (a : Addr) : It :=
  ⟨fun i H => ∃ xs x, SqL K H a xs ∧ xs[i]? = some x, fun i H x H' => H' = H ∧ ∀ xs, SqL K H a xs → xs[i]? = some x, fun i H => ∃ xs, SqL K H a xs ∧ xs.length ≤ i⟩
def Itr (lo : Int) (n : Nat) : It := ⟨fun i _ => i < n, fun i H x H' => H' = H ∧ x = .int (lo + i), fun i _ => n ≤ i⟩
theorem turn_list {P : Program} {w : World} {K : PySem.W.Frag} {tg : Expr} (a it : Addr) : Turn P w K tg (Itl K a) [it] it (fun i h => h.IsListIter it a i) where
  mem := by simp
  obj := fun i h st b hb => by
    have e : b = it := by simpa using hb
    subst e
    obtain ⟨o, e, c, d⟩ := st
    exact ⟨o, e, fun v z => by rw [d] at z; cases z⟩
  keep := fun i h h' st k => st.at fun o e => k it (by simp) o e
  item := by
    intro X hP hw hK hc i pins s σ H E I hf st hg
    subst hP hw hK
    obtain ⟨xs, x, hq, hx⟩ := hg
    obtain ⟨its, rv, p, hz⟩ := I.list hq
    obtain ⟨u, hu, ru⟩ := rv.get hx
    obtain ⟨f0, f1, f2, f3, f4, f5⟩ := hf it (by simp)
    refine wpAny_pyNext_list_item st p.isList (x := u) (by simpa using hu) fun h' st' sb => ?_
    have I1 : Inv X pins σ H { s with heap := h' } := I.turned (t' := s.toks) (fun b o hb e => (sb.2 b hb).trans e) f0 f1 f3 f4 f5
    obtain ⟨o, e, c, d⟩ := id st'
    exact ⟨u, rfl, go_of (s := { s with heap := h' }) e c d (by decide) ⟨x, H, I1, ru, ⟨rfl, fun ys hy => by rw [I.list_inj hy hq]; exact hx⟩, st', fun b hb => (hf b hb).1⟩⟩
  done := by
    intro X hP hw hK hc i pins s σ H E I hf st hg
    subst hP hw hK
    obtain ⟨xs, hq, hx⟩ := hg
    obtain ⟨its, rv, p, hz⟩ := I.list hq
    obtain ⟨f0, f1, f2, f3, f4, f5⟩ := hf it (by simp)
    have hl := rv.length
    exact wpAny_pyNext_list_end (I.ok.hd hc) st p.isList (by simp; omega) fun h' eb => ⟨rfl, I.turned (t' := s.toks) (fun b o hb e => eb b o hb e) f0 f1 f3 f4 f5⟩
  self := fun _ _ _ _ _ st h => wpAny_pyIter_listiter st h
theorem turn_range {P : Program} {w : World} {K : PySem.W.Frag} {tg : Expr} (it : Addr) (lo : Int) (n : Nat) : Turn P w K tg (Itr lo n) [it] it (fun i h => IsRangeIter h it (lo + (i : Nat) * 1) ((n : Int) - (i : Nat)) 1) where
  mem := by simp
  obj := fun i h st b hb => by
    have e : b = it := by simpa using hb
    subst e
    exact ⟨_, st, fun v z => by
      have z' : Data.fields _ = Data.cell v := z
      cases z'⟩
  keep := fun i h h' st k => k it (by simp) _ st
  item := by
    intro X hP hw hK hc i pins s σ H E I hf st hg
    subst hP hw hK
    obtain ⟨f0, f1, f2, f3, f4, f5⟩ := hf it (by simp)
    have W := Walks.range (prog := X.prog) (w := X.w) (I.ok.hd hc) it lo 1 n
    refine W.item i s _ _ hg st fun v h' tk hv st' kk => ?_
    obtain ⟨t, rfl⟩ := hv
    have I1 : Inv X pins σ H { s with heap := h', toks := tk } := I.turned (fun b o hb e => kk b o (by simpa using hb) e) f0 f1 f3 f4 f5
    refine ⟨_, rfl, go_of (s := { s with heap := h', toks := tk }) (n := "range_iterator") st' rfl rfl (by decide) ⟨.int (lo + i), H, I1, ⟨t, ?_⟩, ⟨rfl, rfl⟩, st', fun b hb => (hf b hb).1⟩⟩
    rw [Int.mul_one]
  done := by
    intro X hP hw hK hc i pins s σ H E I hf st hg
    subst hP hw hK
    obtain ⟨f0, f1, f2, f3, f4, f5⟩ := hf it (by simp)
    exact wpAny_pyNext_range_end (I.ok.hd hc) st (by have : n ≤ i := hg; omega) fun h' eb => ⟨rfl, I.turned (t' := s.toks) (fun b o hb e => eb b o hb e) f0 f1 f3 f4 f5⟩
  self := fun _ _ _ _ _ st h => wpAny_pyIter_rangeiter st h
end L2
namespace L2
open PySem PySem.Spec PyProof.Rows
section
variable {X : Cx} {tg : Expr}
def iList (K : PySem.W.Frag) (tl : TE) : TI := fun σ H R => tl σ H fun x H1 => ∃ a, x = .ref a ∧ (∃ xs, SqL K H1 a xs) ∧ R (Itl K a) H1
theorem pi_list {l : Expr} {tl : TE} (hl : PE X l tl) : PI X tg l (iList X.K tl) := by
  intro pins s σ H R I h
  refine thn (hl pins s σ H _ I h) fun v s1 ⟨x, H1, I1, r1, q1⟩ => ?_
  obtain ⟨a, e, ⟨xs, hq⟩, q⟩ := q1
  subst e
  cases r1
  obtain ⟨its, rv, p, hz⟩ := I1.list hq
  refine wpAny_pyIter_list p.isList ?_
  refine ⟨s1.heap.objs.size, [s1.heap.objs.size], _, _, H1, rfl, I1.kept (t' := s1.toks) fun b o e => Heap.get?_push_of_some _ e, turn_list a _, ⟨_, Heap.get?_push_size _ rfl, rfl, rfl⟩, fun b hb => ?_, q⟩
  have e : b = s1.heap.objs.size := by simpa using hb
  subst e
  exact I1.fpOk (Nat.le_refl _) (I1.hok.fresh (Nat.le_refl _))
theorem range_it {pins : List (Addr × Obj)} {σ : St} {H : Hp} {s : Shared} {R : It → Hp → Prop} {E : Value → Shared → Prop} {lo hi : Int} {t u v : Tok} {tk : Nat} (I : Inv X pins σ H s) (h1 : -(2 ^ 62) ≤ lo) (h2 : lo < 2 ^ 62) (h3 : -(2 ^ 62) ≤ hi) (h4 : hi < 2 ^ 62)
    (q : R (Itr lo (hi - lo).toNat) H) : wpAny (model X.prog X.w) X.A (pyIter (.ref s.heap.objs.size)) (PIE X pins σ tg R) E { s with heap := s.heap.push { cls := .type "range", data := .fields #[.int lo t, .int hi u, .int 1 v] }, toks := tk } := by
  refine wpAny_pyIter_range (IsRange.new ..) (small_one h1 h2 h3 h4) ?_
  have I1 : Inv X pins σ H { s with heap := s.heap.push { cls := .type "range", data := .fields #[.int lo t, .int hi u, .int 1 v] }, toks := tk } := I.kept fun b o e => Heap.get?_push_of_some _ e
  refine ⟨(s.heap.push { cls := .type "range", data := .fields #[.int lo t, .int hi u, .int 1 v] }).objs.size, [(s.heap.push { cls := .type "range", data := .fields #[.int lo t, .int hi u, .int 1 v] }).objs.size], _, _, H, rfl,
    I1.kept (t' := tk) fun b o e => Heap.get?_push_of_some _ e, turn_range _ lo (hi - lo).toNat, ?_, fun b hb => ?_, q⟩
  · have e1 : lo + ((0 : Nat) : Int) * 1 = lo := by simp
    have e2 : (((hi - lo).toNat : Nat) : Int) - ((0 : Nat) : Int) = Builtin.Range.rangeSize lo hi 1 := by rw [rangeSize_one]; split <;> omega
    show IsRangeIter _ _ (lo + ((0 : Nat) : Int) * 1) ((((hi - lo).toNat : Nat) : Int) - ((0 : Nat) : Int)) 1
    rw [e1, e2]
    exact Heap.get?_push_size _ rfl
  · have e : b = (s.heap.push { cls := .type "range", data := .fields #[.int lo t, .int hi u, .int 1 v] }).objs.size := by simpa using hb
    subst e
    exact I1.fpOk (Nat.le_refl _) (I1.hok.fresh (Nat.le_refl _))
def iRng1 (ta : TA) : TI := fun σ H R => ta σ H fun vs H1 => ∃ j : Int, vs = [.int j] ∧ -(2 ^ 62) ≤ j ∧ j < 2 ^ 62 ∧ R (Itr 0 j.toNat) H1
def iRng2 (ta : TA) : TI := fun σ H R => ta σ H fun vs H1 => ∃ i j : Int, vs = [.int i, .int j] ∧ (-(2 ^ 62) ≤ i ∧ i < 2 ^ 62 ∧ -(2 ^ 62) ≤ j ∧ j < 2 ^ 62) ∧ R (Itr i (j - i).toNat) H1
theorem pi_range1 {a : Expr} {ta : TA} {p pos : Pos} (hg : Gl X "range") (hm : X.mg "range" = none) (ha : PA X [a] ta) (hs : starEach [a] X.env = [(false, eval a X.env)] := by rfl) : PI X tg (.Call (.Name "range" p) [a] [] pos) (iRng1 ta) := by
  intro pins s σ H R I h
  refine Call_ (ld_blt I hg hm boot_range (PyProof.Rows.callWith_type1 (thn (ha pos pins s σ H _ I h) fun us s1 ⟨vs, H1, I1, r1, q1⟩ => ?_) hs rfl))
  obtain ⟨j, e, q1, q2, q⟩ := q1
  subst e
  cases r1 with
  | cons r rr =>
    cases rr
    obtain ⟨t, rfl⟩ := r
    exact call_range_1 (range_it I1 (by omega) (by omega) q1 q2 (by simpa using q))
theorem pi_range2 {a b : Expr} {ta : TA} {p pos : Pos} (hg : Gl X "range") (hm : X.mg "range" = none) (ha : PA X [a, b] ta) (hs : starEach [a, b] X.env = [(false, eval a X.env), (false, eval b X.env)] := by rfl) (hs2 : starEach [b] X.env = [(false, eval b X.env)] := by rfl) :
    PI X tg (.Call (.Name "range" p) [a, b] [] pos) (iRng2 ta) := by
  intro pins s σ H R I h
  refine Call_ (ld_blt I hg hm boot_range (PyProof.Rows.callWith_type1 (thn (ha pos pins s σ H _ I h) fun us s1 ⟨vs, H1, I1, r1, q1⟩ => ?_) (by rw [hs, hs2]) (by rw [hs2]; rfl)))
  obtain ⟨i, j, e, ⟨q1, q2, q3, q4⟩, q⟩ := q1
  subst e
  cases r1 with
  | cons r rr =>
    cases rr with
    | cons r' rr =>
      cases rr
      obtain ⟨t, rfl⟩ := r
      obtain ⟨t', rfl⟩ := r'
      exact call_range_2 (range_it I1 q1 q2 q3 q4 q)
def tFor (wi : TI) (g : TG) (tb : TS) : TS := fun D σ H => wi σ H fun J H1 => ∃ W : Nat → Nat → St → Hp → Prop, (∃ m, W 0 m σ H1) ∧ ∀ i m σ H, W i m σ H →
  (J.stop i H ∧ D.nx σ H) ∨ (J.go i H ∧ ∃ N : St → Hp → Prop, (∀ σ' H', N σ' H' → ∃ m', m' < m ∧ W (i + 1) m' σ' H') ∧ ∀ x H', J.yld i H x H' → g x σ H' fun σ2 H2 => tb { D with nx := N, ct := N, bk := D.nx } σ2 H2)
def pinsAt (fp : List Addr) (h : Heap) : List (Addr × Obj) := fp.filterMap fun b => (h.get? b).map fun o => (b, o)
theorem mem_pinsAt {fp : List Addr} {h : Heap} {b : Addr} {o : Obj} (hb : b ∈ fp) (e : h.get? b = some o) : (b, o) ∈ pinsAt fp h := List.mem_filterMap.mpr ⟨b, hb, by rw [e]; rfl⟩
theorem of_pinsAt {fp : List Addr} {h : Heap} {p : Addr × Obj} (hp : p ∈ pinsAt fp h) : p.1 ∈ fp ∧ h.get? p.1 = some p.2 := by
  obtain ⟨b, hb, e⟩ := List.mem_filterMap.mp hp
  cases q : h.get? b with
  | none => rw [q] at e; cases e
  | some o =>
    rw [q] at e
    have e' : (b, o) = p := Option.some.inj e
    subst e'
    exact ⟨hb, q⟩
theorem Inv.pinned {pins : List (Addr × Obj)} {σ : St} {H : Hp} {s : Shared} {fp : List Addr} (I : Inv X pins σ H s) (hf : ∀ b ∈ fp, FpOk X pins H b) (ho : ∀ b ∈ fp, ∃ o, s.heap.get? b = some o ∧ ∀ v, o.data ≠ .cell v) : Inv X (pins ++ pinsAt fp s.heap) σ H s :=
  I.pins_of fun p hp => (List.mem_append.mp hp).elim (fun z => I.pin p (List.mem_append_right _ z)) fun z => by
    obtain ⟨hb, e⟩ := of_pinsAt z
    obtain ⟨f0, f1, f2, _⟩ := hf p.1 hb
    obtain ⟨o, e', d⟩ := ho p.1 hb
    rw [e] at e'; cases e'
    exact ⟨e, f0, f1, f2, d⟩
theorem Inv.unpinned {pins pl : List (Addr × Obj)} {σ : St} {H : Hp} {s : Shared} (I : Inv X (pins ++ pl) σ H s) : Inv X pins σ H s := I.pins_of fun p hp => I.pin p (List.mem_append_right _ (List.mem_append_left _ hp))
theorem ps_for {iter : Expr} {body : List Stmt} {wi : TI} {g : TG} {tb : TS} {pos : Pos} (hp : PassesOwn (model X.prog X.w) X.A X.env X.xe) (hc : X.calm = true) (hi : PI X tg iter wi) (hg : PG X tg g) (hb : PSs X body tb)
    (hs : ∀ x, foldedSetIterable iter X.env x = pure x := by intro _; rfl) : PS X (.For tg iter body [] pos) (tFor wi g tb) := by
  intro pins s σ H D I h
  refine wpAny_For (thn (hi pins s σ H _ I h) fun v s1 h1 => thn h1 fun itv s2 h2 => ?_) hs
  obtain ⟨it, fp, tn, J, H2, e, I2, T, st2, f2, W, ⟨m0, w0⟩, turn⟩ := h2
  subst e
  have stat : ∀ {H' : Hp}, (∀ b ∈ fp, H' b = none) → ∀ b ∈ fp, FpOk X pins H' b := fun hn b hb => ⟨hn b hb, (f2 b hb).2⟩
  refine codeAny_forLoop_any (fun n s' => ∃ i σ' H', Inv X pins σ' H' s' ∧ tn i s'.heap ∧ (∀ b ∈ fp, H' b = none) ∧ W i n σ' H') ?_ m0 ⟨0, σ, H2, I2, st2, fun b hb => (f2 b hb).1, w0⟩
  rintro n s3 ⟨i, σ3, H3, I3, st3, fr3, w3⟩
  rcases turn i n σ3 H3 w3 with ⟨stop, qn⟩ | ⟨go, N, hN, step⟩
  · refine wpAny_passesOwn hp (thn (T.done X rfl rfl rfl hc i pins s3 σ3 H3 X.xe I3 (stat fr3) st3 stop) fun r s4 ⟨hr, I4⟩ => ?_)
    subst hr
    exact wpAny_execs_nil ⟨σ3, H3, I4, qn⟩
  · refine wpAny_passesOwn hp (thn (T.item X rfl rfl rfl hc i pins s3 σ3 H3 X.xe I3 (stat fr3) st3 go) fun r s4 ⟨u, hr, h4⟩ => ?_)
    subst hr
    refine wpAny_passesOwn hp (thn h4 fun _ s5 ⟨x, H5, I5, r5, y5, st5, fr5⟩ => ?_)
    have I5' := I5.pinned (stat fr5) (T.obj _ _ st5)
    refine wpAny_passesOwn hp (thn (hg _ s5 σ3 H5 x u _ I5' r5 (step x H5 y5)) fun _ s6 ⟨σ6, H6, I6, q6⟩ => ?_)
    refine wpAny_passesOwn hp (thn (hb _ s6 σ6 H6 _ I6 q6) fun f s7 q7 => ?_)
    have again : ∀ {σ7 : St} {H7 : Hp}, Inv X (pins ++ pinsAt fp s5.heap) σ7 H7 s7 → N σ7 H7 → ∃ m, m < n ∧ ∃ i σ' H', Inv X pins σ' H' s7 ∧ tn i s7.heap ∧ (∀ b ∈ fp, H' b = none) ∧ W i m σ' H' := fun {σ7 H7} I7 n7 => by
      obtain ⟨m', hm, w7⟩ := hN σ7 H7 n7
      refine ⟨m', hm, i + 1, σ7, H7, I7.unpinned, T.keep _ _ _ st5 fun b hb o e => (I7.pin (b, o) (List.mem_append_right _ (List.mem_append_right _ (mem_pinsAt hb e)))).1, fun b hb => ?_, w7⟩
      obtain ⟨o, e, d⟩ := T.obj _ _ st5 b hb
      exact (I7.pin (b, o) (List.mem_append_right _ (List.mem_append_right _ (mem_pinsAt hb e)))).2.1
    cases f with
    | next => obtain ⟨σ7, H7, I7, n7⟩ := q7; exact again I7 n7
    | cont => obtain ⟨σ7, H7, I7, n7⟩ := q7; exact again I7 n7
    | brk => obtain ⟨σ7, H7, I7, q7⟩ := q7; exact ⟨σ7, H7, I7.unpinned, q7⟩
    | ret v => obtain ⟨x7, σ7, H7, I7, r7, q7⟩ := q7; exact ⟨x7, σ7, H7, I7.unpinned, r7, q7⟩
end
theorem for_list {K : PySem.W.Frag} {a : Addr} {xs : List V} {g : TG} {tb : TS} {D : Ends} {σ : St} {H : Hp} (Pv : Nat → St → Hp → Prop) (h0 : Pv 0 σ H) (hl : ∀ i σ H, i ≤ xs.length → Pv i σ H → SqL K H a xs)
    (hs : ∀ i x σ H, xs[i]? = some x → Pv i σ H → g x σ H fun σ2 H2 => tb { D with nx := Pv (i + 1), ct := Pv (i + 1), bk := D.nx } σ2 H2) (hd : ∀ σ H, Pv xs.length σ H → D.nx σ H) :
    ∃ W : Nat → Nat → St → Hp → Prop, (∃ m, W 0 m σ H) ∧ ∀ i m σ H, W i m σ H →
      ((Itl K a).stop i H ∧ D.nx σ H) ∨ ((Itl K a).go i H ∧ ∃ N : St → Hp → Prop, (∀ σ' H', N σ' H' → ∃ m', m' < m ∧ W (i + 1) m' σ' H') ∧ ∀ x H', (Itl K a).yld i H x H' → g x σ H' fun σ2 H2 => tb { D with nx := N, ct := N, bk := D.nx } σ2 H2) := by
  refine ⟨fun i m σ H => m = xs.length - i ∧ i ≤ xs.length ∧ Pv i σ H, ⟨xs.length, by simp, Nat.zero_le _, h0⟩, ?_⟩
  rintro i m σ H ⟨rfl, hi, p⟩
  have q := hl i σ H hi p
  by_cases hlt : i < xs.length
  · refine .inr ⟨⟨xs, xs[i], q, by simp [hlt]⟩, Pv (i + 1), fun σ' H' p' => ⟨xs.length - (i + 1), by omega, rfl, hlt, p'⟩, fun x H' y => ?_⟩
    obtain ⟨e, y⟩ := y
    subst e
    exact hs i x σ _ (y xs q) p
  · have e : i = xs.length := by omega
    subst e
    exact .inl ⟨⟨xs, q, Nat.le_refl _⟩, hd σ H p⟩
theorem for_range {lo : Int} {n : Nat} {g : TG} {tb : TS} {D : Ends} {σ : St} {H : Hp} (Pv : Nat → St → Hp → Prop) (h0 : Pv 0 σ H)
    (hs : ∀ i σ H, i < n → Pv i σ H → g (.int (lo + i)) σ H fun σ2 H2 => tb { D with nx := Pv (i + 1), ct := Pv (i + 1), bk := D.nx } σ2 H2) (hd : ∀ σ H, Pv n σ H → D.nx σ H) :
    ∃ W : Nat → Nat → St → Hp → Prop, (∃ m, W 0 m σ H) ∧ ∀ i m σ H, W i m σ H →
      ((Itr lo n).stop i H ∧ D.nx σ H) ∨ ((Itr lo n).go i H ∧ ∃ N : St → Hp → Prop, (∀ σ' H', N σ' H' → ∃ m', m' < m ∧ W (i + 1) m' σ' H') ∧ ∀ x H', (Itr lo n).yld i H x H' → g x σ H' fun σ2 H2 => tb { D with nx := N, ct := N, bk := D.nx } σ2 H2) := by
  refine ⟨fun i m σ H => m = n - i ∧ i ≤ n ∧ Pv i σ H, ⟨n, by simp, Nat.zero_le _, h0⟩, ?_⟩
  rintro i m σ H ⟨rfl, hi, p⟩
  by_cases hlt : i < n
  · refine .inr ⟨hlt, Pv (i + 1), fun σ' H' p' => ⟨n - (i + 1), by omega, rfl, hlt, p'⟩, fun x H' y => ?_⟩
    obtain ⟨e, y⟩ := y
    subst e y
    exact hs i σ _ hlt p
  · have e : i = n := by omega
    subst e
    exact .inl ⟨Nat.le_refl _, hd σ H p⟩
theorem while_by {c : TT} {tb : TS} {D : Ends} {σ : St} {H : Hp} (Pv : St → Hp → Prop) (μ : St → Hp → Nat) (h0 : Pv σ H)
    (hs : ∀ σ H, Pv σ H → c σ H fun b H1 => if b = true then tb { D with nx := fun σ' H' => Pv σ' H' ∧ μ σ' H' < μ σ H, ct := fun σ' H' => Pv σ' H' ∧ μ σ' H' < μ σ H, bk := D.nx } σ H1 else D.nx σ H1)
    (mono : ∀ σ H Q Q', (∀ b H1, Q b H1 → Q' b H1) → c σ H Q → c σ H Q') : tWhile c tb D σ H := by
  refine ⟨fun m σ H => m = μ σ H ∧ Pv σ H, ⟨_, rfl, h0⟩, ?_⟩
  rintro m σ H ⟨rfl, p⟩
  refine mono σ H _ _ (fun b H1 q => ?_) (hs σ H p)
  cases b with
  | true => exact ⟨_, fun σ' H' ⟨p', l⟩ => ⟨_, l, rfl, p'⟩, q⟩
  | false => exact q
end L2
namespace L2
open PySem PySem.Spec PyProof.Rows
abbrev R2 := V → V → Hp → VK → Prop
def OpR (X : Cx) (f : Value → Value → Sem Value) (r : R2) : Prop :=
  ∀ (pins : List (Addr × Obj)) (s : Shared) (σ : St) (H : Hp) (x y : V) (v u : Value) (Q : VK), Inv X pins σ H s → RelV x v → RelV y u → r x y H Q →
    wpAny (model X.prog X.w) X.A (f v u) (EP X pins σ Q) X.xe s
def UnR (X : Cx) (f : Value → Sem Value) (r : V → Hp → VK → Prop) : Prop :=
  ∀ (pins : List (Addr × Obj)) (s : Shared) (σ : St) (H : Hp) (x : V) (v : Value) (Q : VK), Inv X pins σ H s → RelV x v → r x H Q →
    wpAny (model X.prog X.w) X.A (f v) (EP X pins σ Q) X.xe s
def CallR (X : Cx) (f : Value) (r : List V → Hp → VK → Prop) : Prop :=
  ∀ (pins : List (Addr × Obj)) (s : Shared) (σ : St) (H : Hp) (xs : List V) (us : List Value) (Q : VK), Inv X pins σ H s → Vals xs us → r xs H Q →
    wpAny (model X.prog X.w) X.A (call f us) (EP X pins σ Q) X.xe s
def tOp (r : R2) (ta tb : TE) : TE := fun σ H Q => ta σ H fun x H1 => tb σ H1 fun y H2 => r x y H2 Q
def tUn (r : V → Hp → VK → Prop) (ta : TE) : TE := fun σ H Q => ta σ H fun x H1 => r x H1 Q
def rI (C : Int → Int → Prop) (g : Int → Int → V) : R2 := fun x y H Q => ∃ i j, x = .int i ∧ y = .int j ∧ C i j ∧ Q (g i j) H
def rI0 (g : Int → Int → V) : R2 := fun x y H Q => ∃ i j, x = .int i ∧ y = .int j ∧ Q (g i j) H
def rU (g : Int → V) : V → Hp → VK → Prop := fun x H Q => ∃ i, x = .int i ∧ Q (g i) H
section
variable {X : Cx} {a b c : Expr} {ta tb tc : TE} {pos : Pos}
theorem binT (ha : PE X a ta) (hb : PE X b tb) {pins : List (Addr × Obj)} {s : Shared} {σ : St} {H : Hp} {R : V → V → Hp → Prop} (I : Inv X pins σ H s)
    (h : ta σ H fun x H1 => tb σ H1 fun y H2 => R x y H2) {Q : Value → Shared → Prop} {f : Value → Value → Sem Value}
    (hf : ∀ v u s2 x y H2, Inv X pins σ H2 s2 → RelV x v → RelV y u → R x y H2 → wpAny (model X.prog X.w) X.A (f v u) Q X.xe s2) :
    wpAny (model X.prog X.w) X.A (eval a X.env) (fun v s₁ => wpAny (model X.prog X.w) X.A (eval b X.env) (fun u s₂ => wpAny (model X.prog X.w) X.A (f v u) Q X.xe s₂) X.xe s₁) X.xe s := by
  refine thn (ha pins s σ H _ I h) fun v s1 ⟨x, H1, I1, r1, q1⟩ => ?_
  refine thn (hb pins s1 σ H1 _ I1 q1) fun u s2 ⟨y, H2, I2, r2, q2⟩ => ?_
  exact hf v u s2 x y H2 I2 r1 r2 q2
theorem pe_op {op : Operator} {r : R2} (ho : OpR X (binaryOp op) r) (ha : PE X a ta) (hb : PE X b tb) : PE X (.BinOp a op b pos) (tOp r ta tb) := by
  intro pins s σ H Q I h
  exact wpAny_BinOp (binT ha hb I h fun v u s2 x y H2 I2 rx ry q => ho pins s2 σ H2 x y v u Q I2 rx ry q)
theorem pe_un {op : UnaryOp} {r : V → Hp → VK → Prop} (ho : UnR X (unaryOp op) r) (ha : PE X a ta) : PE X (.UnaryOp op a pos) (tUn r ta) := by
  intro pins s σ H Q I h
  exact UnaryOp_ (thn (ha pins s σ H _ I h) fun v s1 ⟨x, H1, I1, r1, q1⟩ => ho pins s1 σ H1 x v Q I1 r1 q1)
theorem opI {f : Value → Value → Sem Value} {C : Int → Int → Prop} {g : Int → Int → Int}
    (rule : ∀ (i j : Int) (t u : Tok) (s : Shared) (Q : Value → Shared → Prop) (E : Value → Shared → Prop), C i j → Q (.int (g i j) s.toks) { s with toks := s.toks + 1 } → wpAny (model X.prog X.w) X.A (f (.int i t) (.int j u)) Q E s) :
    OpR X f (rI C fun i j => .int (g i j)) := by
  intro pins s σ H x y v u Q I rx ry h
  obtain ⟨i, j, rfl, rfl, hc, q⟩ := h
  obtain ⟨t, rfl⟩ := rx
  obtain ⟨t', rfl⟩ := ry
  exact rule i j t t' s _ _ hc ⟨.int (g i j), H, I.tok _, ⟨_, rfl⟩, q⟩
theorem opI0 {f : Value → Value → Sem Value} {g : Int → Int → Int}
    (rule : ∀ (i j : Int) (t u : Tok) (s : Shared) (Q : Value → Shared → Prop) (E : Value → Shared → Prop), Q (.int (g i j) s.toks) { s with toks := s.toks + 1 } → wpAny (model X.prog X.w) X.A (f (.int i t) (.int j u)) Q E s) :
    OpR X f (rI0 fun i j => .int (g i j)) := by
  intro pins s σ H x y v u Q I rx ry h
  obtain ⟨i, j, rfl, rfl, q⟩ := h
  obtain ⟨t, rfl⟩ := rx
  obtain ⟨t', rfl⟩ := ry
  exact rule i j t t' s _ _ ⟨.int (g i j), H, I.tok _, ⟨_, rfl⟩, q⟩
theorem opB0 {f : Value → Value → Sem Value} {g : Int → Int → Bool}
    (rule : ∀ (i j : Int) (t u : Tok) (s : Shared) (Q : Value → Shared → Prop) (E : Value → Shared → Prop), Q (.bool (g i j)) s → wpAny (model X.prog X.w) X.A (f (.int i t) (.int j u)) Q E s) :
    OpR X f (rI0 fun i j => .bl (g i j)) := by
  intro pins s σ H x y v u Q I rx ry h
  obtain ⟨i, j, rfl, rfl, q⟩ := h
  obtain ⟨t, rfl⟩ := rx
  obtain ⟨t', rfl⟩ := ry
  exact rule i j t t' s _ _ ⟨.bl (g i j), H, I, rfl, q⟩
def CDiv (i j : Int) : Prop := 0 < j ∧ j < 1073741824
def CPow (i j : Int) : Prop := 0 ≤ j ∧ j ≤ 1000000 ∧ i.natAbs < 2 ^ 64
def CMul (i j : Int) : Prop := (-(2 ^ 64) < i ∧ i < 2 ^ 64) ∨ (-(2 ^ 64) < j ∧ j < 2 ^ 64)
theorem CMul.ok {i j : Int} (h : CMul i j) : IntMulOk i j := by
  rcases h with ⟨h1, h2⟩ | ⟨h1, h2⟩
  · exact .of_left (intBits_le_64 h1 h2)
  · exact .of_right (intBits_le_64 h1 h2)
theorem two_pow_nn (k : Nat) : (0 : Int) ≤ 2 ^ k := by
  rw [two_pow_cast]
  exact Int.natCast_nonneg _
theorem op_add : OpR X (binaryOp .Add) (rI0 fun i j => .int (i + j)) := opI0 fun _ _ _ _ _ _ _ q => add_int q
theorem op_sub : OpR X (binaryOp .Sub) (rI0 fun i j => .int (i - j)) := opI0 fun _ _ _ _ _ _ _ q => sub_int q
theorem op_mul : OpR X (binaryOp .Mult) (rI CMul fun i j => .int (i * j)) := opI fun _ _ _ _ _ _ _ hc q => mul_int q hc.ok
theorem op_fdiv : OpR X (binaryOp .FloorDiv) (rI CDiv fun i j => .int (i / j)) := opI fun i j _ _ _ _ _ hc q => by
  have h1 : (0 : Int) < j := hc.1
  have h2 : j < 1073741824 := hc.2
  exact floordiv_int (by omega) (by rw [Int.fdiv_eq_ediv_of_nonneg i (by omega)]; exact q) (.inl (PyProof.noPylong_small (by omega)))
theorem op_shl : OpR X (binaryOp .LShift) (rI CPow fun i j => .int (i * 2 ^ j.toNat)) := opI fun _ _ _ _ _ _ _ hc q => lshift_int_small hc.1 hc.2.1 hc.2.2 q
theorem op_shr : OpR X (binaryOp .RShift) (rI (fun _ j => 0 ≤ j) fun i j => .int (i / 2 ^ j.toNat)) := opI fun i j _ _ _ _ _ hc q =>
  rshift_int hc (by rw [Int.fdiv_eq_ediv_of_nonneg i (two_pow_nn _)]; exact q)
theorem op_and : OpR X (binaryOp .BitAnd) (rI0 fun i j => .int (Builtin.bitAnd i j)) := opI0 fun _ _ _ _ _ _ _ q => and_int q
theorem op_or : OpR X (binaryOp .BitOr) (rI0 fun i j => .int (Builtin.bitOr i j)) := opI0 fun _ _ _ _ _ _ _ q => or_int q
theorem op_xor : OpR X (binaryOp .BitXor) (rI0 fun i j => .int (Builtin.bitXor i j)) := opI0 fun _ _ _ _ _ _ _ q => xor_int q
theorem unI {f : Value → Sem Value} {g : Int → Int}
    (rule : ∀ (i : Int) (t : Tok) (s : Shared) (Q : Value → Shared → Prop) (E : Value → Shared → Prop), Q (.int (g i) s.toks) { s with toks := s.toks + 1 } → wpAny (model X.prog X.w) X.A (f (.int i t)) Q E s) :
    UnR X f (rU fun i => .int (g i)) := by
  intro pins s σ H x v Q I rx h
  obtain ⟨i, rfl, q⟩ := h
  obtain ⟨t, rfl⟩ := rx
  exact rule i t s _ _ ⟨.int (g i), H, I.tok _, ⟨_, rfl⟩, q⟩
theorem un_inv : UnR X (unaryOp .Invert) (rU fun i => .int (Builtin.bitNot i)) := unI fun _ _ _ _ _ q => invert_int q
end
def scal : V → V → Bool
  | .non, .non => true | .non, .int _ => true | .int _, .non => true | .non, .bl _ => true | .bl _, .non => true | .non, .str _ => true | .str _, .non => true
  | .int _, .int _ => true | .bl _, .bl _ => true | .str _, .str _ => true | .byt _, .byt _ => true
  | .int _, .str _ => true | .str _, .int _ => true | .bl _, .str _ => true | .str _, .bl _ => true
  | _, _ => false
def rEq : R2 := fun x y H Q => scal x y = true ∧ Q (.bl (decide (x = y))) H
def rNe : R2 := fun x y H Q => scal x y = true ∧ Q (.bl (!decide (x = y))) H
theorem dec_int {i j : Int} : decide (V.int i = V.int j) = (i == j) := by
  rw [Bool.eq_iff_iff]
  simp
theorem dec_bl {i j : Bool} : decide (V.bl i = V.bl j) = (i == j) := by
  rw [Bool.eq_iff_iff]
  simp
theorem dec_str {i j : Str} : decide (V.str i = V.str j) = (i == j) := by
  rw [Bool.eq_iff_iff]
  simp
theorem dec_byt {i j : Array UInt8} : decide (V.byt i = V.byt j) = (i.toList == j.toList) := by
  rw [Bool.eq_iff_iff]
  cases i
  cases j
  simp
section
variable {X : Cx} {a b c : Expr} {ta tb tc : TE} {pos : Pos}
theorem fin_bl {pins : List (Addr × Obj)} {σ : St} {H : Hp} {s : Shared} {Q : VK} {k k' : Bool} (I : Inv X pins σ H s) (q : Q (.bl k) H) (e : k = k') : EP X pins σ Q (.bool k') s := by
  subst e
  exact ⟨.bl k, H, I, rfl, q⟩
theorem op_eq : OpR X (compareOp .Eq) rEq := by
  intro pins s σ H x y v u Q I rx ry h
  obtain ⟨hs, q⟩ := h
  cases x with
  | non =>
    cases rx
    cases y with
    | non => cases ry; exact PySem.EqNone.eq_none_none (fin_bl I q (by simp))
    | bl j => cases ry; exact PySem.EqNone.eq_none_bool (fin_bl I q (by simp))
    | int j => obtain ⟨t', rfl⟩ := ry; exact PySem.EqNone.eq_none_int (fin_bl I q (by simp))
    | str j => obtain ⟨t', rfl⟩ := ry; exact PySem.EqNone.eq_none_str (fin_bl I q (by simp))
    | _ => exact absurd (show false = true from hs) Bool.false_ne_true
  | bl i =>
    cases rx
    cases y with
    | non => cases ry; exact PySem.EqNone.eq_bool_none (fin_bl I q (by simp))
    | bl j => cases ry; exact eq_bool (fin_bl I q dec_bl)
    | str j => obtain ⟨t', rfl⟩ := ry; exact PySem.EqMixed.eq_bool_str (fin_bl I q (by simp))
    | _ => exact absurd (show false = true from hs) Bool.false_ne_true
  | int i =>
    obtain ⟨t, rfl⟩ := rx
    cases y with
    | non => cases ry; exact PySem.EqNone.eq_int_none (fin_bl I q (by simp))
    | int j => obtain ⟨t', rfl⟩ := ry; exact eq_int (fin_bl I q dec_int)
    | str j => obtain ⟨t', rfl⟩ := ry; exact PySem.EqMixed.eq_int_str (fin_bl I q (by simp))
    | _ => exact absurd (show false = true from hs) Bool.false_ne_true
  | str i =>
    obtain ⟨t, rfl⟩ := rx
    cases y with
    | non => cases ry; exact PySem.EqNone.eq_str_none (fin_bl I q (by simp))
    | bl j => cases ry; exact PySem.EqMixed.eq_str_bool (fin_bl I q (by simp))
    | int j => obtain ⟨t', rfl⟩ := ry; exact PySem.EqMixed.eq_str_int (fin_bl I q (by simp))
    | str j => obtain ⟨t', rfl⟩ := ry; exact eq_str (fin_bl I q dec_str)
    | _ => exact absurd (show false = true from hs) Bool.false_ne_true
  | byt i =>
    obtain ⟨t, rfl⟩ := rx
    cases y with
    | byt j => obtain ⟨t', rfl⟩ := ry; exact PySem.W.eq_bytes (fin_bl I q dec_byt)
    | _ => exact absurd (show false = true from hs) Bool.false_ne_true
  | _ => cases y <;> exact absurd (show false = true from hs) Bool.false_ne_true
theorem op_ne : OpR X (compareOp .NotEq) rNe := by
  intro pins s σ H x y v u Q I rx ry h
  obtain ⟨hs, q⟩ := h
  cases x with
  | non =>
    cases rx
    cases y with
    | non => cases ry; exact PySem.EqNone.ne_none_none (fin_bl I q (by simp))
    | bl j => cases ry; exact PySem.EqNone.ne_none_bool (fin_bl I q (by simp))
    | int j => obtain ⟨t', rfl⟩ := ry; exact PySem.EqNone.ne_none_int (fin_bl I q (by simp))
    | str j => obtain ⟨t', rfl⟩ := ry; exact PySem.EqNone.ne_none_str (fin_bl I q (by simp))
    | _ => exact absurd (show false = true from hs) Bool.false_ne_true
  | bl i =>
    cases rx
    cases y with
    | non => cases ry; exact PySem.EqNone.ne_bool_none (fin_bl I q (by simp))
    | bl j => cases ry; exact ne_bool (fin_bl I q (congrArg not dec_bl))
    | str j => obtain ⟨t', rfl⟩ := ry; exact PySem.EqMixed.ne_bool_str (fin_bl I q (by simp))
    | _ => exact absurd (show false = true from hs) Bool.false_ne_true
  | int i =>
    obtain ⟨t, rfl⟩ := rx
    cases y with
    | non => cases ry; exact PySem.EqNone.ne_int_none (fin_bl I q (by simp))
    | int j => obtain ⟨t', rfl⟩ := ry; exact ne_int (fin_bl I q (congrArg not dec_int))
    | str j => obtain ⟨t', rfl⟩ := ry; exact PySem.EqMixed.ne_int_str (fin_bl I q (by simp))
    | _ => exact absurd (show false = true from hs) Bool.false_ne_true
  | str i =>
    obtain ⟨t, rfl⟩ := rx
    cases y with
    | non => cases ry; exact PySem.EqNone.ne_str_none (fin_bl I q (by simp))
    | bl j => cases ry; exact PySem.EqMixed.ne_str_bool (fin_bl I q (by simp))
    | int j => obtain ⟨t', rfl⟩ := ry; exact PySem.EqMixed.ne_str_int (fin_bl I q (by simp))
    | str j => obtain ⟨t', rfl⟩ := ry; exact ne_str (fin_bl I q (congrArg not dec_str))
    | _ => exact absurd (show false = true from hs) Bool.false_ne_true
  | byt i =>
    obtain ⟨t, rfl⟩ := rx
    cases y with
    | byt j => obtain ⟨t', rfl⟩ := ry; exact PySem.W.ne_bytes (fin_bl I q (congrArg not dec_byt))
    | _ => exact absurd (show false = true from hs) Bool.false_ne_true
  | _ => cases y <;> exact absurd (show false = true from hs) Bool.false_ne_true
theorem op_lt : OpR X (compareOp .Lt) (rI0 fun i j => .bl (decide (i < j))) := opB0 fun _ _ _ _ _ _ _ q => lt_int q
theorem op_le : OpR X (compareOp .LtE) (rI0 fun i j => .bl (decide (i ≤ j))) := opB0 fun _ _ _ _ _ _ _ q => le_int q
theorem op_gt : OpR X (compareOp .Gt) (rI0 fun i j => .bl (decide (j < i))) := opB0 fun _ _ _ _ _ _ _ q => gt_int q
theorem op_ge : OpR X (compareOp .GtE) (rI0 fun i j => .bl (decide (j ≤ i))) := opB0 fun _ _ _ _ _ _ _ q => ge_int q
theorem nomark (b : Expr) {op : CmpOp} (h : op ≠ .In := by decide) (h2 : op ≠ .NotIn := by decide) : behindInMarks op b = false := by
  have e1 : (op == CmpOp.In) = false := by cases op <;> first | rfl | exact absurd rfl h
  have e2 : (op == CmpOp.NotIn) = false := by cases op <;> first | rfl | exact absurd rfl h2
  cases b <;> simp [behindInMarks, e1, e2]
theorem pe_cmpR {op : CmpOp} {r : R2} (ho : OpR X (compareOp op) r) (ha : PE X a ta) (hb : PE X b tb) (hm : behindInMarks op b = false) : PE X (.Compare a [op] [b] pos) (tOp r ta tb) := by
  intro pins s σ H Q I h
  exact wpAny_Compare1 (binT ha hb I h fun v u s2 x y H2 I2 rx ry q => ho pins s2 σ H2 x y v u Q I2 rx ry q) hm
def tTest (t : TE) : TT := fun σ H Q => t σ H fun x H' => ∃ k, x = .bl k ∧ Q k H'
theorem pt_cmpR {op : CmpOp} {r : R2} (ho : OpR X (compareOp op) r) (ha : PE X a ta) (hb : PE X b tb) (hm : behindInMarks op b = false) : PT X (.Compare a [op] [b] pos) (tTest (tOp r ta tb)) := by
  intro pins s σ H Q I h
  refine wpAny_isTrue_Compare1 (thn (ha pins s σ H _ I h) fun v s1 ⟨x, H1, I1, r1, q1⟩ => thn (hb pins s1 σ H1 _ I1 q1) fun u s2 ⟨y, H2, I2, r2, q2⟩ =>
    thn (ho pins s2 σ H2 x y v u _ I2 r1 r2 q2) fun c s3 ⟨z, H3, I3, r3, k, e, q3⟩ => ?_) hm
  subst e
  cases r3
  exact wpAny_truthy_bool ⟨H3, I3, q3⟩
def tChain (r r' : R2) (ta tb tc : TE) : TE := fun σ H Q => ta σ H fun x H1 => tb σ H1 fun y H2 => r x y H2 fun z H3 => ∃ k, z = .bl k ∧
  (if k = true then tc σ H3 fun w' H4 => r' y w' H4 Q else Q (.bl false) H3)
theorem pe_chain {op op' : CmpOp} {r r' : R2} (ho : OpR X (compareOp op) r) (ho' : OpR X (compareOp op') r') (ha : PE X a ta) (hb : PE X b tb) (hc : PE X c tc)
    (hm : lastMarks [op, op'] [b, c] = false := by with_unfolding_all rfl) : PE X (.Compare a [op, op'] [b, c] pos) (tChain r r' ta tb tc) := by
  intro pins s σ H Q I h
  refine Compare_chain (thn (ha pins s σ H _ I h) fun v s1 ⟨x, H1, I1, r1, q1⟩ => chain_link (thn (hb pins s1 σ H1 _ I1 q1) fun u s2 ⟨y, H2, I2, r2, q2⟩ =>
    thn (ho pins s2 σ H2 x y v u _ I2 r1 r2 q2) fun d s3 ⟨z, H3, I3, r3, k, e, q3⟩ => ?_)) hm
  subst e
  cases r3
  refine wpAny_truthy_bool ?_
  cases k with
  | false => exact ite_ff ⟨.bl false, H3, I3, rfl, q3⟩
  | true => exact ite_tt (chain_last (thn (hc pins s3 σ H3 _ I3 q3) fun w' s4 ⟨z', H4, I4, r4, q4⟩ => ho' pins s4 σ H4 y z' u w' Q I4 r2 r4 q4))
theorem pt_chain {op op' : CmpOp} {r r' : R2} (ho : OpR X (compareOp op) r) (ho' : OpR X (compareOp op') r') (ha : PE X a ta) (hb : PE X b tb) (hc : PE X c tc)
    (hm : lastMarks [op, op'] [b, c] = false := by with_unfolding_all rfl) : PT X (.Compare a [op, op'] [b, c] pos) (tTest (tChain r r' ta tb tc)) := by
  intro pins s σ H Q I h
  refine isTrue_chain (thn (ha pins s σ H _ I h) fun v s1 ⟨x, H1, I1, r1, q1⟩ => test_link (thn (hb pins s1 σ H1 _ I1 q1) fun u s2 ⟨y, H2, I2, r2, q2⟩ =>
    thn (ho pins s2 σ H2 x y v u _ I2 r1 r2 q2) fun d s3 ⟨z, H3, I3, r3, k, e, q3⟩ => ?_)) hm
  subst e
  cases r3
  refine wpAny_truthy_bool ?_
  cases k with
  | false =>
    obtain ⟨k', e', q'⟩ := q3
    cases e'
    exact ite_ff ⟨H3, I3, q'⟩
  | true =>
    refine ite_tt (test_last (thn (hc pins s3 σ H3 _ I3 q3) fun w' s4 ⟨z', H4, I4, r4, q4⟩ => thn (ho' pins s4 σ H4 y z' u w' _ I4 r2 r4 q4) fun d' s5 ⟨z2, H5, I5, r5, k2, e2, q5⟩ => ?_))
    subst e2
    cases r5
    exact wpAny_truthy_bool ⟨H5, I5, q5⟩
theorem line63 : (sizeLine : Nat) < 2 ^ 63 := by rw [sizeLine_eq]; decide
theorem vals1 {x : V} {us : List Value} (r : Vals [x] us) : ∃ u, us = [u] ∧ RelV x u := by
  cases r with
  | cons r1 r2 => cases r2; exact ⟨_, rfl, r1⟩
end
end L2
namespace L2
open PySem PySem.Spec PyProof.Rows
structure ObjM (h : Heap) (x dx C : Addr) (mA : Str → Option Value) : Prop where
  obj : h.get? x = some (PySem.W.instObj C dx)
  ns : h.Ns1 dx mA
  ne : dx ≠ x
theorem lookIn_ns {h : Heap} {dx : Addr} {mA : Str → Option Value} (n : h.Ns1 dx mA) : ∃ od, h.get? dx = some od ∧ ∀ name, PySem.W.lookIn name od = some (mA name) := by
  obtain ⟨o, es, ep, ho, hd, hk, _, hm⟩ := n
  refine ⟨o, ho, fun name => ?_⟩
  have e := hm name
  unfold nsFind findBy at e
  rw [← Array.find?_toList] at e
  unfold PySem.W.lookIn
  rw [hd]
  dsimp only
  split
  · rename_i y q
    rw [q] at e
    exact congrArg some e
  · rename_i q
    rw [q] at e
    have a : es.toList.any (·.refKey) = false := by
      rw [List.any_eq_false]
      intro y hy
      obtain ⟨z, t, hkey⟩ := hk y (Array.mem_toList_iff.mp hy)
      simp [DictEntry.refKey, hkey]
    have a' : ¬ es.toList.any (·.refKey) = true := by rw [a]; exact Bool.false_ne_true
    rw [if_neg a']
    exact congrArg some e
theorem ObjM.look {h : Heap} {x dx C : Addr} {mA : Str → Option Value} (I : ObjM h x dx C mA) : ∃ od, PySem.W.InstAt h x (PySem.W.instObj C dx) C (some od) ∧ ∀ name, PySem.W.lookIn name od = some (mA name) :=
  let ⟨od, ho, hl⟩ := lookIn_ns I.ns
  ⟨od, ⟨I.obj, rfl, rfl, ho⟩, hl⟩
section
variable {prog : Program} {w : World} {A : Around} {E : Value → Shared → Prop} {s : Shared} {K : PySem.W.Frag} {x dx C f : Addr} {mA : Str → Option Value} {name : Str} {v : Value}
theorem get_map {expr : Bool} {Q : Value → Shared → Prop} (X : K.In s.heap) (I : ObjM s.heap x dx C mA) (hg : PySem.W.plainGet K C name = true) (hh : PySem.W.hasDictIn K C = true)
    (ha : PySem.W.findIn K (.ref C) name = some none) (hv : mA name = some v) (hv' : PySem.W.handedIn v = true) (h : Q v { s with toks := s.toks + 1 }) :
    wpAny (model prog w) A (getAttr (.ref x) name expr) Q E s := by
  obtain ⟨od, J, hl⟩ := I.look
  exact PySem.W.get_value X J (PySem.W.plainGet_of hg).1 (PySem.W.findObj_own hh ha rfl (by rw [hl, hv])) hv' h
theorem get_meth {pl : Sem Bool} {Q : Value × List Value → Shared → Prop} (X : K.In s.heap) (I : ObjM s.heap x dx C mA) (hg : PySem.W.plainGet K C name = true)
    (hf : PySem.W.findIn K (.ref C) name = some (some (.ref f))) (ht : PySem.W.isFn K (.ref f) = true) (hv : mA name = none) (h : Q (.ref f, [.ref x]) s) :
    wpAny (model prog w) A (getMethod (.ref x) name pl) Q E s := by
  obtain ⟨od, J, hl⟩ := I.look
  exact PySem.W.method_fn X J (PySem.W.plainGet_of hg).1 (PySem.W.plainGet_of hg).2 hf (beq_iff_eq.mp ht) (by show (PySem.W.lookIn name od).map (·.isSome) = some false; rw [hl, hv]; rfl) h
theorem set_map {ns : List Str} {Q : Unit → Shared → Prop} (X : K.In s.heap) (I : ObjM s.heap x dx C mA)
    (hs : PySem.W.findIn K (.ref C) "__setattr__" = some (some (.builtin "object.__setattr__"))) (hp : PySem.W.plainOver K C = true) (ht : PySem.W.takerIn K C name = some none) (hh : PySem.W.hasDictIn K C = true)
    (hw : PySem.Within mA ns) (hsz : ns.length ≤ sizeLine)
    (h : ∀ h', ObjM h' x dx C (fun y => if y = name then some v else mA y) → Heap.SameBut dx s.heap h' → Q () { s with heap := h', toks := s.toks + 2 }) :
    wpAny (model prog w) A (setAttr (.ref x) name v) Q E s := by
  obtain ⟨od, J, hl⟩ := I.look
  refine PySem.W.set_plain X J hs (PySem.W.osa_open (s := { s with toks := s.toks + 1 }) (r := none) X J hp ht fun b => ?_)
  obtain ⟨cd, hc, hd'⟩ := PySem.W.any_some hh
  have hx : s.heap.get? x = some ⟨.ref C, some dx, .plain, #[]⟩ := I.obj
  refine wpAny_bind (wpAny_pure (wpAny_bind (wpAny_bind (wpAny_loadPart hx (wpAny_bind (PySem.W.Looks.here (s := { s with toks := s.toks + 1 }) (PySem.W.looks_clsIn X hc) ?_))))))
  rw [hd']
  refine wpAny_pure (a := some dx) (wpAny_bind (wpAny_pure (wpAny_bind ?_)))
  refine wpAny_nsSet1 (s := { s with toks := s.toks + 1 }) I.ns fun h' hn2 hs2 => ?_
  obtain ⟨oD, esD, epD, hoD, hdD, hcD⟩ := hn2.count (PySem.Within.cons name v hw)
  refine wpAny_bind (wpAny_lookBehind hoD (by rw [hdD]; exact pastItsLine_dict (Nat.le_trans hcD (by rw [List.length_cons]; omega))) ?_)
  exact wpAny_pure (h _ ⟨(hs2.2 _ (Ne.symm I.ne)).trans I.obj, hn2, I.ne⟩ hs2)
theorem make_map {R : Result → Shared → Prop} {vs : List Value} {kw : List (Str × Value)} (X : K.In s.heap) (hm : PySem.W.makesIn K C = true)
    (hi : PySem.W.findIn K (.ref C) "__init__" = some (some (.ref f))) (hf : PySem.W.typeIn K (.ref f) = some (.type "function"))
    (h : codeAny (model prog w) (A.under (.builtin "type.__call__" ⟨.ref C :: vs, kw⟩)) (.call (.ref f) ⟨.ref (s.heap.objs.size + 1) :: vs, kw⟩) (PySem.W.InitBack (s.heap.objs.size + 1) R)
      { s with heap := (s.heap.push PySem.W.emptyDict).push (PySem.W.instObj C s.heap.objs.size) }) :
    codeAny (model prog w) A (.call (.ref C) ⟨vs, kw⟩) R s := by
  obtain ⟨hh, g, d, t, os⟩ := s
  exact PySem.W.make_core (PySem.W.makes_of X hm) (PySem.W.looks_findIn X hi) (fun self => PySem.W.bind_fn X self hf) (.inl rfl) h
end
def putF (f : Str) (v : V) : List (Str × V) → List (Str × V)
  | [] => [(f, v)]
  | (g, x) :: r => if g = f then (g, v) :: r else (g, x) :: putF f v r
theorem lookup_putF (f g : Str) (v : V) : ∀ fs : List (Str × V), (putF f v fs).lookup g = if g = f then some v else fs.lookup g
  | [] => by
    show List.lookup g [(f, v)] = _
    by_cases h : g = f
    · have hb : (g == f) = true := beq_iff_eq.mpr h
      simp only [List.lookup, hb, if_pos h]
    · have hb : (g == f) = false := beq_eq_false_iff_ne.mpr h
      simp only [List.lookup, hb, if_neg h]
  | (k, x) :: r => by
    have ih := lookup_putF f g v r
    rw [show putF f v ((k, x) :: r) = (if k = f then (k, v) :: r else (k, x) :: putF f v r) from rfl]
    by_cases hk : k = f
    · rw [if_pos hk]
      by_cases h : g = k
      · have hb : (g == k) = true := beq_iff_eq.mpr h
        simp only [List.lookup, hb, if_pos (h.trans hk)]
      · have hb : (g == k) = false := beq_eq_false_iff_ne.mpr h
        simp only [List.lookup, hb, if_neg (fun e : g = f => h (e.trans hk.symm))]
    · rw [if_neg hk]
      by_cases h : g = k
      · have hb : (g == k) = true := beq_iff_eq.mpr h
        simp only [List.lookup, hb, if_neg (fun e : g = f => hk (h.symm.trans e))]
      · have hb : (g == k) = false := beq_eq_false_iff_ne.mpr h
        simp only [List.lookup, hb]
        exact ih
theorem keys_putF (f : Str) (v : V) : ∀ fs : List (Str × V), f ∈ (putF f v fs).map (·.1) ∧ ∀ g, g ∈ fs.map (·.1) → g ∈ (putF f v fs).map (·.1)
  | [] => ⟨by simp [putF], fun g h => by simp at h⟩
  | (k, x) :: r => by
    obtain ⟨i1, i2⟩ := keys_putF f v r
    rw [show putF f v ((k, x) :: r) = (if k = f then (k, v) :: r else (k, x) :: putF f v r) from rfl]
    by_cases hk : k = f
    · rw [if_pos hk]
      subst hk
      exact ⟨by simp, fun g h => by simpa using h⟩
    · rw [if_neg hk]
      refine ⟨?_, fun g h => ?_⟩
      · rw [List.map_cons]
        exact List.mem_cons_of_mem _ i1
      · rw [List.map_cons] at h ⊢
        rcases List.mem_cons.mp h with e | e
        · exact List.mem_cons.mpr (.inl e)
        · exact List.mem_cons_of_mem _ (i2 g e)
theorem length_putF (f : Str) (v : V) : ∀ fs : List (Str × V), (putF f v fs).length ≤ fs.length + 1
  | [] => by simp [putF]
  | (k, x) :: r => by
    have ih := length_putF f v r
    rw [show putF f v ((k, x) :: r) = (if k = f then (k, v) :: r else (k, x) :: putF f v r) from rfl]
    by_cases hk : k = f
    · rw [if_pos hk, List.length_cons, List.length_cons]; omega
    · rw [if_neg hk, List.length_cons, List.length_cons]; omega
theorem RelO.some_of {v : V} {o : Option Value} (r : RelO (some v) o) : ∃ u, o = some u ∧ RelV v u := by
  cases o with
  | none => exact (show False from r).elim
  | some u => exact ⟨u, rfl, r⟩
theorem RelO.none_of {o : Option Value} (r : RelO none o) : o = none := by
  cases o with
  | none => rfl
  | some u => exact (show False from r).elim
theorem handed_of {v : V} {u : Value} (r : RelV v u) : PySem.W.handedIn u = true := by
  cases v with
  | non => cases (show u = Value.none from r); rfl
  | bl b => cases (show u = Value.bool b from r); rfl
  | int i => obtain ⟨t, e⟩ := (show ∃ t, u = Value.int i t from r); cases e; rfl
  | str x => obtain ⟨t, e⟩ := (show ∃ t, u = Value.str x t from r); cases e; rfl
  | byt b => obtain ⟨t, e⟩ := (show ∃ t, u = Value.bytes b t from r); cases e; rfl
  | flt b => obtain ⟨t, e⟩ := (show ∃ t, u = Value.float b t from r); cases e; rfl
  | ref a => cases (show u = Value.ref a from r); rfl
  | ty n => cases (show u = Value.type n from r); rfl
section
variable {P : Program} {w : World} {H H' : Hp} {h h' : Heap} {a C dx : Addr} {fs fs' : List (Str × V)}
theorem ins_get (hok : HOk P w H h) (e : H a = some (.ins C dx fs)) : ∃ mA, ObjM h a dx C mA ∧ (∀ f, RelO (fs.lookup f) (mA f)) ∧ PySem.Within mA (fs.map (·.1)) ∧ fs.length ≤ 1000 ∧ H dx = some (.own a) := by
  obtain ⟨d, z, ne, ob, mA, n, r, q⟩ := (show ObjOk P w H h a (.ins C dx fs) from hok a _ e)
  exact ⟨mA, ⟨ob, n, ne⟩, r, q, z, d⟩
end
structure Cls (K : PySem.W.Frag) (C : Addr) : Prop where
  pg : PySem.W.plainGet K C Str.empty = true
  hd : PySem.W.hasDictIn K C = true
  po : PySem.W.plainOver K C = true
  sa : PySem.W.findIn K (.ref C) "__setattr__" = some (some (.builtin "object.__setattr__"))
theorem Cls.get {K : PySem.W.Frag} {C : Addr} (c : Cls K C) (f : Str) : PySem.W.plainGet K C f = true := c.pg
def NoAttr (K : PySem.W.Frag) (C : Addr) (f : Str) : Prop := PySem.W.findIn K (.ref C) f = some none
theorem NoAttr.taker {K : PySem.W.Frag} {C : Addr} {f : Str} (n : NoAttr K C f) : PySem.W.takerIn K C f = some none := by
  unfold PySem.W.takerIn
  rw [show PySem.W.findIn K (.ref C) f = some none from n]
  rfl
structure Meth (K : PySem.W.Frag) (C : Addr) (m : Str) (f : Addr) : Prop where
  at_ : PySem.W.findIn K (.ref C) m = some (some (.ref f))
  fn : PySem.W.isFn K (.ref f) = true
  kp : PySem.W.keepIn K (.ref f) = true
section
variable {X : Cx} {pins : List (Addr × Obj)} {σ : St} {H : Hp} {s : Shared} {a C dx : Addr} {fs : List (Str × V)} {f : Str} {v : V} {A : Around} {E : Value → Shared → Prop}
theorem getattr_ok {b : Bool} {Q : Value → Shared → Prop} (I : Inv X pins σ H s) (e : H a = some (.ins C dx fs)) (c : Cls X.K C) (n : NoAttr X.K C f) (l : fs.lookup f = some v)
    (h : ∀ u s', Inv X pins σ H s' → RelV v u → Q u s') : wpAny (model X.prog X.w) A (getAttr (.ref a) f b) Q E s := by
  obtain ⟨mA, O, r, _, _, _⟩ := ins_get I.hok e
  obtain ⟨u, hu, ru⟩ := RelO.some_of (v := v) (o := mA f) (by rw [← l]; exact r f)
  exact get_map I.kIn O (c.get f) c.hd n hu (handed_of ru) (h u _ (I.tok _) ru)
theorem getmeth_ok {m : Str} {g : Addr} {pl : Sem Bool} {Q : Value × List Value → Shared → Prop} (I : Inv X pins σ H s) (e : H a = some (.ins C dx fs)) (c : Cls X.K C) (k : Meth X.K C m g) (l : fs.lookup m = none)
    (h : Q (.ref g, [.ref a]) s) : wpAny (model X.prog X.w) A (getMethod (.ref a) m pl) Q E s := by
  obtain ⟨mA, O, r, _, _, _⟩ := ins_get I.hok e
  have hn : mA m = none := RelO.none_of (by rw [← l]; exact r m)
  exact get_meth I.kIn O (c.get m) k.at_ k.fn hn h
theorem setattr_ok {y : V} {u : Value} {Q : Unit → Shared → Prop} (I : Inv X pins σ H s) (e : H a = some (.ins C dx fs)) (c : Cls X.K C) (n : NoAttr X.K C f) (hl : fs.length < 1000) (ry : RelV y u)
    (h : ∀ s', Inv X pins σ (upd H a (.ins C dx (putF f y fs))) s' → Q () s') : wpAny (model X.prog X.w) A (setAttr (.ref a) f u) Q E s := by
  obtain ⟨mA, O, r, wi, _, ho⟩ := ins_get I.hok e
  have hz : (fs.map (·.1)).length ≤ sizeLine := by rw [List.length_map, sizeLine_eq]; omega
  refine set_map I.kIn O c.sa c.po n.taker c.hd wi hz fun h' O' sb => h _ ?_
  have hd : ∃ o, h'.get? dx = some o := let ⟨o, _, _, e', _⟩ := O'.ns; ⟨o, e'⟩
  refine I.write (x := a) (e := dx) (by rw [e]; exact True.intro) (.inr ho) (fun b q hb z => (sb.2 b hb).trans z) hd ?_
  refine ⟨by rw [upd_ne O.ne]; exact ho, ?_, O.ne, O'.obj, _, O'.ns, fun g => ?_, fun g hg => ?_⟩
  · have := length_putF f y fs; omega
  · show RelO ((putF f y fs).lookup g) (if g = f then some u else mA g)
    rw [lookup_putF]
    by_cases q : g = f
    · rw [if_pos q, if_pos q]; exact ry
    · rw [if_neg q, if_neg q]; exact r g
  · by_cases q : g = f
    · rw [q]; exact (keys_putF f y fs).1
    · refine (keys_putF f y fs).2 g (wi g fun z => hg ?_)
      show (if g = f then some u else mA g) = none
      rw [if_neg q]; exact z
theorem Inv.made (I : Inv X pins σ H s) : Inv X pins σ (upd (upd H s.heap.objs.size (.own (s.heap.objs.size + 1))) (s.heap.objs.size + 1) (.ins C s.heap.objs.size []))
    { s with heap := (s.heap.push PySem.W.emptyDict).push (PySem.W.instObj C s.heap.objs.size) } := by
  have e1 : (s.heap.push PySem.W.emptyDict).get? s.heap.objs.size = some PySem.W.emptyDict := Heap.get?_push_size s.heap rfl
  have e2 : ((s.heap.push PySem.W.emptyDict).push (PySem.W.instObj C s.heap.objs.size)).get? (s.heap.objs.size + 1) = some (PySem.W.instObj C s.heap.objs.size) := by
    have := Heap.get?_push_size (s.heap.push PySem.W.emptyDict) (o := PySem.W.instObj C s.heap.objs.size) rfl
    rwa [Heap.size_push] at this
  have e3 : (s.heap.push PySem.W.emptyDict).Ns s.heap.objs.size (fun _ => none) := ⟨PySem.W.emptyDict, #[], _, e1, rfl, (fun e he => absurd he (by simp)), fun _ => rfl⟩
  have I1 := I.laid (a := s.heap.objs.size) (o := .own (s.heap.objs.size + 1)) (h' := s.heap.push PySem.W.emptyDict) (t' := s.toks) (fun b u q => Heap.get?_push_of_some _ q) (Nat.le_refl _) ⟨_, e1⟩
  refine I1.laid (a := s.heap.objs.size + 1) (o := .ins C s.heap.objs.size []) (t' := s.toks) (fun b u q => Heap.get?_push_of_some _ q) (Nat.le_of_eq (Heap.size_push _ _)) ?_
  have ne : s.heap.objs.size ≠ s.heap.objs.size + 1 := Nat.ne_of_lt (Nat.lt_succ_self _)
  refine ⟨by rw [upd_ne ne, upd_same], Nat.zero_le _, ne, e2, fun _ => none, (Heap.Ns1.of_empty e3).at fun o q => Heap.get?_push_of_some _ q, fun _ => True.intro, fun y hy => absurd rfl hy⟩
theorem attr_of {prog : Program} {w : World} {env : Env} {e : Expr} {f : Str} {pos : Pos} {s : Shared} {Q : Value → Shared → Prop} (hb : attributeBase e f env (eval e env) = eval e env)
    (h : wpAny (model prog w) A (eval e env) (fun o s₁ => wpAny (model prog w) A (getAttr o f true) Q E s₁) E s) : wpAny (model prog w) A (eval (.Attribute e f pos) env) Q E s :=
  Attribute_any_ h (by rw [arm_eval_Attribute, hb])
end
def tFld (K : PySem.W.Frag) (ta : TE) (f : Str) : TE := fun σ H Q => ta σ H fun x H1 => ∃ a C dx fs v, x = .ref a ∧ H1 a = some (.ins C dx fs) ∧ Cls K C ∧ NoAttr K C f ∧ fs.lookup f = some v ∧ Q v H1
def sFld (K : PySem.W.Frag) (ta tv : TE) (f : Str) : TS := fun D σ H => tv σ H fun y H1 => ta σ H1 fun x H2 => ∃ a C dx fs, x = .ref a ∧ H2 a = some (.ins C dx fs) ∧ Cls K C ∧ NoAttr K C f ∧ fs.length < 1000 ∧
  D.nx σ (upd H2 a (.ins C dx (putF f y fs)))
section
variable {X : Cx} {o e value : Expr} {f : Str} {pos pos' tpos : Pos} {ta tv : TE}
theorem pe_fld (he : PE X e ta) (hb : attributeBase e f X.env (eval e X.env) = eval e X.env) : PE X (.Attribute e f pos) (tFld X.K ta f) := by
  intro pins s σ H Q I h
  refine attr_of hb (thn (he pins s σ H _ I h) fun u s1 ⟨x, H1, I1, rx, a, C, dx, fs, v, ex, ea, c, n, l, q⟩ => ?_)
  subst ex
  obtain rfl : u = Value.ref a := rx
  exact getattr_ok I1 ea c n l fun u' s2 I2 ru => ⟨v, H1, I2, ru, q⟩
theorem ps_fld (ha : PE X o ta) (hv : PE X value tv) (hs : swapsWith value (some (.Attribute o f pos')) pos.line X.env = pure false) : PS X (.Assign [.Attribute o f pos'] value pos) (sFld X.K ta tv f) := by
  intro pins s σ H D I h
  refine plainObj_wpAny_Assign_Attribute (thn (hv pins s σ H _ I h) fun u s1 ⟨y, H1, I1, ry, q⟩ => thn (ha pins s1 σ H1 _ I1 q) fun ov s2 ⟨x, H2, I2, rx, a, C, dx, fs, ex, ea, c, n, l, q2⟩ => ?_) hs
  subst ex
  obtain rfl : ov = Value.ref a := rx
  exact setattr_ok I2 ea c n l ry fun s3 I3 => ⟨σ, _, I3, q2⟩
end
section
variable {X : Cx} {pins : List (Addr × Obj)} {σ : St} {H : Hp} {s : Shared} {A : Around} {E : Value → Shared → Prop} {Q : Value → Shared → Prop} {c : Value} {b : Bool}
end
end L2
namespace L2
open PySem PySem.Spec PyProof.Rows
structure Room (k : Nat) (A : Around) : Prop where
  hd : A.handled = none
  dp : A.depth + 3 * k + 5 < recursionLimit
  un : A.units + 16 * k + 200 < cLine
theorem Room.mono {j k : Nat} {A : Around} (r : Room k A) (h : j ≤ k) : Room j A := ⟨r.hd, by have := r.dp; omega, by have := r.un; omega⟩
theorem Room.deeper {k : Nat} {A : Around} (r : Room (k + 1) A) (env : Env) : Room k (A.deeper env) :=
  ⟨r.hd, by have := r.dp; show A.depth + 1 + 3 * k + 5 < _; omega, by have := r.un; show A.units + 3 + 16 * k + 200 < _; omega⟩
theorem make_depth {A : Around} {C : Addr} {us : List Value} {kw : List (Str × Value)} : (A.under (.builtin "type.__call__" ⟨.ref C :: us, kw⟩)).depth = A.depth + 1 := by
  first | rfl | simp [Around.under, Code.weight, Code.isCreation, Code.isGuard, Code.isCaller, Code.frames, Code.isFrame, guardIds]
theorem make_units {A : Around} {C : Addr} {us : List Value} {kw : List (Str × Value)} : (A.under (.builtin "type.__call__" ⟨.ref C :: us, kw⟩)).units = A.units + 1 := by
  first | rfl | simp [Around.under, Code.cUnits, Code.frames, Code.isFrame]
theorem Room.make {k : Nat} {A : Around} (r : Room (k + 1) A) (C : Addr) (us : List Value) (kw : List (Str × Value)) : Room k (A.under (.builtin "type.__call__" ⟨.ref C :: us, kw⟩)) :=
  ⟨r.hd, by have := r.dp; rw [make_depth]; omega, by have := r.un; rw [make_units]; omega⟩
theorem Room.depth {k : Nat} {A : Around} (r : Room k A) : A.depth < recursionLimit := by have := r.dp; omega
theorem Room.units {k : Nat} {A : Around} (r : Room k A) : A.units + 64 < cLine := by have := r.un; omega
def tNil : TA := fun _ H Q => Q [] H
def tCons (ta : TE) (tr : TA) : TA := fun σ H Q => ta σ H fun x H1 => tr σ H1 fun xs H2 => Q (x :: xs) H2
section
variable {X : Cx} {e : Expr} {es : List Expr} {te : TE} {t : TA} {pos : Pos}
theorem pa_nil : PA X [] tNil := fun _ _ _ _ H Q I h => Calls.spliced_nil ⟨[], H, I, .nil, h⟩
theorem pa_cons (ha : PE X e te) (hr : PA X es t) (hs : starEach (e :: es) X.env = (false, eval e X.env) :: starEach es X.env := by rfl) : PA X (e :: es) (tCons te t) := by
  intro pos pins s σ H Q I h
  rw [hs]
  show wpAny _ _ (spliced ((false, eval e X.env) :: backTo pos (starEach es X.env))) _ _ s
  refine Calls.spliced_cons (thn (ha pins s σ H _ I h) fun u s1 ⟨x, H1, I1, r1, q1⟩ => ?_)
  exact thn (hr pos pins s1 σ H1 _ I1 q1) fun us s2 ⟨xs, H2, I2, r2, q2⟩ => ⟨x :: xs, H2, I2, .cons r1 r2, q2⟩
def tTup (t : TA) : TE := fun σ H Q => t σ H fun xs H1 => xs.length ≤ sizeLine ∧ ∀ p, H1 p = none → Q (.ref p) (upd H1 p (.tup xs))
def tLst (t : TA) : TE := fun σ H Q => t σ H fun xs H1 => xs.length ≤ sizeLine ∧ ∀ p, H1 p = none → Q (.ref p) (upd H1 p (.lst xs))
theorem pe_tup {x1} (h : PA X es t) : PE X (.Tuple es x1 pos) (tTup t) := by
  intro pins s σ H Q I hq
  refine wpAny_Tuple_spliced (thn (h pos pins s σ H _ I hq) fun us s1 ⟨xs, H1, I1, r, z, q⟩ => ⟨by rw [← r.length]; exact z, ?_⟩)
  have hf : H1 s1.heap.objs.size = none := I1.hok.fresh (Nat.le_refl _)
  refine ⟨.ref s1.heap.objs.size, upd H1 s1.heap.objs.size (.tup xs), I1.laid (t' := s1.toks) (fun b u e => Heap.get?_push_of_some _ e) (Nat.le_refl _) ?_, rfl, q _ hf⟩
  exact ⟨z, us, r, ⟨_, Heap.get?_push_size _ rfl, rfl, _, rfl⟩⟩
theorem pe_lst (h : PA X es t) : PE X (.List es pos) (tLst t) := by
  intro pins s σ H Q I hq
  refine wpAny_List_spliced (thn (h pos pins s σ H _ I hq) fun us s1 ⟨xs, H1, I1, r, z, q⟩ => ⟨by rw [← r.length]; exact z, ?_⟩)
  have hf : H1 s1.heap.objs.size = none := I1.hok.fresh (Nat.le_refl _)
  refine ⟨.ref s1.heap.objs.size, upd H1 s1.heap.objs.size (.lst xs), I1.laid (t' := s1.toks) (fun b u e => Heap.get?_push_of_some _ e) (Nat.le_refl _) ?_, rfl, q _ hf⟩
  exact ⟨z, us, 0, r, Heap.get?_push_size _ rfl⟩
end
abbrev Sp := List V → Hp → VK → XK → Prop
abbrev CXT := List Env → Hp → Shared → XK → Value → Shared → Prop
structure Env0 (P : Program) (w : World) (K : PySem.W.Frag) (mg : Str → Option Value) (base : Heap) (A : Around) (outer : List Env) (s : Shared) (H : Hp) : Prop where
  frames : A.frames = some outer
  mod : Mod K mg base
  bs : ∀ b o, base.get? b = some o → s.heap.get? b = some o ∧ H b = none
  bsz : base.objs.size ≤ s.heap.objs.size
  funs : s.heap.FunFrames base outer
  frf : ∀ b ∈ frs outer, H b = none
  hok : HOk P w H s.heap
  bare : AllBare s.gens
def CE (outer : List Env) (P : Program) (w : World) (H : Hp) (s : Shared) (Q : VK) (u : Value) (s' : Shared) : Prop :=
  ∃ v H', s'.os = s.os ∧ AllBare s'.gens ∧ Un (frs outer) [] H H' s.heap s'.heap ∧ HOk P w H' s'.heap ∧ RelV v u ∧ Q v H'
def CR (CX : CXT) (outer : List Env) (P : Program) (w : World) (H : Hp) (s : Shared) (Q : VK) (E : XK) (r : Result) (s' : Shared) : Prop :=
  match r with
  | .ok (.ret u) => CE outer P w H s Q u s'
  | .ok _ => False
  | .error e => CX outer H s E e s'
structure FnOk (P : Program) (w : World) (K : PySem.W.Frag) (mg : Str → Option Value) (base : Heap) (CX : CXT) (k : Nat) (f : Addr) (fd : FuncData) (ps : List Str) (sp : Sp) : Prop where
  len : ∀ vs H Q E, sp vs H Q E → vs.length = ps.length
  run : ∀ (A : Around) (outer : List Env) (s : Shared) (H : Hp) (args : Args) (us : List Value) (vs : List V) (Q : VK) (E : XK), Room k A → Env0 P w K mg base A outer s H → BindsTo s fd args (ps.zip us) → Vals vs us → sp vs H Q E →
    codeAny (model P w) A (.call (.ref f) args) (CR CX outer P w H s Q E) s
theorem Env0.make {P : Program} {w : World} {K : PySem.W.Frag} {mg : Str → Option Value} {base : Heap} {A : Around} {outer : List Env} {s : Shared} {H : Hp} (e : Env0 P w K mg base A outer s H) (C : Addr) (us : List Value) (kw : List (Str × Value)) :
    Env0 P w K mg base (A.under (.builtin "type.__call__" ⟨.ref C :: us, kw⟩)) outer s H := ⟨by first | exact e.frames | (simpa [Around.under, Code.envs, Code.isFrame, pushEnvs] using e.frames), e.mod, e.bs, e.bsz, e.funs, e.frf, e.hok, e.bare⟩
section
variable {X : Cx} {pins : List (Addr × Obj)} {σ : St} {H : Hp} {s s' : Shared}
theorem Inv.env0 (I : Inv X pins σ H s) : Env0 X.prog X.w X.K X.mg X.base X.A X.stack s H :=
  ⟨I.ok.frames, I.ok.mod, I.bs, Nat.le_trans I.ok.bsz I.sz, I.stack, I.stkFree, I.hok, I.bare⟩
theorem Inv.after {Q : VK} {u : Value} (I : Inv X pins σ H s) (h : CE X.stack X.prog X.w H s Q u s') : EP X pins σ Q u s' := by
  obtain ⟨v, H', os, bare, un, hok, r, q⟩ := h
  obtain ⟨hh, g, d, t, os'⟩ := s'
  obtain rfl : os' = s.os := os
  exact ⟨v, H', I.call (h' := hh) (g' := g) (d' := d) (t' := t) (ch := []) un hok bare (fun b z => absurd z (by simp)), r, q⟩
end
def tCall (sp : Sp) (dvs : List V) (E : XK) (t : TA) : TE := fun σ H Q => t σ H fun vs H1 => sp (vs ++ dvs) H1 Q E
def tMeth (C : Addr) (m : Str) (sp : Sp) (dvs : List V) (E : XK) (ta : TE) (t : TA) : TE := fun σ H Q => ta σ H fun x H1 => ∃ a dx fs, x = .ref a ∧ H1 a = some (.ins C dx fs) ∧ fs.lookup m = none ∧
  t σ H1 fun vs H2 => sp (x :: (vs ++ dvs)) H2 Q E
def tMake (C : Addr) (sp : Sp) (dvs : List V) (E : XK) (t : TA) : TE := fun σ H Q => t σ H fun vs H1 => ∀ x dx, H1 x = none → H1 dx = none → dx ≠ x →
  sp (.ref x :: (vs ++ dvs)) (upd (upd H1 dx (.own x)) x (.ins C dx [])) (fun v H2 => v = .non ∧ Q (.ref x) H2) E
def Binds (K : PySem.W.Frag) (fd : FuncData) (ps : List Str) (ds : List Value) : Prop :=
  ∀ (s : Shared) (us : List Value), K.In s.heap → (us ++ ds).length = ps.length → BindsTo s fd ⟨us, []⟩ (ps.zip (us ++ ds))
theorem Binds.all {K : PySem.W.Frag} {fd : FuncData} {ps : List Str} (h : ∀ us : List Value, us.length = ps.length → bindArgs fd ⟨us, []⟩ = pure (ps.zip us)) : Binds K fd ps [] := fun s us _ hl => by
  rw [List.append_nil] at hl ⊢
  exact .of_eq (h us hl)
def Passes (CX : CXT) (X : Cx) (E : XK) : Prop := ∀ (pins : List (Addr × Obj)) (σ : St) (H : Hp) (s : Shared) (e : Value) (s' : Shared), Inv X pins σ H s → CX X.stack H s E e s' → X.xe e s'
section
variable {X : Cx} {CX : CXT} {k : Nat} {f C : Addr} {fd : FuncData} {ps : List Str} {sp : Sp} {dvs : List V} {ds : List Value} {E : XK} {x m : Str} {p pos apos : Pos} {e o : Expr} {es : List Expr} {ta : TE} {t : TA}
theorem run_fn {pins : List (Addr × Obj)} {σ : St} {H : Hp} {s : Shared} {Q : VK} {us : List Value} {vs : List V} (F : FnOk X.prog X.w X.K X.mg X.base CX k f fd ps sp) (hr : Room k X.A) (hb : Binds X.K fd ps ds) (hd : Vals dvs ds) (hx : Passes CX X E)
    (I : Inv X pins σ H s) (r : Vals vs us) (h : sp (vs ++ dvs) H Q E) : wpAny (model X.prog X.w) X.A (call (.ref f) us) (EP X pins σ Q) X.xe s := by
  have r2 : Vals (vs ++ dvs) (us ++ ds) := r.append hd
  have hl : (us ++ ds).length = ps.length := by rw [← r2.length]; exact F.len _ _ _ _ h
  refine wpAny_call (codeAny_mono (F.run X.A X.stack s H ⟨us, []⟩ (us ++ ds) (vs ++ dvs) Q E hr I.env0 (hb s us I.kIn hl) r2 h) fun r s' hq => ?_)
  cases r with
  | error e => exact hx pins σ H s e s' I hq
  | ok fl =>
    cases fl with
    | ret u => exact I.after hq
    | next => exact False.elim hq
    | brk => exact False.elim hq
    | cont => exact False.elim hq
theorem pe_call (F : FnOk X.prog X.w X.K X.mg X.base CX k f fd ps sp) (hr : Room k X.A) (hg : Gl X x) (hm : X.mg x = some (.ref f)) (hk : PySem.W.keepIn X.K (.ref f) = true) (hb : Binds X.K fd ps ds) (hd : Vals dvs ds) (hx : Passes CX X E)
    (ha : PA X (e :: es) t) (hdb : (x == ("__debug__" : Str)) = false := by decide) (he : starEach (e :: es) X.env = (false, eval e X.env) :: starEach es X.env := by rfl) (hpl : (backTo pos (starEach es X.env)).any (·.1) = false := by rfl) :
    PE X (.Call (.Name x p) (e :: es) [] pos) (tCall sp dvs E t) := by
  intro pins s σ H Q I h
  refine wpAny_Call_Name_kw (ld_glob I hg hm ?_ hdb)
  refine PySem.W.callWith_K (h₀ := X.base) I.ok.mod.kin hk (thn (ha pos pins s σ H _ I h) fun us s1 ⟨vs, H1, I1, r, q⟩ => ⟨I1.kIn, ?_⟩) he hpl
  exact run_fn F hr hb hd hx I1 r q
theorem pe_meth {pl : Sem Bool} (he : PE X o ta) (c : Cls X.K C) (hm : Meth X.K C m f) (F : FnOk X.prog X.w X.K X.mg X.base CX k f fd ps sp) (hr : Room k X.A) (hb : Binds X.K fd ps ds) (hd : Vals dvs ds) (hx : Passes CX X E) (ha : PA X (e :: es) t)
    (hst : starEach (e :: es) X.env = (false, eval e X.env) :: starEach es X.env := by rfl) (hpl : (backTo pos (starEach es X.env)).any (·.1) = false := by rfl)
    (ht : eval (.Call (.Attribute o m apos) (e :: es) [] pos) X.env = (do
      let ov ← eval o X.env
      standAt apos.atName
      let (f, first) ← holding [ov] (getMethod ov m pl)
      callWith pos f first (backTo pos (starEach (e :: es) X.env)) (backToKw pos (keywordEach [] X.env))) := by rfl) :
    PE X (.Call (.Attribute o m apos) (e :: es) [] pos) (tMeth C m sp dvs E ta t) := by
  intro pins s σ H Q I h
  refine PySem.W.methodCall_KW (pl := pl) (thn (he pins s σ H _ I h) fun u s1 ⟨x, H1, I1, rx, a, dx, fs, ex, ea, l, q⟩ => ?_) ht
  subst ex
  obtain rfl : u = Value.ref a := rx
  refine getmeth_ok I1 ea c hm l ?_
  refine PySem.W.callWith_K (first := [.ref a]) (h₀ := X.base) I.ok.mod.kin hm.kp (thn (ha pos pins s1 σ H1 _ I1 q) fun us s2 ⟨vs, H2, I2, r, q2⟩ => ⟨I2.kIn, ?_⟩) hst hpl
  exact run_fn (us := .ref a :: us) (vs := .ref a :: vs) F hr hb hd hx I2 (.cons rfl r) q2
structure Mk (K : PySem.W.Frag) (C f : Addr) : Prop where
  makes : PySem.W.makesIn K C = true
  init : PySem.W.findIn K (.ref C) "__init__" = some (some (.ref f))
  fn : PySem.W.isFn K (.ref f) = true
  kp : PySem.W.keepIn K (.ref C) = true
theorem run_make {pins : List (Addr × Obj)} {σ : St} {H : Hp} {s : Shared} {Q : VK} {us : List Value} {vs : List V} (M : Mk X.K C f) (F : FnOk X.prog X.w X.K X.mg X.base CX k f fd ps sp) (hr : Room (k + 1) X.A) (hb : Binds X.K fd ps ds) (hd : Vals dvs ds)
    (hx : Passes CX X E) (I : Inv X pins σ H s) (r : Vals vs us)
    (h : ∀ x dx, H x = none → H dx = none → dx ≠ x → sp (.ref x :: (vs ++ dvs)) (upd (upd H dx (.own x)) x (.ins C dx [])) (fun v H2 => v = .non ∧ Q (.ref x) H2) E) :
    wpAny (model X.prog X.w) X.A (call (.ref C) us) (EP X pins σ Q) X.xe s := by
  have hq := h (s.heap.objs.size + 1) s.heap.objs.size (I.hok.fresh (Nat.le_succ _)) (I.hok.fresh (Nat.le_refl _)) (Nat.ne_of_lt (Nat.lt_succ_self _))
  have I2 := Inv.made (C := C) I
  have r2 : Vals (V.ref (s.heap.objs.size + 1) :: (vs ++ dvs)) (Value.ref (s.heap.objs.size + 1) :: (us ++ ds)) := .cons rfl (r.append hd)
  have hl : (Value.ref (s.heap.objs.size + 1) :: us ++ ds).length = ps.length := by
    have e := r2.length
    rw [F.len _ _ _ _ hq] at e
    exact e.symm
  refine wpAny_call (make_map (f := f) I.kIn M.makes M.init (beq_iff_eq.mp M.fn) (codeAny_mono (F.run _ X.stack _ _ ⟨Value.ref (s.heap.objs.size + 1) :: us, []⟩ (Value.ref (s.heap.objs.size + 1) :: (us ++ ds)) _ _ E (hr.make C us [])
    (I2.env0.make C us []) (hb _ (Value.ref (s.heap.objs.size + 1) :: us) I2.kIn hl) r2 hq) fun r s' hq' => ?_))
  cases r with
  | error e => exact hx pins σ _ _ e s' I2 hq'
  | ok fl =>
    cases fl with
    | ret u =>
      obtain ⟨v, H', I3, rv, ev, q3⟩ := I2.after hq'
      subst ev
      exact ⟨rv, ⟨V.ref (s.heap.objs.size + 1), H', I3, rfl, q3⟩⟩
    | next => exact False.elim hq'
    | brk => exact False.elim hq'
    | cont => exact False.elim hq'
theorem pe_make (M : Mk X.K C f) (F : FnOk X.prog X.w X.K X.mg X.base CX k f fd ps sp) (hr : Room (k + 1) X.A) (hg : Gl X x) (hm : X.mg x = some (.ref C)) (hb : Binds X.K fd ps ds) (hd : Vals dvs ds) (hx : Passes CX X E)
    (ha : PA X (e :: es) t) (hdb : (x == ("__debug__" : Str)) = false := by decide) (he : starEach (e :: es) X.env = (false, eval e X.env) :: starEach es X.env := by rfl) (hpl : (backTo pos (starEach es X.env)).any (·.1) = false := by rfl) :
    PE X (.Call (.Name x p) (e :: es) [] pos) (tMake C sp dvs E t) := by
  intro pins s σ H Q I h
  refine wpAny_Call_Name_kw (ld_glob I hg hm ?_ hdb)
  refine PySem.W.callWith_K (h₀ := X.base) I.ok.mod.kin M.kp (thn (ha pos pins s σ H _ I h) fun us s1 ⟨vs, H1, I1, r, q⟩ => ⟨I1.kIn, ?_⟩) he hpl
  exact run_make M F hr hb hd hx I1 r q
theorem pe_make0 (M : Mk X.K C f) (F : FnOk X.prog X.w X.K X.mg X.base CX k f fd ps sp) (hr : Room (k + 1) X.A) (hg : Gl X x) (hm : X.mg x = some (.ref C)) (hb : Binds X.K fd ps ds) (hd : Vals dvs ds) (hx : Passes CX X E)
    (hdb : (x == ("__debug__" : Str)) = false := by decide) : PE X (.Call (.Name x p) [] [] pos) (tMake C sp dvs E tNil) := by
  intro pins s σ H Q I h
  refine wpAny_Call_Name_kw (ld_glob I hg hm ?_ hdb)
  exact PySem.W.callWith_K0 I.kIn M.kp (run_make (us := []) M F hr hb hd hx I .nil h)
end
section
variable {X : Cx} {CX : CXT} {k : Nat} {f C : Addr} {fd : FuncData} {ps ks : List Str} {sp : Sp} {E : XK} {x m : Str} {p pos apos kpos : Pos} {e o : Expr} {es : List Expr} {kws : List Keyword} {te ta : TE} {t tk : TA} {nm : Option Str}
variable {g : List Value → List Value → List Value} {gV : List V → List V → List V}
end
structure FnScope (N P : List Str) (sc : Scope) : Prop where
  kind : sc.kind = .function
  co : sc.isCoroutine = false
  gen : sc.isGenerator = false
  nd : N.Nodup
  pre : N.take P.length = P
  par : ∀ x ∈ P, sc.names.lookup x = some .local ∨ sc.names.lookup x = some .cell
  nofree : ∀ y ∈ sc.names, y.2 ≠ .free
theorem bindL_out {kindOf : Str → Option NameKind} {x : Str} : ∀ {binds : List (Str × Value)} {m : Str → Option Value}, (∀ v, (x, v) ∉ binds) → bindL kindOf binds m x = m x
  | [], _, _ => rfl
  | (n, v) :: r, m, h => by
    unfold bindL
    rw [bindL_out fun w hw => h w (List.mem_cons_of_mem _ hw)]
    split
    · have : x ≠ n := by rintro rfl; exact h v List.mem_cons_self
      simp [this]
    · rfl
theorem bindC_out {kindOf : Str → Option NameKind} {x : Str} : ∀ {binds : List (Str × Value)} {m : Str → Option Value}, (∀ v, (x, v) ∉ binds) → bindC kindOf binds m x = m x
  | [], _, _ => rfl
  | (n, v) :: r, m, h => by
    unfold bindC
    rw [bindC_out fun w hw => h w (List.mem_cons_of_mem _ hw)]
    split
    · rfl
    · have : x ≠ n := by rintro rfl; exact h v List.mem_cons_self
      simp [this]
theorem bindL_get {kindOf : Str → Option NameKind} {x : Str} {v : Value} : ∀ {P : List Str} {vs : List Value} {i : Nat} {m : Str → Option Value}, P.Nodup → P[i]? = some x → vs[i]? = some v → kindOf x = some .local →
    bindL kindOf (P.zip vs) m x = some v
  | [], _, _, _, _, h, _, _ => by simp at h
  | _ :: _, [], _, _, _, _, h, _ => by simp at h
  | p :: P, w :: vs, 0, m, nd, h1, h2, hk => by
    simp at h1 h2; subst h1; subst h2
    show bindL kindOf ((p, w) :: P.zip vs) m p = _
    unfold bindL
    rw [bindL_out fun v hv => (List.nodup_cons.mp nd).1 (List.of_mem_zip hv).1, if_pos hk]
    simp
  | p :: P, w :: vs, i + 1, m, nd, h1, h2, hk => by
    show bindL kindOf ((p, w) :: P.zip vs) m x = _
    unfold bindL
    exact bindL_get (i := i) (List.nodup_cons.mp nd).2 (by simpa using h1) (by simpa using h2) hk
theorem bindC_get {kindOf : Str → Option NameKind} {x : Str} {v : Value} : ∀ {P : List Str} {vs : List Value} {i : Nat} {m : Str → Option Value}, P.Nodup → P[i]? = some x → vs[i]? = some v → kindOf x ≠ some .local →
    bindC kindOf (P.zip vs) m x = some v
  | [], _, _, _, _, h, _, _ => by simp at h
  | _ :: _, [], _, _, _, _, h, _ => by simp at h
  | p :: P, w :: vs, 0, m, nd, h1, h2, hk => by
    simp at h1 h2; subst h1; subst h2
    show bindC kindOf ((p, w) :: P.zip vs) m p = _
    unfold bindC
    rw [bindC_out fun v hv => (List.nodup_cons.mp nd).1 (List.of_mem_zip hv).1, if_neg hk]
    simp
  | p :: P, w :: vs, i + 1, m, nd, h1, h2, hk => by
    show bindC kindOf ((p, w) :: P.zip vs) m x = _
    unfold bindC
    exact bindC_get (i := i) (List.nodup_cons.mp nd).2 (by simpa using h1) (by simpa using h2) hk
def start (N : List Str) (vs : List V) : St := vs.map some ++ List.replicate (N.length - vs.length) none
def cxOf (CX : CXT) (P : Program) (w : World) (K : PySem.W.Frag) (mg : Str → Option Value) (base : Heap) (N : List Str) (qual : Str) (scope : Scope) (f : Addr) (cd : Value) (A : Around) (outer : List Env) (s : Shared) (H : Hp) (E : XK) : Cx where
  prog := P
  w := w
  K := K
  mg := mg
  base := base
  A := A.deeper (envOfC qual scope s.heap.objs.size f cd)
  N := N
  s_0 := s
  H_0 := H
  env := envOfC qual scope s.heap.objs.size f cd
  outer := outer
  stack := envOfC qual scope s.heap.objs.size f cd :: outer
  ex := []
  calm := true
  fn := fun _ => true
  pn := []
  xe := fun e s' => wpAny (model P w) (A.deeper (envOfC qual scope s.heap.objs.size f cd)) (leaving (envOfC qual scope s.heap.objs.size f cd) e) (fun _ s'' => CX outer H s E e s'') (fun e' s'' => CX outer H s E e' s'') s'
theorem cell_has {sc : Scope} {n : Nat} {x : Str} (h : sc.names.lookup x = some .cell) : ∃ c, (cellsFrom n sc.names []).lookup x = some c := by
  have q := PySem.W.cellsFrom_some sc.names n [] (.inl h)
  exact Option.isSome_iff_exists.mp q
theorem inv_start {CX : CXT} {P : Program} {w : World} {K : PySem.W.Frag} {mg : Str → Option Value} {base : Heap} {N ps : List Str} {qual : Str} {scope : Scope} {f : Addr} {cd : Value} {A : Around} {outer : List Env} {s s1 : Shared} {H : Hp} {E : XK} {us : List Value} {vs : List V}
    (S : FnScope N ps scope) (hd : A.handled = none) (e0 : Env0 P w K mg base A outer s H) (hl : vs.length = ps.length) (r : Vals vs us)
    (x : InCallC s s.heap.objs.size (bindL (envOfC qual scope s.heap.objs.size f cd).kindOf (ps.zip us) fun _ => none) (cellsFrom (s.heap.objs.size + 1) scope.names []) (bindC (envOfC qual scope s.heap.objs.size f cd).kindOf (ps.zip us) fun _ => none) s1) :
    Inv (cxOf CX P w K mg base N qual scope f cd A outer s H E) [] (start N vs) H s1 := by
  have hpl : ps.length ≤ N.length := by have := congrArg List.length S.pre; rw [List.length_take] at this; omega
  obtain ⟨h1, tk, rfl, hk⟩ := x.done
  have noA : ∀ b : Addr, b ∉ (cxOf CX P w K mg base N qual scope f cd A outer s H E).ex := fun b z => absurd (show b ∈ ([] : List Addr) from z) (by simp)
  refine ⟨⟨e0.mod, S.kind, rfl, rfl, Nat.le_refl _, fun y z c h1 h2 => ?_, fun y hy => ?_, fun y c _ h => ?_, fun _ => hd, Around.frames_deeper e0.frames, .inr ⟨rfl, rfl⟩, fun b z => absurd z (noA b), e0.bs, e0.bsz, fun b _ _ => noA b, fun b z => absurd z (noA b), e0.funs, e0.frf⟩,
    rfl, e0.bare, Un.kept hk, ⟨_, x.toInCall.ns, fun i y v h1 h2 h3 => ?_⟩, fun y c h => ⟨_, x.cell y c h⟩, e0.hok.fresh (Nat.le_refl _), fun y c h => ?_, fun p hp => absurd (show p ∈ ([] : List (Addr × Obj)) from hp) (by simp), e0.hok.kept hk, ?_⟩
  · exact name_of_addr x.apart (PySem.mem_of_lookup h1) (PySem.mem_of_lookup h2)
  · have hy : scope.names.lookup y = some .cell ∨ scope.names.lookup y = some .free := hy
    rcases hy with hy | hy
    · exact cell_has hy
    · exact absurd rfl (S.nofree _ (PySem.mem_of_lookup hy))
  · exact Nat.le_of_lt (x.above y c (PySem.mem_of_lookup h))
  · have hi : i < vs.length := by
      unfold start at h2
      by_cases hi : i < vs.length
      · exact hi
      · rw [List.getElem?_append_right (by simpa using hi)] at h2
        rw [List.getElem?_replicate] at h2
        split at h2 <;> cases h2
    have ha : vs[i]? = some v := by
      unfold start at h2
      rw [List.getElem?_append_left (by simpa using hi), List.getElem?_map] at h2
      cases e : vs[i]? with
      | none => rw [e] at h2; cases h2
      | some a => rw [e] at h2; cases h2; rfl
    obtain ⟨u, hu, rv⟩ := r.get ha
    have hp : ps[i]? = some y := by
      rw [← S.pre, List.getElem?_take_of_lt (by omega)]; exact h1
    have ndP : ps.Nodup := by rw [← S.pre]; exact S.nd.sublist (List.take_sublist _ _)
    refine ⟨u, rv, ?_⟩
    rcases S.par y (List.mem_of_getElem? hp) with k | k
    · exact .inl ⟨k, bindL_get ndP hp hu k⟩
    · obtain ⟨c, e⟩ := cell_has (n := s.heap.objs.size + 1) k
      refine .inr ⟨.inl k, c, e, ?_⟩
      have q := x.cell y c e
      rw [bindC_get ndP hp hu (by show scope.names.lookup y ≠ _; rw [k]; decide)] at q
      exact q
  · exact e0.hok.fresh (Nat.le_of_lt (x.above y c (PySem.mem_of_lookup h)))
  · unfold start
    show _ = N.length
    rw [List.length_append, List.length_map, List.length_replicate]
    omega
theorem fn_of {CX : CXT} {P : Program} {w : World} {K : PySem.W.Frag} {mg : Str → Option Value} {base : Heap} {k : Nat} {f : Addr} {name qual : Str} {params : Arguments} {body : List Stmt} {scope : Scope} {dV kV doc pm cdv ct oc : Value} {an od : Option Addr}
    {osl : Array (Option Value)} {N ps : List Str} {sp : Sp} (lk : K.lookup f = some ⟨oc, od, .func (PySem.W.fnOf name qual params body scope dV kV doc pm an cdv ct), osl⟩) (hcd : PySem.W.codeIn K cdv qual = true) (S : FnScope N ps scope)
    (len : ∀ vs H Q E, sp vs H Q E → vs.length = ps.length)
    (hbody : ∀ (A : Around) (outer : List Env) (s : Shared) (H : Hp) (vs : List V) (Q : VK) (E : XK), Room k (A.deeper (envOfC qual scope s.heap.objs.size f cdv)) → sp vs H Q E →
      ∃ t, PSs (cxOf CX P w K mg base N qual scope f cdv A outer s H E) body t ∧ t { nx := fun _ H' => Q .non H', rt := Q } (start N vs) H) :
    FnOk P w K mg base CX (k + 1) f (PySem.W.fnOf name qual params body scope dV kV doc pm an cdv ct) ps sp := by
  refine ⟨len, fun A outer s H args us vs Q E hr e0 hb r hsp => ?_⟩
  have hl := len _ _ _ _ hsp
  have KX : K.In s.heap := e0.mod.kin.keeps fun b o e => (e0.bs b o e).1
  have lim : s.heap.NoLimit := e0.mod.nolimit.keeps fun b o e => (e0.bs b o e).1
  have hkind : ∀ y ∈ ps.zip us, scope.names.lookup y.1 = some .local ∨ (scope.names.lookup y.1 = some .cell ∧ ((cellsFrom (s.heap.objs.size + 1) scope.names []).lookup y.1).isSome = true) := fun ⟨n, v⟩ hy => by
    rcases S.par n (List.of_mem_zip hy).1 with q | q
    · exact .inl q
    · exact .inr ⟨q, PySem.W.cellsFrom_some _ _ _ (.inl q)⟩
  refine codeAny_call_function hr.depth (KX _ _ lk) rfl S.co S.gen rfl (PySem.W.codeRec_of KX hcd) (hb _ _ _ _ ?_)
  refine wpAny_newFunctionEnv_cells S.kind hkind fun env he s1 x => ?_
  subst he
  refine ⟨lim.keeps x.toInCall.keep, codeAny_func ?_⟩
  obtain ⟨t, ht, hq⟩ := hbody A outer s H vs Q E (hr.deeper _) hsp
  have I : Inv (cxOf CX P w K mg base N qual scope f cdv A outer s H E) [] (start N vs) H s1 := inv_start S hr.hd e0 hl r x
  refine wpAny_mono (ht [] s1 (start N vs) H _ I hq) (fun fl s' hs => ?_) fun e s' hs => hs
  have fin : ∀ {σ' : St} {H' : Hp} {v : V} {u : Value}, Inv (cxOf CX P w K mg base N qual scope f cdv A outer s H E) [] σ' H' s' → RelV v u → Q v H' → CE outer P w H s Q u s' :=
    fun {σ' H' v u} J rv q => ⟨v, H', J.os, J.bare, J.base, J.hok, rv, q⟩
  cases fl with
  | ret u =>
    obtain ⟨v, σ', H', J, rv, q⟩ := hs
    exact fin J rv q
  | next =>
    obtain ⟨σ', H', J, q⟩ := hs
    exact fin (v := V.non) (u := Value.none) J rfl q
  | brk =>
    obtain ⟨_, _, _, q⟩ := hs
    exact False.elim q
  | cont =>
    obtain ⟨_, _, _, q⟩ := hs
    exact False.elim q
end L2
namespace L2
open PySem PySem.Spec PyProof.Rows
section
variable {X : Cx} {x : Str} {p pos : Pos} {e : Expr} {es : List Expr} {t : TA} {id T : String} {r : List V → Hp → VK → Prop}
def tCB (r : List V → Hp → VK → Prop) (t : TA) : TE := fun σ H Q => t σ H fun vs H1 => r vs H1 Q
theorem pe_callB (hc : CallR X (.builtin id) r) (hg : Gl X x) (hm : X.mg x = none) (hv : bootBuiltins x = some (.builtin id)) (ha : PA X (e :: es) t) (hn : x ≠ "__name__" := by decide) (hdb : (x == ("__debug__" : Str)) = false := by decide)
    (he : starEach (e :: es) X.env = (false, eval e X.env) :: starEach es X.env := by rfl) (hpl : (backTo pos (starEach es X.env)).any (·.1) = false := by rfl) : PE X (.Call (.Name x p) (e :: es) [] pos) (tCB r t) := by
  intro pins s σ H Q I h
  refine wpAny_Call_Name_kw (ld_blt I hg hm hv ?_ hn hdb)
  exact PyProof.Rows.callWith_builtin1 (thn (ha pos pins s σ H _ I h) fun us s1 ⟨vs, H1, I1, r1, q1⟩ => hc pins s1 σ H1 vs us Q I1 r1 q1) he hpl
end
end L2
namespace HT
open PySem PyProof.Rows
def lexLt : List Int → List Int → Bool
  | [], [] => false
  | [], _ :: _ => true
  | _ :: _, [] => false
  | x :: xs, y :: ys => if x = y then lexLt xs ys else decide (x < y)
theorem lexLt_cons (x y : Int) (xs ys : List Int) : lexLt (x :: xs) (y :: ys) = if x = y then lexLt xs ys else decide (x < y) := rfl
theorem lexLt_nil_nil : lexLt [] [] = false := rfl
theorem lexLt_nil_cons (y : Int) (ys : List Int) : lexLt [] (y :: ys) = true := rfl
theorem lexLt_cons_nil (x : Int) (xs : List Int) : lexLt (x :: xs) [] = false := rfl
theorem eqAt_int (A : Around) (s : Shared) (a : Int) (t : Tok) (c : Int) (u : Tok) : ∃ e, SeqAt.EqAt A s (.int a t) (.int c u) e ∧ (e = true ↔ a = c) :=
  ⟨(a == c), SeqAt.EqAt.int_int a t c u, by simp⟩
theorem rcLt_int (A : Around) (s : Shared) (a : Int) (t : Tok) (c : Int) (u : Tok) (prog : Program) (w : World) (E : Value → Shared → Prop) (Q : Value → Shared → Prop) (h : Q (.bool (decide (a < c))) s) :
    wpAny (model prog w) A (richCompare .Lt (.int a t) (.int c u)) Q E s :=
  (PyProof.Rows.lt_int h : wpAny (model prog w) A (compareOp .Lt (.int a t) (.int c u)) Q E s)
section
open PySem.SeqAt
open PySem.AutoSeq1 (wpAny_loadPart')
open PySem.MeetsSeq PySem.MeetsSeq2 PySem.MeetsSeq3
theorem tuple_lt_ints (l b : Addr) (items items2 : Array Value) (n n2 : Nat) (dd dd2 : Option Addr) (sl sl2 : Array (Option Value)) (ns ms : List Int) (hi : IntsAre items.toList ns) (hj : IntsAre items2.toList ms) :
    Meets (Builtin.«tuple.__lt__» ⟨[.ref l, .ref b], []⟩)
      (fun _ R s => s.heap.get? l = some { cls := .type "tuple", dict := dd, data := .seq items n, slots := sl } ∧ s.heap.get? b = some { cls := .type "tuple", dict := dd2, data := .seq items2 n2, slots := sl2 } ∧
        R (.ok (.ret (.bool (lexLt ns ms)))) s) :=
  .of_wp fun prog w A R s h => by
    obtain ⟨hp, g, d, tk, os⟩ := s; obtain ⟨hl, hb, h⟩ := h
    have f2 := AutoSeq1.sub_tuple_tuple
    have z1 : items.size = ns.length := by rw [← hi.length]; simp
    have z2 : items2.size = ms.length := by rw [← hj.length]; simp
    wp_walk using wpAny_loadPart' hl, wpAny_loadPart' hb, wpAny_forIn_list _ (fun rest b s' => b.1 = none ∧ s' = ⟨hp, g, d, tk, os⟩ ∧ ∃ (vs ws : List Value) (ns' ms' : List Int), rest = vs.zip ws ∧
      IntsAre vs ns' ∧ IntsAre ws ms' ∧ ns'.length + items2.size = ms'.length + items.size ∧ R (.ok (.ret (.bool (lexLt ns' ms')))) ⟨hp, g, d, tk, os⟩) _
    case turn =>
      rintro ⟨y, x⟩ rest b s' ⟨hb', rfl, vs, ws, ns', ms', hz, hvi, hwi, hlen, hR⟩
      cases hvi with
      | nil => rw [List.zip_nil_left] at hz; cases hz
      | cons a t hvi' =>
        cases hwi with
        | nil => rw [List.zip_nil_right] at hz; cases hz
        | cons c u hwi' =>
          rw [List.zip_cons_cons] at hz
          injection hz with hyx hrest
          injection hyx with hy hx
          subst hy hx
          rw [lexLt_cons] at hR
          simp only [List.length_cons] at hlen
          obtain ⟨e, he, hiff⟩ := eqAt_int A.in1 ⟨hp, g, d, tk, os⟩ a t c u
          refine wpAny_bind (he prog w _ _ ?_)
          cases e with
          | true =>
            rw [if_pos (hiff.mp rfl)] at hR
            wp_walk
            exact ⟨rfl, rfl, _, _, _, _, hrest, hvi', hwi', by omega, hR⟩
          | false =>
            rw [if_neg (fun q => absurd (hiff.mpr q) Bool.false_ne_true)] at hR
            have hri := rcLt_int A.in1 ⟨hp, g, d, tk, os⟩ a t c u prog w
            wp_walk using hri
            exact ⟨_, rfl, by simpa using hR⟩
    case fin =>
      rintro ⟨b1, b2⟩ s' ⟨hb', rfl, vs, ws, ns', ms', hz, hvi, hwi, hlen, hR⟩
      simp only at hb'
      subst hb'
      have hv : lexLt ns' ms' = decide (items.size < items2.size) := by
        cases hvi with
        | nil =>
          cases hwi with
          | nil =>
            simp only [List.length_nil] at hlen
            rw [lexLt_nil_nil]
            exact (decide_eq_false (by omega)).symm
          | cons c u hw =>
            simp only [List.length_nil, List.length_cons] at hlen
            rw [lexLt_nil_cons]
            exact (decide_eq_true (by omega)).symm
        | cons a t hv =>
          cases hwi with
          | nil =>
            simp only [List.length_nil, List.length_cons] at hlen
            rw [lexLt_cons_nil]
            exact (decide_eq_false (by omega)).symm
          | cons c u hw =>
            rw [List.zip_cons_cons] at hz
            cases hz
      rw [hv] at hR
      wp_walk
      exact ⟨_, rfl, by simpa [Builtin.Tuple.tupleCompareSizes] using hR⟩
    case h =>
      exact ⟨rfl, rfl, items.toList, items2.toList, ns, ms, rfl, hi, hj, by omega, h⟩
end
section
variable {prog : Program} {w : World} {A : Around} {E : Value → Shared → Prop} {s : Shared}
theorem lt_tupInts {l b : Addr} {items items2 : Array Value} {ns ms : List Int} {Q : Value → Shared → Prop} (hl : IsTup s.heap l items) (hb : IsTup s.heap b items2) (hi : IntsAre items.toList ns) (hj : IntsAre items2.toList ms)
    (hu : A.units < cLine) (h : Q (.bool (lexLt ns ms)) s) : wpAny (model prog w) A (compareOp .Lt (.ref l) (.ref b)) Q E s := by
  obtain ⟨⟨cls, dd, data, sl⟩, ho, hc, n, hd⟩ := id hl
  obtain ⟨⟨cls2, dd2, data2, sl2⟩, ho2, hc2, n2, hd2⟩ := id hb
  simp only at hc hd hc2 hd2
  subst hc hd hc2 hd2
  exact richCompare_meets_room (op := .Lt) ⟨_, ho, rfl⟩ ⟨_, ho2, rfl⟩ PySem.F.slot_tuple_lt PySem.F.entry_tuple_lt (PySem.F.args_tuple_lt_2 _ _) (tuple_lt_ints l b items items2 n n2 dd dd2 sl sl2 ns ms hi hj)
    ⟨ho, ho2, show Value.bool (lexLt ns ms) ≠ Value.notImplemented ∧ Q (.bool (lexLt ns ms)) s from ⟨(fun x => nomatch x), h⟩⟩ hu
def sIx (n d : Nat) : Option Int → Nat
  | none => d
  | some v => if v < 0 then (v + (n : Int)).toNat else min v.toNat n
theorem sIx_none (n d : Nat) : sIx n d none = d := rfl
theorem sIx_nat (n d k : Nat) : sIx n d (some (k : Int)) = min k n := by
  show (if (k : Int) < 0 then ((k : Int) + (n : Int)).toNat else min (k : Int).toNat n) = min k n
  rw [if_neg (by omega), Int.toNat_natCast]
end
end HT
namespace L2
open PySem PySem.Spec PyProof.Rows
abbrev TO := St → Hp → (Option Int → Hp → Prop) → Prop
def PO (X : Cx) (e : Option Expr) (t : TO) : Prop :=
  ∀ (pins : List (Addr × Obj)) (s : Shared) (σ : St) (H : Hp) (Q : Option Int → Hp → Prop), Inv X pins σ H s → t σ H Q →
    wpAny (model X.prog X.w) X.A (evalPart e X.env) (fun u s' => ∃ o H', Inv X pins σ H' s' ∧ IsPart u o ∧ Q o H') X.xe s
def tNoPart : TO := fun _ H Q => Q none H
def tPart (t : TE) : TO := fun σ H Q => t σ H fun x H1 => ∃ i, x = .int i ∧ Q (some i) H1
theorem intsAre_of {ns : List Int} : ∀ {us : List Value}, Vals (ns.map V.int) us → IntsAre us ns := by
  induction ns with
  | nil => intro us r; rw [List.map_nil] at r; cases r; exact .nil
  | cons n ns ih =>
    intro us r
    rw [List.map_cons] at r
    cases r with
    | cons r1 r2 =>
      obtain ⟨t, e⟩ := r1
      subst e
      exact .cons n t (ih r2)
section
variable {X : Cx} {e : Expr} {te : TE} {lo hi : Option Expr} {tl th : TO} {pos p2 : Pos}
theorem po_none : PO X none tNoPart := by
  intro pins s σ H Q I h
  rw [evalPart_none]
  exact wpAny_pure ⟨none, H, I, .none, h⟩
theorem po_some (h : PE X e te) : PO X (some e) (tPart te) := by
  intro pins s σ H Q I hw
  rw [evalPart_some]
  refine thn (h pins s σ H _ I hw) fun u s1 ⟨x, H1, I1, r1, q1⟩ => ?_
  obtain ⟨i, rfl, q⟩ := q1
  obtain ⟨t, rfl⟩ := r1
  exact ⟨some i, H1, I1, .int i t, q⟩
def SlR (X : Cx) (r : V → Option Int → Option Int → Hp → VK → Prop) : Prop :=
  ∀ (pins : List (Addr × Obj)) (s : Shared) (σ : St) (H : Hp) (x : V) (v vl vu : Value) (lo hi : Option Int) (sl : Addr) (Q : VK), Inv X pins σ H s → RelV x v → s.heap.IsSliceOf sl vl vu .none → IsPart vl lo → IsPart vu hi → r x lo hi H Q →
    ∃ T id, typeLookup (.type T) "__getitem__" = pure (some (.builtin id)) ∧ s.TypeIs v T ∧ wpAny (model X.prog X.w) X.A (getItem v (.ref sl)) (EP X pins σ Q) X.xe s
def tSl (r : V → Option Int → Option Int → Hp → VK → Prop) (te : TE) (tl th : TO) : TE := fun σ H Q => te σ H fun x H1 => tl σ H1 fun l H2 => th σ H2 fun u H3 => r x l u H3 Q
theorem pe_slice {r : V → Option Int → Option Int → Hp → VK → Prop} (hr : SlR X r) (he : PE X e te) (hl : PO X lo tl) (hu : PO X hi th) : PE X (.Subscript e (.Slice lo hi none p2) pos) (tSl r te tl th) := by
  intro pins s σ H Q I h
  refine Subscript_ (thn (he pins s σ H _ I h) fun v s1 ⟨x, H1, I1, r1, q1⟩ => ?_)
  refine wpAny_Slice (thn (hl pins s1 σ H1 _ I1 q1) fun vl s2 ⟨l, H2, I2, pl, q2⟩ => thn (hu pins s2 σ H2 _ I2 q2) fun vu s3 ⟨u, H3, I3, pu, q3⟩ => ?_)
  rw [evalPart_none]
  refine wpAny_pure ?_
  have I4 : Inv X pins σ H3 { s3 with heap := s3.heap.push { cls := .type "slice", data := .fields #[vl, vu, .none] } } := I3.kept (t' := s3.toks) fun b ob q => Heap.get?_push_of_some _ q
  obtain ⟨T, id, hT, ht, hg⟩ := hr pins { s3 with heap := s3.heap.push { cls := .type "slice", data := .fields #[vl, vu, .none] } } σ H3 x v vl vu l u s3.heap.objs.size Q I4 r1 (Heap.IsSliceOf.new ..) pl pu q3
  show wpAny (model X.prog X.w) X.A (subscriptTail e (.Slice lo hi none p2) v (.ref s3.heap.objs.size)) (EP X pins σ Q) X.xe { s3 with heap := s3.heap.push { cls := .type "slice", data := .fields #[vl, vu, .none] } }
  exact tail_any (ops := [.ref s3.heap.objs.size, v]) ht hT hg (by with_unfolding_all rfl)
def cutV (xs : List V) (lo hi : Option Int) : List V := (xs.drop (HT.sIx xs.length 0 lo)).take (HT.sIx xs.length xs.length hi - HT.sIx xs.length 0 lo)
theorem cutV_length (xs : List V) (lo hi : Option Int) : (cutV xs lo hi).length ≤ xs.length := by
  unfold cutV
  rw [List.length_take, List.length_drop]
  omega
def rLtT (K : PySem.W.Frag) : R2 := fun x y H Q => ∃ a b ns ms, x = .ref a ∧ y = .ref b ∧ SqT K H a (ns.map V.int) ∧ SqT K H b (ms.map V.int) ∧ Q (.bl (HT.lexLt ns ms)) H
theorem op_ltT (hu : X.A.units < cLine) : OpR X (compareOp .Lt) (rLtT X.K) := by
  intro pins s σ H x y v u Q I rx ry h
  obtain ⟨a, b, ns, ms, rfl, rfl, ha, hb, q⟩ := h
  cases rx
  cases ry
  obtain ⟨its, r1, p1, _⟩ := I.tuple ha
  obtain ⟨its2, r2, p2, _⟩ := I.tuple hb
  have i1 : IntsAre its.toArray.toList ns := intsAre_of r1
  have i2 : IntsAre its2.toArray.toList ms := intsAre_of r2
  exact HT.lt_tupInts p1 p2 i1 i2 hu ⟨.bl (HT.lexLt ns ms), H, I, rfl, q⟩
end
end L2
namespace L2
open PySem PySem.Spec PyProof.Rows
def ixN (n : Nat) (i : Int) : Option Nat := if 0 ≤ i then (if i < n then some i.toNat else none) else if -(n : Int) ≤ i then some (i + n).toNat else none
def atI {α : Type} (xs : List α) (i : Int) : Option α := (ixN xs.length i).bind fun j => xs[j]?
theorem ixN_seq {n : Nat} {i : Int} {j : Nat} (h : ixN n i = some j) : seqIndex? i n = some j ∧ j < n ∧ -(n : Int) ≤ i ∧ i < n := by
  unfold ixN at h
  by_cases h0 : 0 ≤ i
  · rw [if_pos h0] at h
    by_cases h1 : i < n
    · rw [if_pos h1] at h
      have e : i.toNat = j := Option.some.inj h
      exact ⟨by rw [seqIndex_of h0 h1, e], by omega, by omega, h1⟩
    · rw [if_neg h1] at h; cases h
  · rw [if_neg h0] at h
    by_cases h1 : -(n : Int) ≤ i
    · rw [if_pos h1] at h
      have e : (i + n).toNat = j := Option.some.inj h
      exact ⟨by rw [seqIndex_neg (by omega) h1, e], by omega, h1, by omega⟩
    · rw [if_neg h1] at h; cases h
theorem atI_get {α : Type} {xs : List α} {i : Int} {v : α} (h : atI xs i = some v) : ∃ j, seqIndex? i xs.length = some j ∧ xs[j]? = some v ∧ j < xs.length ∧ -(xs.length : Int) ≤ i ∧ i < xs.length := by
  unfold atI at h
  cases e : ixN xs.length i with
  | none => rw [e] at h; cases h
  | some j =>
    rw [e] at h
    obtain ⟨h1, h2, h3, h4⟩ := ixN_seq e
    exact ⟨j, h1, h, h2, h3, h4⟩
theorem atI_nat {α : Type} {xs : List α} {j : Nat} {v : α} (h : xs[j]? = some v) : atI xs (j : Int) = some v := by
  have hj : j < xs.length := (List.getElem?_eq_some_iff.mp h).1
  have e : ixN xs.length (j : Int) = some j := by
    unfold ixN
    rw [if_pos (by omega), if_pos (by omega)]; simp
  unfold atI; rw [e]; exact h
def PlainIx (b : Expr) : Prop := ∀ o i, subscripted b false o i = operate [o, i] (getItem o i)
def IxR (X : Cx) (r : R2) : Prop :=
  ∀ (value slice : Expr) (pins : List (Addr × Obj)) (s : Shared) (σ : St) (H : Hp) (x y : V) (v u : Value) (Q : VK), Inv X pins σ H s → RelV x v → RelV y u → r x y H Q →
    subscripted slice false v u = operate [v, u] (getItem v u) → wpAny (model X.prog X.w) X.A (subscriptTail value slice v u) (EP X pins σ Q) X.xe s
def MtR (X : Cx) (id : String) (r : V → List V → Hp → VK → Prop) : Prop :=
  ∀ (pins : List (Addr × Obj)) (s : Shared) (σ : St) (H : Hp) (x : V) (xs : List V) (v : Value) (us : List Value) (Q : VK), Inv X pins σ H s → RelV x v → Vals xs us → r x xs H Q →
    wpAny (model X.prog X.w) X.A (call (.builtin id) (v :: us)) (EP X pins σ Q) X.xe s
section
variable {X : Cx} {a b : Expr} {ta tb : TE} {pos : Pos}
theorem pe_ix {r : R2} (hr : IxR X r) (ha : PE X a ta) (hb : PE X b tb) (hs : PlainIx b) : PE X (.Subscript a b pos) (tOp r ta tb) := by
  intro pins s σ H Q I h
  exact Subscript_ (binT ha hb I h fun v u s2 x y H2 I2 rx ry q => hr a b pins s2 σ H2 x y v u Q I2 rx ry q (hs _ _))
def rIxL (K : PySem.W.Frag) : R2 := fun x y H Q => ∃ p xs i v, x = .ref p ∧ y = .int i ∧ SqL K H p xs ∧ atI xs i = some v ∧ Q v H
def rIxT (K : PySem.W.Frag) : R2 := fun x y H Q => ∃ p xs i v, x = .ref p ∧ y = .int i ∧ SqT K H p xs ∧ atI xs i = some v ∧ Q v H
theorem ix_list : IxR X (rIxL X.K) := by
  intro value slice pins s σ H x y v u Q I rx ry h hs
  obtain ⟨p, xs, i, z, rfl, rfl, hq, he, q⟩ := h
  cases rx
  obtain ⟨t, rfl⟩ := ry
  obtain ⟨its, r, pl, hz⟩ := I.list hq
  obtain ⟨j, h1, h2, h3, h4, h5⟩ := atI_get he
  obtain ⟨w, ew, rw'⟩ := r.get h2
  have hl := r.length
  have hn := line63
  have fin : EP X pins σ Q w s := ⟨z, H, I, rw', q⟩
  by_cases h0 : 0 ≤ i
  · have hj : i.toNat = j := by
      rw [seqIndex_of h0 h5] at h1
      exact Option.some.inj h1
    exact item_listR pl.isList h0 (by omega) (by rw [hj]; simpa using ew) fin hs
  · have hj : (i + (its.toArray.size : Int)).toNat = j := by
      rw [seqIndex_neg (by omega) h4] at h1
      rw [List.size_toArray, ← hl]
      exact Option.some.inj h1
    exact subscriptTail_builtinR (x := w) pl.isList.typeIs slot_list_getitem.lookup
      (wpAny_getItem_list_neg (Q := fun r s' => r = w ∧ EP X pins σ Q r s') pl.isList (by omega) (by rw [List.size_toArray] <;> omega) (by omega) (by rw [hj]; simpa using ew) ⟨rfl, fin⟩) hs
theorem ix_tup : IxR X (rIxT X.K) := by
  intro value slice pins s σ H x y v u Q I rx ry h hs
  obtain ⟨p, xs, i, z, rfl, rfl, hq, he, q⟩ := h
  cases rx
  obtain ⟨t, rfl⟩ := ry
  obtain ⟨its, r, pl, hz⟩ := I.tuple hq
  obtain ⟨j, h1, h2, h3, h4, h5⟩ := atI_get he
  obtain ⟨w, ew, rw'⟩ := r.get h2
  have hl := r.length
  have hn := line63
  have fin : EP X pins σ Q w s := ⟨z, H, I, rw', q⟩
  exact subscriptTail_builtinR (x := w) pl.typeIs slot_tuple_getitem.lookup
    (getItem_tuple (j := j) (Q := fun r s' => r = w ∧ EP X pins σ Q r s') pl (by omega) (by omega) (by rw [List.size_toArray, ← hl]; exact h1) (by simpa using ew) ⟨rfl, fin⟩) hs
theorem mapSeq_set (its : List Value) (n j : Nat) (u : Value) : Obj.mapSeq (·.setIfInBounds j u) { cls := .type "list", data := .seq its.toArray n } = { cls := .type "list", data := .seq (its.set j u).toArray n } := by
  simp [Obj.mapSeq]
theorem Inv.lst {pins : List (Addr × Obj)} {σ : St} {H : Hp} {s : Shared} {p : Addr} {xs : List V} (I : Inv X pins σ H s) (h : H p = some (.lst xs)) :
    ∃ (its : List Value) (n : Nat), Vals xs its ∧ s.heap.get? p = some { cls := .type "list", data := .seq its.toArray n } ∧ xs.length ≤ sizeLine := by
  obtain ⟨z, its, n, r, e⟩ := I.hok p _ h
  exact ⟨its, n, r, e, z⟩
theorem Inv.lstUpd {pins : List (Addr × Obj)} {σ : St} {H : Hp} {s : Shared} {p : Addr} {xs ys : List V} {its its' : List Value} {n n' : Nat} {f : Obj → Obj} (I : Inv X pins σ H s) (h : H p = some (.lst xs))
    (ho : s.heap.get? p = some { cls := .type "list", data := .seq its.toArray n }) (hf : f { cls := .type "list", data := .seq its.toArray n } = { cls := .type "list", data := .seq its'.toArray n' }) (r : Vals ys its') (hz : ys.length ≤ sizeLine) (t : Nat) :
    Inv X pins σ (upd H p (.lst ys)) { s with heap := s.heap.update p f, toks := t } := by
  have e : (s.heap.update p f).get? p = some { cls := .type "list", data := .seq its'.toArray n' } := by
    rw [Heap.get?_update_self f ho (by rw [hf] <;> rfl), hf]
  refine I.write (x := p) (e := p) (by rw [h]; trivial) (.inl rfl) (fun b u hb q => (Heap.get?_update_other _ _ (Ne.symm hb)).trans q) ⟨_, e⟩ ?_
  exact ⟨hz, its', n', r, e⟩
def rSetL : V → V → V → Hp → (Hp → Prop) → Prop := fun o i v H Q => ∃ p xs k j, o = .ref p ∧ i = .int k ∧ H p = some (.lst xs) ∧ ixN xs.length k = some j ∧ Q (upd H p (.lst (xs.set j v)))
theorem set_list : PSet X rSetL := by
  intro pins s σ H o i v ov iv u Q I ro ri rv h
  obtain ⟨p, xs, k, j, rfl, rfl, hp, hj, q⟩ := h
  cases ro
  obtain ⟨t, rfl⟩ := ri
  obtain ⟨its, n, r, ho, hz⟩ := I.lst hp
  obtain ⟨h1, h2, h3, h4⟩ := ixN_seq hj
  have hl := r.length
  have hn := line63
  have I' : Inv X pins σ (upd H p (.lst (xs.set j v))) { s with heap := s.heap.update p (Obj.mapSeq (·.setIfInBounds j u)) } :=
    I.lstUpd hp ho (mapSeq_set its n j u) (r.set rv j) (by rw [List.length_set]; exact hz) s.toks
  by_cases h0 : 0 ≤ k
  · have hk : k.toNat = j := by
      rw [seqIndex_of h0 h4] at h1
      exact Option.some.inj h1
    exact PySem.W.ki_setAt ho h0 (by omega) (by rw [List.size_toArray, ← hl]; exact h4) (by rw [hk]; exact ⟨_, I', q⟩)
  · have hk : (k + (its.toArray.size : Int)).toNat = j := by
      rw [seqIndex_neg (by omega) h3] at h1
      rw [List.size_toArray, ← hl]
      exact Option.some.inj h1
    exact PySem.W.ki_setBack ho (by omega) (by rw [List.size_toArray, ← hl]; exact h3) (by omega) (by rw [hk]; exact ⟨_, I', q⟩)
theorem slice_bounds (lo hi : Option Int) (n : Nat) : (sliceBounds lo hi none n).1 = ((HT.sIx n 0 lo : Nat) : Int) ∧ (sliceBounds lo hi none n).2.1 = ((HT.sIx n n hi : Nat) : Int) ∧ (sliceBounds lo hi none n).2.2 = 1 := by
  refine ⟨?_, ?_, rfl⟩
  · cases lo with
    | none => simp [sliceBounds, HT.sIx]
    | some i =>
      simp only [sliceBounds, HT.sIx, Option.getD_none, show (1 : Int) > 0 by decide, if_true]
      by_cases h : i < 0
      · simp only [h, if_true] <;> omega
      · simp only [h, if_false] <;> omega
  · cases hi with
    | none => simp [sliceBounds, HT.sIx]
    | some i =>
      simp only [sliceBounds, HT.sIx, Option.getD_none, show (1 : Int) > 0 by decide, if_true]
      by_cases h : i < 0
      · simp only [h, if_true] <;> omega
      · simp only [h, if_false] <;> omega
theorem slicePick_cut (its : List Value) (lo hi : Option Int) : slicePick its.toArray lo hi none = ((its.drop (HT.sIx its.length 0 lo)).take (HT.sIx its.length its.length hi - HT.sIx its.length 0 lo)).toArray := by
  obtain ⟨h1, h2, h3⟩ := slice_bounds lo hi its.toArray.size
  unfold slicePick
  rw [h1, h2, h3]
  simp only [sliceRange_one, pick_run, List.size_toArray] <;> rfl
def rSlL (K : PySem.W.Frag) : V → Option Int → Option Int → Hp → VK → Prop := fun x lo hi H Q => ∃ a xs, x = .ref a ∧ SqL K H a xs ∧ ∀ p, H p = none → Q (.ref p) (upd H p (.lst (cutV xs lo hi)))
theorem sl_list : SlR X (rSlL X.K) := by
  intro pins s σ H x v vl vu lo hi sl Q I rx hs pl pu h
  obtain ⟨a, xs, rfl, hx, q⟩ := h
  cases rx
  obtain ⟨its, r, ht, hz⟩ := I.list hx
  have hlen := r.length
  refine ⟨"list", _, slot_list_getitem.lookup, ht.isList.typeIs, ?_⟩
  refine wpAny_getItem_list_slice ht.isList hs pl pu .none (by simp) ?_ (by rw [List.size_toArray] <;> omega)
  rw [slicePick_cut, ← hlen]
  refine ⟨.ref s.heap.objs.size, _, I.laid (t' := s.toks) (o := .lst (cutV xs lo hi)) (fun b ob q => Heap.get?_push_of_some _ q) (Nat.le_refl _) ?_, rfl, q _ (I.hok.fresh (Nat.le_refl _))⟩
  exact ⟨Nat.le_trans (cutV_length xs lo hi) hz, _, 0, (r.drop (HT.sIx xs.length 0 lo)).take (HT.sIx xs.length xs.length hi - HT.sIx xs.length 0 lo), Heap.get?_push_size _ rfl⟩
theorem call_len_seq : CallR X (.builtin "len") (fun xs H Q => ∃ p ys, xs = [.ref p] ∧ (SqL X.K H p ys ∨ SqT X.K H p ys) ∧ Q (.int ys.length) H) := by
  intro pins s σ H xs us Q I r h
  obtain ⟨p, ys, rfl, hq, q⟩ := h
  obtain ⟨u, rfl, rx⟩ := vals1 r
  cases rx
  have hn := line63
  rcases hq with hq | hq
  · obtain ⟨its, r', pl, hz⟩ := I.list hq
    have hlen := r'.length
    exact Calls.call_len_list pl.isList (by simp only [List.size_toArray] <;> omega) ⟨.int ys.length, H, I.tok _, ⟨s.toks + 1, by rw [List.size_toArray, hlen]⟩, q⟩
  · obtain ⟨its, r', pl, hz⟩ := I.tuple hq
    have hlen := r'.length
    exact len_tuple pl (by simp only [List.size_toArray] <;> omega) ⟨.int ys.length, H, I.tok _, ⟨s.toks + 1, by rw [List.size_toArray, hlen]⟩, q⟩
def tyV (K : PySem.W.Frag) (T : String) (x : V) (H : Hp) : Prop := match x with
  | .str _ => T = "str"
  | .int _ => T = "int"
  | .ref p => (T = "list" ∧ ∃ xs, SqL K H p xs) ∨ (T = "tuple" ∧ ∃ o, K.lookup p = some o ∧ o.cls = .type "tuple" ∧ o.dict = none) ∨
      (T = "dict" ∧ ((∃ kvs, H p = some (.dK kvs)) ∨ ∃ kvs, H p = some (.dT kvs))) ∨ (T = "set" ∧ ∃ S n, H p = some (.set S n))
  | _ => False
theorem tyV_is {pins : List (Addr × Obj)} {σ : St} {H : Hp} {s : Shared} {T : String} {x : V} {v : Value} (I : Inv X pins σ H s) (r : RelV x v) (ty : tyV X.K T x H) :
    s.TypeIs v T ∧ ∀ a, v = .ref a → ∃ ob, s.heap.get? a = some ob ∧ ob.dict = none := by
  cases x with
  | str z =>
    obtain ⟨t, rfl⟩ := r
    cases (show T = "str" from ty)
    exact ⟨typeIs_str s z t, fun _ e => nomatch e⟩
  | int i =>
    obtain ⟨t, rfl⟩ := r
    cases (show T = "int" from ty)
    exact ⟨typeIs_int s i t, fun _ e => nomatch e⟩
  | ref p =>
    cases r
    rcases ty with ⟨rfl, xs, hq⟩ | ⟨rfl, o, hk, hc, hd⟩ | ⟨rfl, hk⟩ | ⟨rfl, S, n, hk⟩
    · obtain ⟨its, _, pl, _⟩ := I.list hq
      refine ⟨pl.isList.typeIs, fun a e => ?_⟩
      cases e
      obtain ⟨o, n, e, c, hd, _⟩ := pl
      exact ⟨o, e, hd⟩
    · refine ⟨⟨o, I.kIn p o hk, hc⟩, fun a e => ?_⟩
      cases e
      exact ⟨o, I.kIn _ o hk, hd⟩
    · have z : ∃ o, s.heap.get? p = some o ∧ o.ExactDict := by
        rcases hk with ⟨kvs, hk⟩ | ⟨kvs, hk⟩
        · obtain ⟨_, _, _, _, o, _, _, e, ex, _⟩ := I.hok p _ hk
          exact ⟨o, e, ex⟩
        · obtain ⟨_, _, _, _, o, _, _, e, ex, _⟩ := I.hok p _ hk
          exact ⟨o, e, ex⟩
      obtain ⟨o, e, ex⟩ := z
      refine ⟨⟨o, e, ex.1⟩, fun a e2 => ?_⟩
      cases e2
      exact ⟨o, e, ex.2.1⟩
    · obtain ⟨o, _, _, _, e, ex, _⟩ := I.hok p _ hk
      refine ⟨⟨o, e, ex.1⟩, fun a e2 => ?_⟩
      cases e2
      exact ⟨o, e, ex.2.1⟩
  | _ => exact False.elim ty
def tBM (K : PySem.W.Frag) (T : String) (r : V → List V → Hp → VK → Prop) (to : TE) (t : TA) : TE := fun σ H Q => to σ H fun x H1 => tyV K T x H1 ∧ t σ H1 fun xs H2 => r x xs H2 Q
variable {o e : Expr} {es : List Expr} {to : TE} {t : TA} {name : Str} {apos cpos : Pos} {T id : String} {r : V → List V → Hp → VK → Prop}
theorem pe_bm (pa : PlainAttrs T) (slot : Slot T name id) (hty : typeOf (.builtin id) = pure (.type "method_descriptor")) (hm : MtR X id r) (ho : PE X o to) (ha : PA X (e :: es) t)
    (hbase : attributeBase o name X.env (eval o X.env) = eval o X.env := by rfl)
    (hfew : ((backTo cpos (starEach (e :: es) X.env)).all (fun x => !x.1) && (backToKw cpos (keywordEach [] X.env)).all (fun x => x.1.isSome)
      && decide ((e :: es).length + ([] : List Keyword).length + (if ([] : List Keyword).isEmpty then 0 else 1) < 30)) = true := by rfl)
    (hline : (apos.endLine == cpos.line) = true := by rfl) (hs : starEach (e :: es) X.env = (false, eval e X.env) :: starEach es X.env := by rfl) (hplain : (backTo cpos (starEach es X.env)).any (·.1) = false := by rfl) :
    PE X (.Call (.Attribute o name apos) (e :: es) [] cpos) (tBM X.K T r to t) := by
  intro pins s σ H Q I h
  refine wpAny_Call_method_late hbase hfew hline rfl (thn (ho pins s σ H _ I h) fun v s1 ⟨x, H1, I1, r1, ty, q1⟩ => ?_)
  obtain ⟨h1, h2⟩ := tyV_is I1 r1 ty
  refine ⟨T, id, pa, slot, hty, h1, h2, ?_⟩
  have hA := ha cpos pins s1 σ H1 _ I1 q1
  rw [hs] at hA ⊢
  refine Calls.callWith_builtin (by show (false || (backTo cpos (starEach es X.env)).any (·.1)) = false; rw [hplain] <;> rfl) (Calls.evalArgs_plain ?_)
  exact thn hA fun us s2 ⟨vs, H2, I2, r2, q2⟩ => hm pins s2 σ H2 x vs v us Q I2 r1 r2 q2
end
end L2
namespace L2
open PySem PySem.Spec PyProof.Rows
def MtM (X : Cx) (id : String) (r : V → List V → Hp → VK → Prop) : Prop :=
  ∀ (pins : List (Addr × Obj)) (s : Shared) (σ : St) (H : Hp) (x : V) (xs : List V) (v : Value) (us : List Value) (Q : VK), Inv X pins σ H s → RelV x v → Vals xs us → r x xs H Q →
    wpAny (model X.prog X.w) X.A (call (.builtin id) (v :: us)) (EP X pins σ Q) X.xe s
theorem Vals.one : ∀ {x : V} {us : List Value}, Vals [x] us → ∃ u, us = [u] ∧ RelV x u
  | _, _, .cons r .nil => ⟨_, rfl, r⟩
theorem Vals.rep {xs : List V} {us : List Value} (h : Vals xs us) : ∀ k : Nat, Vals (List.replicate k xs).flatten (List.replicate k us).flatten
  | 0 => .nil
  | k + 1 => by
    rw [List.replicate_succ, List.replicate_succ, List.flatten_cons, List.flatten_cons]
    exact Vals.append h (Vals.rep h k)
theorem foldl_rep (its : List Value) : ∀ (k : Nat) (acc : List Value),
    List.foldl (fun x1 x2 => x1 ++ x2) acc.toArray (List.replicate k its.toArray) = (acc ++ (List.replicate k its).flatten).toArray
  | 0, acc => by simp
  | k + 1, acc => by
    have e : acc.toArray ++ its.toArray = (acc ++ its).toArray := by simp
    have e2 : (acc ++ its) ++ (List.replicate k its).flatten = acc ++ (List.replicate (k + 1) its).flatten := by
      rw [List.replicate_succ, List.flatten_cons, List.append_assoc]
    rw [← e2, ← foldl_rep its k (acc ++ its), ← e, List.replicate_succ, List.foldl_cons]
section
variable {X : Cx} {pins : List (Addr × Obj)} {σ : St} {H : Hp} {s : Shared} {l b : Addr} {xs ys zs : List V}
theorem Inv.lset {its its' : List Value} {n : Nat} {f : Array Value → Array Value} {t' : Nat} (I : Inv X pins σ H s) (hH : H l = some (.lst xs))
    (e : s.heap.get? l = some { cls := .type "list", data := .seq its.toArray n }) (hf : f its.toArray = its'.toArray) (hv : Vals ys its') (hz : ys.length ≤ sizeLine) :
    Inv X pins σ (upd H l (.lst ys)) { s with heap := s.heap.update l (Obj.mapSeq f), toks := t' } := by
  have q := PySem.IsL.update e f
  rw [hf] at q
  refine I.write (x := l) (e := l) (by rw [hH]; exact trivial) (.inl rfl) (fun b' u hb hu => (Heap.get?_update_other s.heap (Obj.mapSeq f) (Ne.symm hb)).trans hu) ⟨_, q⟩ ?_
  exact ⟨hz, its', _, hv, q⟩
theorem Inv.lnew {its : List Value} {t' : Nat} (I : Inv X pins σ H s) (hv : Vals ys its) (hz : ys.length ≤ sizeLine) :
    Inv X pins σ (upd H s.heap.objs.size (.lst ys)) { s with heap := s.heap.push { cls := .type "list", data := .seq its.toArray }, toks := t' } :=
  I.laid (fun _ _ q => Heap.get?_push_of_some _ q) (Nat.le_refl _) ⟨hz, its, 0, hv, Heap.get?_push_size _ rfl⟩
theorem Inv.fresh (I : Inv X pins σ H s) : H s.heap.objs.size = none := I.hok.fresh (Nat.le_refl _)
theorem Inv.lstM (I : Inv X pins σ H s) (hH : H l = some (.lst xs)) : xs.length ≤ sizeLine ∧ ∃ (its : List Value) (n : Nat), Vals xs its ∧ xs.length = its.length ∧ s.heap.get? l = some { cls := .type "list", data := .seq its.toArray n } := by
  obtain ⟨z, its, n, r, e⟩ := I.hok l _ hH
  exact ⟨z, its, n, r, r.length, e⟩
theorem notLongL {n : Nat} (h : n ≤ sizeLine) : Builtin.List.listTooLong n = false := by
  unfold Builtin.List.listTooLong
  exact decide_eq_false (by omega)
end
section
variable {X : Cx}
def rAppend : V → List V → Hp → VK → Prop := fun x vs H Q => ∃ l xs y, x = .ref l ∧ vs = [y] ∧ H l = some (.lst xs) ∧ xs.length < sizeLine ∧ Q .non (upd H l (.lst (xs ++ [y])))
theorem mt_append : MtM X "list.append" rAppend := by
  intro pins s σ H x vs v us Q I rx rv h
  obtain ⟨l, xs, y, rfl, rfl, hH, hz, q⟩ := h
  cases rx
  obtain ⟨u, rfl, ru⟩ := rv.one
  obtain ⟨z, its, n, r, hl, e⟩ := I.lstM hH
  refine call_meets F.slot_list_append ⟨_, e, rfl⟩ F.entry_list_append (F.args_list_append_2 _ _) (PySem.list_append l its.toArray n u (by rw [List.size_toArray]; omega)) ⟨e, ?_⟩
  refine ⟨.non, _, I.lset (its' := its ++ [u]) hH e (by simp) (r.append (.cons ru .nil)) ?_, rfl, q⟩
  rw [List.length_append, List.length_singleton]
  omega
def rExtend : V → List V → Hp → VK → Prop := fun x vs H Q => ∃ l b xs zs, x = .ref l ∧ vs = [.ref b] ∧ H l = some (.lst xs) ∧ H b = some (.lst zs) ∧ xs.length + zs.length ≤ sizeLine ∧ Q .non (upd H l (.lst (xs ++ zs)))
theorem mt_extend : MtM X "list.extend" rExtend := by
  intro pins s σ H x vs v us Q I rx rv h
  obtain ⟨l, b, xs, zs, rfl, rfl, hH, hB, hz, q⟩ := h
  cases rx
  obtain ⟨u, rfl, ru⟩ := rv.one
  cases ru
  obtain ⟨z, its, n, r, hl, e⟩ := I.lstM hH
  obtain ⟨z2, its2, n2, r2, hl2, e2⟩ := I.lstM hB
  have hsz : its.toArray.size + its2.toArray.size ≤ sizeLine := by rw [List.size_toArray, List.size_toArray]; omega
  have hlong : ¬ (!its.toArray.isEmpty && Builtin.List.listTooLong (its.toArray.size + its2.toArray.size)) = true := by
    rw [notLongL hsz, Bool.and_false]
    exact Bool.false_ne_true
  refine call_meets F.slot_list_extend ⟨_, e, rfl⟩ F.entry_list_extend (F.args_list_extend_2 _ _)
    (AutoSeq1.list_extend_list_list_0 l its.toArray n b its2.toArray n2 hlong (by rw [List.size_toArray]; omega) (by omega)) ⟨e, e2, ?_⟩
  refine ⟨.non, _, I.lset (its' := its ++ its2) hH e (by simp) (r.append r2) ?_, rfl, q⟩
  rw [List.length_append]
  omega
def rCat : R2 := fun x y H Q => ∃ l b xs zs, x = .ref l ∧ y = .ref b ∧ H l = some (.lst xs) ∧ H b = some (.lst zs) ∧ xs.length + zs.length ≤ sizeLine ∧ ∀ p, H p = none → Q (.ref p) (upd H p (.lst (xs ++ zs)))
theorem op_cat : OpR X (binaryOp .Add) rCat := by
  intro pins s σ H x y v u Q I rx ry h
  obtain ⟨l, b, xs, zs, rfl, rfl, hH, hB, hz, q⟩ := h
  cases rx
  cases ry
  obtain ⟨z, its, n, r, hl, e⟩ := I.lstM hH
  obtain ⟨z2, its2, n2, r2, hl2, e2⟩ := I.lstM hB
  refine PySem.P.add_list e e2 ?_ (by rw [List.size_toArray, List.size_toArray]; omega)
  have ea : its.toArray ++ its2.toArray = (its ++ its2).toArray := by simp
  rw [ea]
  exact ⟨.ref _, _, I.lnew (t' := s.toks) (r.append r2) (by rw [List.length_append]; omega), rfl, q _ I.fresh⟩
def rRep : R2 := fun x y H Q => ∃ l k xs, x = .ref l ∧ y = .int k ∧ H l = some (.lst xs) ∧ -(2 ^ 63) ≤ k ∧ k < 2 ^ 63 ∧ xs.length * k.toNat ≤ sizeLine ∧
  ∀ p, H p = none → Q (.ref p) (upd H p (.lst (List.replicate k.toNat xs).flatten))
theorem len_rep {α : Type} (xs : List α) (k : Nat) : (List.replicate k xs).flatten.length = k * xs.length := by
  induction k with
  | zero => simp
  | succ k ih => rw [List.replicate_succ, List.flatten_cons, List.length_append, ih, Nat.succ_mul, Nat.add_comm]
theorem op_rep : OpR X (binaryOp .Mult) rRep := by
  intro pins s σ H x y v u Q I rx ry h
  obtain ⟨l, k, xs, rfl, rfl, hH, h1, h2, hz, q⟩ := h
  cases rx
  obtain ⟨t, rfl⟩ := ry
  obtain ⟨z, its, n, r, hl, e⟩ := I.lstM hH
  have hlen : its.toArray.size * k.toNat ≤ sizeLine := by rw [List.size_toArray, ← hl]; exact hz
  have hcap : ¬ its.toArray.size * k.toNat > (2 ^ 63 - 1) / 8 := by
    have : (sizeLine : Nat) ≤ (2 ^ 63 - 1) / 8 := by decide
    omega
  have hfit : ¬ (!Builtin.List.listFitsIndex k) = true := by
    rw [fitsIndex_both h1 h2]
    exact Bool.false_ne_true
  have hlong : ¬ Builtin.List.listTooLong (its.toArray.size * k.toNat) = true := by
    rw [notLongL hlen]
    exact Bool.false_ne_true
  have hnew : List.foldl (fun x1 x2 => x1 ++ x2) #[] (List.replicate (if its.toArray.isEmpty = true then 0 else k.toNat) its.toArray) = (List.replicate k.toNat its).flatten.toArray := by
    have f0 : ∀ m : Nat, List.foldl (fun x1 x2 => x1 ++ x2) #[] (List.replicate m its.toArray) = (List.replicate m its).flatten.toArray := fun m => by
      have := foldl_rep its m []
      rw [List.nil_append] at this
      exact this
    rw [f0]
    cases its with
    | nil => simp
    | cons a r' => rw [if_neg (by simp)]
  refine wpAny_binaryOp_repeat_ref (T := "list") (U := "int") (by decide) ⟨_, e, rfl⟩ (fun s' => typeIs_int s' k t) noFill_list_mul F.fills_int_mul F.slot_int_rmul repeat_list F.slot_int_index.lookup
    (call_meets F.slot_int_rmul (typeIs_int s k t) F.entry_int_rmul (F.args_int_rmul_2 _ _) (int___rmul___int_list k t l its.toArray n)
      ⟨e, rfl, ⟨_, e, rfl⟩, call_meets F.slot_list_mul ⟨_, e, rfl⟩ F.entry_list_mul (F.args_list_mul_2 _ _) (AutoListH.list___mul___list_int_3 l its.toArray n k t hfit hcap hlong) ⟨e, ?_⟩⟩)
  rw [hnew]
  exact ⟨.ref _, _, I.lnew (t' := s.toks) (r.rep k.toNat) (by rw [len_rep, Nat.mul_comm]; exact hz), rfl, q _ I.fresh⟩
end
section
variable {prog : Program} {w : World} {A : Around} {E : Value → Shared → Prop} {s : Shared}
set_option maxRecDepth 100000 in
end
section
variable {X : Cx}
end
end L2
namespace L2
open PySem PySem.Spec PyProof.Rows
theorem Vals.ints : ∀ {ns : List Int} {us : List Value}, Vals (ns.map V.int) us → IntsAre us ns
  | [], us, h => by
    rw [List.map_nil] at h
    cases h
    exact IntsAre.nil
  | n :: ns, us, h => by
    rw [List.map_cons] at h
    cases h with
    | cons r t =>
      obtain ⟨k, rfl⟩ := r
      exact IntsAre.cons n k (Vals.ints t)
theorem Vals.ref1 {a : Addr} {us : List Value} (r : Vals [V.ref a] us) : us = [Value.ref a] := by
  cases r with
  | cons r t =>
    cases t
    cases r
    rfl
section
variable {prog : Program} {w : World} {A : Around} {E : Value → Shared → Prop} {s : Shared} {l : Addr} {its : List Value} {ns : List Int} {Q : Value → Shared → Prop}
theorem sum_raw (hh : A.handled = none) (hl : s.heap.IsList l its.toArray) (hi : IntsAre its ns)
    (h : ∀ h' tk t', (∀ b o, s.heap.get? b = some o → h'.get? b = some o) → Q (.int ns.sum t') { s with heap := h', toks := tk }) : wpAny (model prog w) A (call (.builtin "sum") [.ref l]) Q E s := by
  obtain ⟨xs, e⟩ := hi.allInts.items
  have hn : numsOf (intItems xs).toList = ns := by rw [← e]; exact hi.numsOf
  rw [nums_intItems] at hn
  rw [e] at hl
  refine PySem.sum_intListG hh hl fun h' tk t' hk => ?_
  have := h h' tk t' hk
  rw [preSum_eq, List.take_of_length_le (by simp), hn]; exact this
end
section
variable {X : Cx}
def rSum (K : PySem.W.Frag) : List V → Hp → VK → Prop := fun vs H Q => ∃ (a : Addr) (ns : List Int), vs = [V.ref a] ∧ SqL K H a (ns.map V.int) ∧ Q (.int ns.sum) H
theorem cr_sum (hc : X.calm = true) : CallR X (.builtin "sum") (rSum X.K) := by
  intro pins s σ H vs us Q I r h
  obtain ⟨a, ns, rfl, hs, q⟩ := h
  obtain ⟨its, rv, hl, _⟩ := I.list hs
  rw [Vals.ref1 r]
  exact sum_raw (I.ok.hd hc) hl.isList rv.ints fun h' tk t' hk => ⟨.int _, H, I.kept hk, ⟨_, rfl⟩, q⟩
end
section
variable {X : Cx}
end
section
variable {X : Cx}
end
section
variable {X : Cx}
end
mutual
inductive Dp (K : PySem.W.Frag) (H : Hp) : V → PyData → Prop
  | non : Dp K H .non .none
  | bl (b : Bool) : Dp K H (.bl b) (.bool b)
  | int (i : Int) : Dp K H (.int i) (.int i)
  | str (x : Str) : Dp K H (.str x) (.str x)
  | lst {a : Addr} {xs : List V} {ds : List PyData} : SqL K H a xs → DpAll K H xs ds → Dp K H (.ref a) (.list ds)
  | tup {a : Addr} {xs : List V} {ds : List PyData} : SqT K H a xs → DpAll K H xs ds → Dp K H (.ref a) (.tuple ds)
inductive DpAll (K : PySem.W.Frag) (H : Hp) : List V → List PyData → Prop
  | nil : DpAll K H [] []
  | cons {v : V} {vs : List V} {d : PyData} {ds : List PyData} : Dp K H v d → DpAll K H vs ds → DpAll K H (v :: vs) (d :: ds)
end
section
variable {X : Cx} {pins : List (Addr × Obj)} {σ : St} {H : Hp} {s : Shared}
mutual
theorem Dp.reads (I : Inv X pins σ H s) : ∀ (d : PyData) (v : V) (u : Value), Dp X.K H v d → RelV v u → ∃ as, Reads s.heap u d as
  | .none, _, _, h, r => by
    cases h
    cases r
    exact ⟨_, Reads.none⟩
  | .bool b, _, _, h, r => by
    cases h
    cases r
    exact ⟨_, Reads.bool b⟩
  | .int i, _, _, h, r => by
    cases h
    obtain ⟨t, rfl⟩ := r
    exact ⟨_, Reads.int i t⟩
  | .str x, _, _, h, r => by
    cases h
    obtain ⟨t, rfl⟩ := r
    exact ⟨_, Reads.str x t⟩
  | .list ds, _, _, h, r => by
    cases h with
    | lst hs ha =>
      cases r
      obtain ⟨its, rv, ⟨o, n, ho, hc, _, hd⟩, _⟩ := I.list hs
      obtain ⟨as, hr⟩ := Dp.readsAll I ds _ its ha rv
      exact ⟨_, Reads.list ho hc hd hr⟩
  | .tuple ds, _, _, h, r => by
    cases h with
    | tup hs ha =>
      cases r
      obtain ⟨its, rv, ⟨o, ho, hc, n, hd⟩, _⟩ := I.tuple hs
      obtain ⟨as, hr⟩ := Dp.readsAll I ds _ its ha rv
      exact ⟨_, Reads.tuple ho hc hd hr⟩
  | .dict _, _, _, h, _ => by cases h
theorem Dp.readsAll (I : Inv X pins σ H s) : ∀ (ds : List PyData) (vs : List V) (us : List Value), DpAll X.K H vs ds → Vals vs us → ∃ as, ReadsAll s.heap us ds as
  | [], _, _, h, r => by
    cases h
    cases r
    exact ⟨_, ReadsAll.nil⟩
  | d :: ds, _, _, h, r => by
    cases h with
    | cons h1 h2 =>
      cases r with
      | cons r1 r2 =>
        obtain ⟨as, q1⟩ := Dp.reads I d _ _ h1 r1
        obtain ⟨bs, q2⟩ := Dp.readsAll I ds _ _ h2 r2
        exact ⟨_, ReadsAll.cons q1 q2⟩
end
end
section
variable {X : Cx}
def rNeD (K : PySem.W.Frag) : R2 := fun x y H Q => ∃ d e, Dp K H x d ∧ Dp K H y e ∧ SeqAt.shaped d = true ∧ SeqAt.shaped e = true ∧ Q (.bl (!PyData.eqv d e)) H
theorem op_neD (hu : X.A.units + 64 < cLine) : OpR X (compareOp .NotEq) (rNeD X.K) := by
  intro pins s σ H x y v u Q I rx ry h
  obtain ⟨d, e, hd, he, sd, se, q⟩ := h
  obtain ⟨as, r1⟩ := Dp.reads I d x v hd rx
  obtain ⟨bs, r2⟩ := Dp.reads I e y u he ry
  exact SeqAt.compareNe_shaped r1 r2 sd se hu ⟨.bl _, H, I, rfl, q⟩
end
end L2
namespace L2
open PySem PySem.Spec PyProof.Rows
abbrev CellAt (h : Heap) (c : Addr) (v : Option Value) : Prop := h.IsCell c v
def relS (scope sc : Scope) : Scope :=
  { scope with names := scope.names.map fun (n, k) => if (k == .free && sc.kind == .function && sc.names.lookup n == some .cell) then (n, .cell) else (n, k) }
def cloFrom (cells : List (Str × Addr)) : List (Str × NameKind) → List (Str × Addr) → List (Str × Addr)
  | [], acc => acc
  | (n, k) :: r, acc => if k == .free then cloFrom cells r ((n, (cells.lookup n).getD 0) :: acc) else cloFrom cells r acc
theorem closure_loop (env : Env) (f : Str × NameKind → List (Str × Addr) → Sem (ForInStep (List (Str × Addr))))
    (hf : ∀ n k c, f (n, k) c = if k == .free then (do let a ← cellOf env n; pure (.yield ((n, a) :: c))) else pure (.yield c)) :
    ∀ (names : List (Str × NameKind)) (acc : List (Str × Addr)), (∀ y ∈ names, y.2 = .free → ∃ c, env.cells.lookup y.1 = some c) → forIn names acc f = pure (cloFrom env.cells names acc)
  | [], acc, _ => by rw [List.forIn_nil]; rfl
  | (n, k) :: r, acc, h => by
    rw [List.forIn_cons, hf]
    have ih := fun acc => closure_loop env f hf r acc fun y hy => h y (List.mem_cons_of_mem _ hy)
    unfold cloFrom
    by_cases hk : (k == NameKind.free) = true
    · rw [if_pos hk, if_pos hk]
      obtain ⟨c, hc⟩ := h (n, k) List.mem_cons_self (by simpa using hk)
      have e : cellOf env n = pure c := by unfold cellOf; rw [hc]
      rw [e]
      have e2 : (env.cells.lookup n).getD 0 = c := by rw [hc]; rfl
      rw [e2]
      exact ih _
    · rw [if_neg hk, if_neg hk]
      exact ih _
theorem closure_ok {scope : Scope} {env : Env} (h : ∀ y ∈ scope.names, y.2 = .free → ∃ c, env.cells.lookup y.1 = some c) : closureFor scope env = pure (cloFrom env.cells scope.names []) := by
  simp only [closureFor]
  rw [closure_loop env _ (fun n k c => rfl) scope.names [] h]
  rfl
theorem mem_lookup {α : Type} : ∀ {l : List (Str × α)} {n : Str} {c : α}, (n, c) ∈ l → ∃ c', l.lookup n = some c'
  | (k, v) :: r, n, c, h => by
    rw [List.lookup_cons]
    cases hb : n == k with
    | true => exact ⟨_, rfl⟩
    | false =>
      rcases List.mem_cons.mp h with e | h
      · cases e; simp at hb
      · exact mem_lookup h
theorem cloFrom_mem {cells : List (Str × Addr)} : ∀ {names : List (Str × NameKind)} {acc : List (Str × Addr)} {n : Str} {c : Addr}, (n, c) ∈ cloFrom cells names acc → (n, c) ∈ acc ∨ ((n, .free) ∈ names ∧ c = (cells.lookup n).getD 0)
  | [], _, _, _, h => .inl h
  | (m, k) :: r, acc, n, c, h => by
    unfold cloFrom at h
    split at h
    · rename_i hk
      have hk : k = .free := by simpa using hk
      rcases cloFrom_mem h with h | ⟨h1, h2⟩
      · rcases List.mem_cons.mp h with e | h
        · cases e; exact .inr ⟨hk ▸ List.mem_cons_self, rfl⟩
        · exact .inl h
      · exact .inr ⟨List.mem_cons_of_mem _ h1, h2⟩
    · rcases cloFrom_mem h with h | ⟨h1, h2⟩
      · exact .inl h
      · exact .inr ⟨List.mem_cons_of_mem _ h1, h2⟩
theorem cloFrom_acc {cells : List (Str × Addr)} : ∀ {names : List (Str × NameKind)} {acc : List (Str × Addr)} {p : Str × Addr}, p ∈ acc → p ∈ cloFrom cells names acc
  | [], _, _, h => h
  | (m, k) :: r, acc, p, h => by
    unfold cloFrom
    split
    · exact cloFrom_acc (List.mem_cons_of_mem _ h)
    · exact cloFrom_acc h
theorem cloFrom_has {cells : List (Str × Addr)} : ∀ {names : List (Str × NameKind)} {acc : List (Str × Addr)} {n : Str}, (n, .free) ∈ names → (n, (cells.lookup n).getD 0) ∈ cloFrom cells names acc
  | (m, k) :: r, acc, n, h => by
    unfold cloFrom
    rcases List.mem_cons.mp h with e | h
    · cases e
      exact cloFrom_acc List.mem_cons_self
    · split
      · exact cloFrom_has h
      · exact cloFrom_has h
theorem cells_mem : ∀ {names : List (Str × NameKind)} {h : Heap} {acc : List (Str × Addr)} {x : Str} {c : Addr}, (x, c) ∈ cellsFrom h.objs.size names acc →
    (x, c) ∈ acc ∨ ((x, .cell) ∈ names ∧ h.objs.size ≤ c ∧ CellAt (pushCells h names) c none)
  | [], _, _, _, _, h => .inl h
  | (n, k) :: r, h, acc, x, c, hm => by
    unfold cellsFrom at hm
    unfold pushCells
    split at hm
    · rename_i hk
      rw [if_pos hk]
      have hk : k = .cell := by simpa using hk
      rw [← Heap.size_push h { cls := .type "cell", data := .cell none }] at hm
      rcases cells_mem hm with hm | ⟨h1, h2, h3⟩
      · rcases List.mem_cons.mp hm with e | hm
        · cases e
          exact .inr ⟨hk ▸ List.mem_cons_self, Nat.le_refl _, _, pushCells_keeps r _ _ _ (Heap.get?_push_size _ rfl), rfl⟩
        · exact .inl hm
      · rw [Heap.size_push] at h2
        exact .inr ⟨List.mem_cons_of_mem _ h1, Nat.le_of_succ_le h2, h3⟩
    · rename_i hk
      rw [if_neg hk]
      rcases cells_mem hm with hm | ⟨h1, h2, h3⟩
      · exact .inl hm
      · exact .inr ⟨List.mem_cons_of_mem _ h1, h2, h3⟩
theorem cells_acc : ∀ {names : List (Str × NameKind)} {n : Nat} {acc : List (Str × Addr)} {p : Str × Addr}, p ∈ acc → p ∈ cellsFrom n names acc
  | [], _, _, _, h => h
  | (m, k) :: r, n, acc, p, h => by
    unfold cellsFrom
    split
    · exact cells_acc (List.mem_cons_of_mem _ h)
    · exact cells_acc h
theorem cells_has : ∀ {names : List (Str × NameKind)} {n : Nat} {acc : List (Str × Addr)} {x : Str}, (x, .cell) ∈ names → ∃ c, (x, c) ∈ cellsFrom n names acc
  | (m, k) :: r, n, acc, x, h => by
    unfold cellsFrom
    rcases List.mem_cons.mp h with e | h
    · cases e
      exact ⟨n, cells_acc List.mem_cons_self⟩
    · split
      · exact cells_has h
      · exact cells_has h
theorem cells_inj : ∀ {names : List (Str × NameKind)} {h : Heap} {acc : List (Str × Addr)} {x y : Str} {c : Addr}, (∀ p ∈ acc, p.2 < h.objs.size) → (∀ x y c, (x, c) ∈ acc → (y, c) ∈ acc → x = y) →
    (x, c) ∈ cellsFrom h.objs.size names acc → (y, c) ∈ cellsFrom h.objs.size names acc → x = y
  | [], _, _, _, _, _, _, hi, h1, h2 => hi _ _ _ h1 h2
  | (n, k) :: r, h, acc, x, y, c, hl, hi, h1, h2 => by
    unfold cellsFrom at h1 h2
    split at h1
    · rename_i hk
      rw [if_pos hk] at h2
      rw [← Heap.size_push h { cls := .type "cell", data := .cell none }] at h1 h2
      refine cells_inj (h := h.push _) (fun p hp => ?_) (fun x y c a b => ?_) h1 h2
      · rw [Heap.size_push]
        rcases List.mem_cons.mp hp with rfl | hp
        · exact Nat.lt_succ_self _
        · exact Nat.lt_succ_of_lt (hl p hp)
      · rcases List.mem_cons.mp a with e | a <;> rcases List.mem_cons.mp b with e' | b
        · cases e; cases e'; rfl
        · cases e; exact absurd (hl _ b) (Nat.lt_irrefl _)
        · cases e'; exact absurd (hl _ a) (Nat.lt_irrefl _)
        · exact hi _ _ _ a b
    · rename_i hk
      rw [if_neg hk] at h2
      exact cells_inj hl hi h1 h2
theorem newEnv_comp {M : Model} {A : Around} {E : Value → Shared → Prop} {s : Shared} {scope : Scope} {globals : Addr} {closure : List (Str × Addr)} {qual : Str} {func : Option Addr} {code : Value} {around : Env} {builtins : Addr} {Q : Env → Shared → Prop}
    (h : Q (newEnv scope s.heap.objs.size globals (cellsFrom (s.heap.objs.size + 1) scope.names closure) qual func code (some around) builtins)
      { s with heap := pushCells (s.heap.push { cls := .type "dict", data := .dict #[] }) scope.names }) :
    wpAny M A (newFunctionEnv scope globals closure [] qual func code (some around) builtins) Q E s := by
  simp only [newFunctionEnv, Option.isSome_some, if_true]
  refine wpAny_bind (wpAny_alloc ?_)
  refine wpAny_bind (wpAny_layCells _ (fun n k c => rfl) scope.names closure _ _ ?_)
  rw [show ({ s with heap := s.heap.push { cls := .type "dict", data := .dict #[] } } : Shared).heap.objs.size = s.heap.objs.size + 1 from Heap.size_push ..]
  rw [List.forIn_nil]
  exact wpAny_bind (wpAny_pure (wpAny_pure h))
theorem lookup_relS {sc : Scope} : ∀ {names : List (Str × NameKind)} {x : Str} {k : NameKind},
    (names.map fun (n, k) => if (k == NameKind.free && sc.kind == .function && sc.names.lookup n == some .cell) then (n, NameKind.cell) else (n, k)).lookup x = some k →
    ∃ k', names.lookup x = some k' ∧ (k = k' ∨ (k' = .free ∧ k = .cell))
  | [], _, _, h => by simp at h
  | (n, k₀) :: r, x, k, h => by
    have ih := @lookup_relS sc r x k
    have h' : List.lookup x ((if (k₀ == NameKind.free && sc.kind == .function && sc.names.lookup n == some .cell) = true then (n, NameKind.cell) else (n, k₀)) :: (r.map _)) = some k := h
    cases hx : x == n with
    | true =>
      simp only [List.lookup_cons, hx]
      by_cases hc : (k₀ == NameKind.free && sc.kind == .function && sc.names.lookup n == some .cell) = true
      · rw [if_pos hc] at h'
        simp only [List.lookup_cons, hx] at h'
        cases h'
        simp only [Bool.and_eq_true, beq_iff_eq] at hc
        exact ⟨k₀, rfl, .inr ⟨hc.1.1, rfl⟩⟩
      · rw [if_neg hc] at h'
        simp only [List.lookup_cons, hx] at h'
        cases h'
        exact ⟨_, rfl, .inl rfl⟩
    | false =>
      simp only [List.lookup_cons, hx]
      by_cases hc : (k₀ == NameKind.free && sc.kind == .function && sc.names.lookup n == some .cell) = true
      · rw [if_pos hc] at h'
        simp only [List.lookup_cons, hx] at h'
        exact ih h'
      · rw [if_neg hc] at h'
        simp only [List.lookup_cons, hx] at h'
        exact ih h'
structure BlkOk (N : List Str) (sc scope : Scope) (own : List (Str × Nat)) : Prop where
  kind : scope.kind = .function
  uniq : ∀ y ∈ scope.names, scope.names.lookup y.1 = some y.2
  ix : ∀ p ∈ own, N[p.2]? = some p.1
  free : ∀ y ∈ scope.names, y.2 = .free → sc.names.lookup y.1 = some .cell ∨ sc.names.lookup y.1 = some .free
  own : ∀ y ∈ scope.names, y.2 = .local ∨ y.2 = .cell → y.1 ∈ own.map (·.1) ∨ y.1 ∉ N
def wipe (σ : St) : List Nat → St
  | [] => σ
  | v :: vs => (wipe σ vs).set v none
theorem wipe_length (σ : St) : ∀ vs : List Nat, (wipe σ vs).length = σ.length
  | [] => rfl
  | v :: vs => by unfold wipe; rw [List.length_set, wipe_length σ vs]
theorem wipe_some {σ : St} {i : Nat} {x : V} : ∀ {vs : List Nat}, (wipe σ vs)[i]? = some (some x) → σ[i]? = some (some x) ∧ i ∉ vs
  | [], h => ⟨h, by simp⟩
  | v :: vs, h => by
    unfold wipe at h
    by_cases hi : v = i
    · subst hi
      by_cases hv : v < (wipe σ vs).length
      · rw [List.getElem?_set_self hv] at h; cases h
      · rw [List.getElem?_eq_none (by simpa using hv)] at h; cases h
    · rw [List.getElem?_set_ne hi] at h
      obtain ⟨h1, h2⟩ := wipe_some h
      exact ⟨h1, by simp only [List.mem_cons, not_or]; exact ⟨fun e => hi e.symm, h2⟩⟩
abbrev Cx.blk (X : Cx) (s : Shared) (H : Hp) (scope : Scope) (cenv : Env) (fp : List Addr) : Cx := { X with s_0 := s, H_0 := H, env := cenv, outer := X.stack, ex := fp, fn := fun x => scope.names.lookup x == some .cell, pn := [], xe := fun _ _ => False }
section
variable {X : Cx} {pins : List (Addr × Obj)} {σ : St} {H : Hp} {s : Shared}
theorem block_start {scope : Scope} {own : List (Str × Nat)} {fp : List Addr} (I : Inv X pins σ H s) (ok : BlkOk X.N X.env.scope scope own) (hN : X.N.Nodup) (hfp : ∀ b ∈ fp, FpOk X pins H b ∧ b < s.heap.objs.size) :
    Inv (X.blk s H scope (compEnvC scope (cellsFrom (s.heap.objs.size + 1) scope.names (cloFrom X.env.cells scope.names [])) s.heap.objs.size X.env) fp) [] (wipe σ (own.map (·.2))) H { s with heap := pushCells (s.heap.push { cls := .type "dict", data := .dict #[] }) scope.names } := by
  have hfree : ∀ y ∈ scope.names, y.2 = .free → ∃ c, X.env.cells.lookup y.1 = some c := fun y hy e => by
    rcases ok.free y hy e with k | k
    · exact I.ok.has _ (.inl k)
    · exact I.ok.has _ (.inr k)
  generalize hcenv : compEnvC scope (cellsFrom (s.heap.objs.size + 1) scope.names (cloFrom X.env.cells scope.names [])) s.heap.objs.size X.env = cenv
  have kp : ∀ b o, s.heap.get? b = some o → (pushCells (s.heap.push { cls := .type "dict", data := .dict #[] }) scope.names).get? b = some o := fun b o e => pushCells_keeps _ _ _ _ (Heap.get?_push_of_some _ e)
  have hL : cenv.locals = s.heap.objs.size := by rw [← hcenv]; rfl
  have hcl : cenv.cells = cellsFrom (s.heap.objs.size + 1) scope.names (cloFrom X.env.cells scope.names []) := by rw [← hcenv]; rfl
  have hsc : cenv.scope = relS scope X.env.scope := by rw [← hcenv]; rfl
  rw [← Heap.size_push s.heap { cls := .type "dict", data := .dict #[] }] at hcl
  have cm : ∀ {y c}, (y, c) ∈ cloFrom X.env.cells scope.names [] → X.env.cells.lookup y = some c ∧ c < s.heap.objs.size := fun {y c} hm => by
    rcases cloFrom_mem hm with hm | ⟨h1, rfl⟩
    · cases hm
    · obtain ⟨c, hc⟩ := hfree _ h1 rfl
      rw [hc]
      obtain ⟨w, z⟩ := I.cell _ _ hc
      exact ⟨rfl, z.lt⟩
  have mem : ∀ {y c}, cenv.cells.lookup y = some c → (X.env.cells.lookup y = some c ∧ c < s.heap.objs.size) ∨ (s.heap.objs.size + 1 ≤ c ∧ CellAt (pushCells (s.heap.push { cls := .type "dict", data := .dict #[] }) scope.names) c none) := fun {y c} e => by
    rw [hcl] at e
    rcases cells_mem (PySem.mem_of_lookup e) with hm | ⟨_, h2, h3⟩
    · exact .inl (cm hm)
    · rw [Heap.size_push] at h2; exact .inr ⟨h2, h3⟩
  have look : ∀ {y}, scope.names.lookup y = some .free → ∃ c, cenv.cells.lookup y = some c ∧ X.env.cells.lookup y = some c := fun {y} hl => by
    have hy : (y, NameKind.free) ∈ scope.names := PySem.mem_of_lookup hl
    obtain ⟨c', e'⟩ := mem_lookup (cells_acc (names := scope.names) (n := (s.heap.push { cls := .type "dict", data := .dict #[] }).objs.size) (cloFrom_has (cells := X.env.cells) (acc := []) hy))
    rw [← hcl] at e'
    refine ⟨c', e', ?_⟩
    rw [hcl] at e'
    rcases cells_mem (PySem.mem_of_lookup e') with hm | ⟨h1, _, _⟩
    · exact (cm hm).1
    · have := ok.uniq _ h1
      rw [hl] at this; cases this
  have okB : (X.blk s H scope cenv fp).Ok := by
    refine ⟨I.ok.mod, by show cenv.scope.kind = _; rw [hsc]; exact ok.kind, by show cenv.globals = _; rw [← hcenv]; exact I.ok.glob, by show cenv.builtins = _; rw [← hcenv]; exact I.ok.blt, by show s.heap.objs.size ≤ cenv.locals; rw [hL]; exact Nat.le_refl _,
      fun y z c e1 e2 => ?_, fun y hy => ?_, fun y c z e => ?_, I.ok.hd, I.ok.frames, .inl rfl, fun b hb => ⟨?_, fun y c e z => ?_⟩, I.bs, Nat.le_trans I.ok.bsz I.sz, fun b o e hb => ?_, fun b hb z => ?_, I.stack, I.stkFree⟩
    · have e1 : cenv.cells.lookup y = some c := e1
      have e2 : cenv.cells.lookup z = some c := e2
      rw [hcl] at e1 e2
      refine cells_inj (fun p hp => ?_) (fun y z c a b => I.ok.inj y z c (cm a).1 (cm b).1) (PySem.mem_of_lookup e1) (PySem.mem_of_lookup e2)
      rw [Heap.size_push]
      exact Nat.lt_succ_of_lt (cm (y := p.1) (c := p.2) hp).2
    · show ∃ c, cenv.cells.lookup y = some c
      have key : ∀ k, cenv.kindOf y = some k → (k = .cell ∨ k = .free) → ∃ c, cenv.cells.lookup y = some c := fun k hk hk' => by
        unfold Env.kindOf at hk
        rw [hsc] at hk
        obtain ⟨k', e, r⟩ := lookup_relS hk
        have : k' = .cell ∨ k' = .free := by
          rcases r with rfl | ⟨rfl, _⟩
          · exact hk'
          · exact .inr rfl
        rcases this with rfl | rfl
        · obtain ⟨c, hm⟩ := cells_has (n := (s.heap.push { cls := .type "dict", data := .dict #[] }).objs.size) (acc := cloFrom X.env.cells scope.names []) (PySem.mem_of_lookup e)
          obtain ⟨c', e'⟩ := mem_lookup hm
          exact ⟨c', by rw [hcl]; exact e'⟩
        · obtain ⟨c, h1, _⟩ := look e
          exact ⟨c, h1⟩
      rcases hy with hy | hy
      · exact key _ hy (.inl rfl)
      · exact key _ hy (.inr rfl)
    · have z : (scope.names.lookup y == some NameKind.cell) = true := z
      have z : scope.names.lookup y = some .cell := by simpa using z
      have e : cenv.cells.lookup y = some c := e
      rw [hcl] at e
      rcases cells_mem (PySem.mem_of_lookup e) with hm | ⟨_, h2, _⟩
      · rcases cloFrom_mem hm with hm | ⟨h1, _⟩
        · cases hm
        · have q := ok.uniq _ h1
          rw [z] at q; cases q
      · rw [Heap.size_push] at h2
        exact Nat.le_of_succ_le h2
    · show b ≠ cenv.locals
      rw [hL]; exact Nat.ne_of_lt (hfp b hb).2
    · have e : cenv.cells.lookup y = some c := e
      rcases mem e with ⟨h1, _⟩ | ⟨h1, _⟩
      · exact (hfp b hb).1.2.2.2.2.1 y c h1 z
      · have h2 : s.heap.objs.size + 1 ≤ b := by rw [← z]; exact h1
        exact absurd (Nat.lt_of_lt_of_le (hfp b hb).2 (Nat.le_of_succ_le h2)) (Nat.lt_irrefl _)
    · rcases (hfp b hb).1.2.2.2.1 with z | z
      · exact I.ok.noex b o e z
      · exact absurd (Nat.lt_of_lt_of_le (Heap.lt_size e) (Nat.le_trans I.ok.bsz z)) (Nat.lt_irrefl _)
    · rcases List.mem_cons.mp (I.stkSub b z) with z | z
      · exact (hfp b hb).1.2.1 z
      · exact (hfp b hb).1.2.2.1 z
  refine ⟨okB, rfl, I.bare, Un.kept kp, ⟨fun _ => none, ?_, fun i y av e1 e2 e3 => ?_⟩, fun y c e => ?_, ?_, fun y c e => ?_, fun p hp => ?_, I.hok.kept kp, by rw [wipe_length]; exact I.len⟩
  · show Heap.Ns _ cenv.locals _
    rw [hL]
    exact Heap.Ns.keeps (Heap.Ns.new ..) fun b o e => pushCells_keeps _ _ _ _ e
  · obtain ⟨e2, hne⟩ := wipe_some e2
    have hfr : scope.names.lookup y = some .free ∧ (cenv.kindOf y = some .cell ∨ cenv.kindOf y = some .free) := by
      have key : ∀ k, cenv.scope.names.lookup y = some k → k = .local ∨ k = .cell ∨ k = .free → scope.names.lookup y = some .free ∧ (cenv.kindOf y = some .cell ∨ cenv.kindOf y = some .free) := fun k hk hk' => by
        have hk0 := hk
        rw [hsc] at hk
        obtain ⟨k', e, r⟩ := lookup_relS hk
        have no : ¬ (k' = .local ∨ k' = .cell) := fun hh => by
          rcases ok.own _ (PySem.mem_of_lookup e) hh with e' | e'
          · obtain ⟨p, hp, hpy⟩ := List.mem_map.mp e'
            have e3 := ok.ix p hp
            have : p.1 = y := hpy
            rw [this] at e3
            exact hne (List.mem_map.mpr ⟨p, hp, nodup_ix hN e3 e1⟩)
          · exact e' (List.mem_of_getElem? e1)
        rcases r with rfl | ⟨rfl, rfl⟩
        · rcases hk' with rfl | rfl | rfl
          · exact absurd (.inl rfl) no
          · exact absurd (.inr rfl) no
          · exact ⟨e, .inr hk0⟩
        · exact ⟨e, .inl hk0⟩
      have e3 : Vis cenv.scope y := e3
      rcases e3 with e3 | e3 | e3
      · exact key _ e3 (.inl rfl)
      · exact key _ e3 (.inr (.inl rfl))
      · exact key _ e3 (.inr (.inr rfl))
    obtain ⟨m, hn, hl⟩ := I.loc
    have hvis : Vis X.env.scope y := (ok.free _ (PySem.mem_of_lookup hfr.1) rfl).elim (fun k => .inr (.inl k)) (fun k => .inr (.inr k))
    obtain ⟨w, r, q⟩ := hl i y av e1 e2 hvis
    refine ⟨w, r, .inr ⟨hfr.2, ?_⟩⟩
    obtain ⟨c, h1, h2⟩ := look hfr.1
    rcases q with ⟨k, _⟩ | ⟨_, c', e', z⟩
    · have k : X.env.scope.names.lookup y = some .local := k
      rcases ok.free _ (PySem.mem_of_lookup hfr.1) rfl with k' | k' <;> rw [show X.env.scope.names.lookup y = _ from k'] at k <;> cases k
    · rw [h2] at e'; cases e'
      exact ⟨c, h1, z.keeps kp⟩
  · have e : cenv.cells.lookup y = some c := e
    rcases mem e with ⟨h1, _⟩ | ⟨_, z⟩
    · obtain ⟨w, z⟩ := I.cell y c h1
      exact ⟨w, z.keeps kp⟩
    · exact ⟨_, z⟩
  · show H cenv.locals = none
    rw [hL]; exact I.hok.fresh (Nat.le_refl _)
  · have e : cenv.cells.lookup y = some c := e
    rcases mem e with ⟨h1, _⟩ | ⟨h1, _⟩
    · exact I.freeC y c h1
    · exact I.hok.fresh (Nat.le_of_succ_le h1)
  · exact absurd (show p ∈ ([] : List (Addr × Obj)) ++ [] from hp) (by simp)
theorem app_ok {E : Value → Shared → Prop} {D : Addr} {xs : List V} {y : V} {v : Value} {Q : Value → Shared → Prop} (I : Inv X pins σ H s) (hD : H D = some (.lst xs)) (hz : xs.length < sizeLine) (r : RelV y v)
    (h : ∀ s', Inv X pins σ (upd H D (.lst (xs ++ [y]))) s' → Q .none s') : wpAny (model X.prog X.w) X.A (call (.builtin "list.append") [.ref D, v]) Q E s := by
  obtain ⟨hz', its, n, ri, e⟩ := I.hok D _ hD
  have hl := ri.length
  refine append_at (hsz := by rw [List.size_toArray]; omega) e fun h' sb ho' => ?_
  refine h { s with heap := h' } (I.write (t' := s.toks) (by rw [hD]; trivial) (.inl rfl) (fun b u hb q => (sb.2 b hb).trans q) ⟨_, ho'⟩ ⟨by rw [List.length_append]; exact hz, its ++ [v], n + 1, ri.append (.cons r .nil), ?_⟩)
  rw [ho']
  simp
def PTs (X : Cx) (ifs : List Expr) (t : TT) : Prop :=
  ∀ (pins : List (Addr × Obj)) (s : Shared) (σ : St) (H : Hp) (Q : Bool → Hp → Prop), Inv X pins σ H s → t σ H Q →
    wpAny (model X.prog X.w) X.A (forIn ifs true fun c r => if r = true then do let ok ← isTrue c X.env (eval c X.env); pure (ForInStep.yield ok) else pure (ForInStep.yield r)) (TP X pins σ Q) X.xe s
def tYes : TT := fun _ H Q => Q true H
theorem pts_nil : PTs X [] tYes := fun _ _ _ H _ I h => wpAny_tests_nil ⟨H, I, h⟩
end
theorem thnF {α : Type} {t : Sem α} {Q Q' : α → Shared → Prop} {M : Model} {A : Around} {E : Value → Shared → Prop} {s : Shared} (h : wpAny M A t Q (fun _ _ => False) s) (hQ : ∀ a s, Q a s → Q' a s) : wpAny M A t Q' E s := wpAny_mono h hQ fun _ _ z => False.elim z
theorem compLoop_any {prog : Program} {w : World} {A : Around} {R : Result → Shared → Prop} {s : Shared} {elt target iter : Expr} {ifs : List Expr} {scope : Scope} {pos : Pos} {it acc : Value} {env : Env} (I : Nat → Shared → Prop)
    (turn : ∀ n s, I n s → wpAny (model prog w) A (pyNext it) (fun r s₁ => match r with
      | none => R (.ok .next) s₁
      | some v => wpAny (model prog w) A (letOwnedTupleGo target it v) (fun _ s₁' => wpAny (model prog w) A (assign target env v) (fun _ s₂ =>
          wpAny (model prog w) A (forIn ifs true fun c r => if r = true then do let ok ← isTrue c env (eval c env); pure (ForInStep.yield ok) else pure (ForInStep.yield r)) (fun ok s₃ =>
            if ok = true then wpAny (model prog w) A (eval elt env) (fun x s₄ =>
              wpAny (model prog w) A (call (.builtin "list.append") [acc, x]) (fun _ s₅ => ∃ m, m < n ∧ I m s₅) (notedBy (model prog w) A env fun e s' => R (.error e) s') s₄) (notedBy (model prog w) A env fun e s' => R (.error e) s') s₃
            else ∃ m, m < n ∧ I m s₃) (notedBy (model prog w) A env fun e s' => R (.error e) s') s₂) (notedBy (model prog w) A env fun e s' => R (.error e) s') s₁') (notedBy (model prog w) A env fun e s' => R (.error e) s') s₁) (notedBy (model prog w) A env fun e s' => R (.error e) s') s)
    (n : Nat) (h : I n s) :
    codeAny (model prog w) A (.compLoop (.ListComp elt [⟨target, iter, ifs, 0⟩] scope pos) 0 it acc env) R s := by
  refine codeAny_loop rfl I (fun n s hI => ?_) n h
  show wpAny _ A ((compTurn (.ListComp elt [⟨target, iter, ifs, 0⟩] scope pos) 0 it acc env).onRaise (fun x => do noteFrame x env; theTreesLotGoes x)) _ _ s
  refine wpAny_noted ?_
  rw [compTurn_list]
  refine wpAny_bind (wpAny_standAt (wpAny_bind (wpAny_mono (turn n s hI) (fun r s₁ h₁ => ?_) fun _ _ h' => h')))
  cases r with
  | none => exact wpAny_pure h₁
  | some v =>
    refine wpAny_bind (wpAny_mono h₁ (fun _ s₁' h₁' => ?_) fun _ _ h' => h')
    refine wpAny_bind (wpAny_mono h₁' (fun _ s₂ h₂ => wpAny_bind (wpAny_mono h₂ (fun ok s₃ h₃ => ?_) fun _ _ h' => h')) fun _ _ h' => h')
    cases ok with
    | false => exact wpAny_pure ⟨rfl, h₃⟩
    | true =>
      exact wpAny_bind (wpAny_bind (wpAny_mono h₃ (fun x s₄ h₄ => wpAny_bind (wpAny_mono h₄ (fun _ s₅ h₅ => wpAny_pure (wpAny_pure ⟨rfl, h₅⟩)) fun _ _ h' => h')) fun _ _ h' => h'))
section
variable {X : Cx}
def tLc (wi : TI) (g : TG) (tt : TT) (te : TE) (vs : List Nat) : TE := fun σ H Q => wi σ H fun J H1 => ∀ D, H1 D = none → ∃ W : Nat → Nat → Hp → Prop, (∃ m, W 0 m (upd H1 D (.lst []))) ∧ ∀ i m H, W i m H →
  (J.stop i H ∧ Q (.ref D) H) ∨ (J.go i H ∧ ∃ Nx : Hp → Prop, (∀ H', Nx H' → ∃ m', m' < m ∧ W (i + 1) m' H') ∧ ∀ x H', J.yld i H x H' → g x (wipe σ vs) H' fun σ2 H2 => wipe σ2 vs = wipe σ vs ∧ tt σ2 H2 fun b H3 =>
    if b = true then te σ2 H3 fun y H4 => ∃ acc, H4 D = some (.lst acc) ∧ acc.length < sizeLine ∧ Nx (upd H4 D (.lst (acc ++ [y]))) else Nx H3)
theorem lc_core {pins : List (Addr × Obj)} {s : Shared} {σ : St} {H : Hp} {Q : VK} {elt tg iter : Expr} {ifs : List Expr} {scope : Scope} {own : List (Str × Nat)} {pos pos' : Pos} {wi : TI} {g : TG} {tt : TT} {te : TE} {use : Option (Value → Sem Unit)} {Qf : Value → Shared → Prop}
    (hc : X.calm = true) (hN : X.N.Nodup) (I : Inv X pins σ H s) (hi : PI X tg iter wi) (ok : BlkOk X.N X.env.scope scope own)
    (hg : ∀ (s : Shared) (H : Hp) (C : Addr) (cl : List (Str × Addr)) (fp : List Addr), PG (X.blk s H scope (compEnvC scope cl C X.env) fp) tg g) (ht : ∀ (s : Shared) (H : Hp) (C : Addr) (cl : List (Str × Addr)) (fp : List Addr), PTs (X.blk s H scope (compEnvC scope cl C X.env) fp) ifs tt)
    (he : ∀ (s : Shared) (H : Hp) (C : Addr) (cl : List (Str × Addr)) (fp : List Addr), PE (X.blk s H scope (compEnvC scope cl C X.env) fp) elt te) (hs : ∀ x, foldedSetIterable iter X.env x = pure x)
    (h : tLc wi g tt te (own.map (·.2)) σ H Q)
    (hRR : ∀ D C s' m H', Inv X pins σ H' s' → Q (.ref D) H' → s'.heap.Ns C m → FpOk X pins H' C → compPost (model X.prog X.w) X.A X.xe use Qf (.ref D) C (.ok .next) s') :
    wpAny (model X.prog X.w) X.A (comprehension (.ListComp elt [⟨tg, iter, ifs, 0⟩] scope pos) scope X.env pos' (newList []) false (eval iter X.env) use) Qf X.xe s := by
  have hfree : ∀ y ∈ scope.names, y.2 = .free → ∃ c, X.env.cells.lookup y.1 = some c := fun y hy e => by
    rcases ok.free y hy e with k | k
    · exact I.ok.has _ (.inl k)
    · exact I.ok.has _ (.inr k)
  refine wpAny_comprehension_free (use := use) rfl hs (closure_ok hfree) ok.kind (fun y hy e => by rw [ok.uniq y hy, e])
    (thn (hi pins s σ H _ I h) fun xv s1 hx => thn hx fun itv s2 h2 => ?_)
  obtain ⟨it, fp, tn, J, H2, e, I2, T, st2, f2, q⟩ := h2
  subst e
  refine wpAny_newObj_type (newEnv_comp ?_) (by show 0 ≤ sizeLine; decide)
  generalize hD : s2.heap.objs.size = D
  have hDn : H2 D = none := I2.hok.fresh (Nat.le_of_eq hD)
  obtain ⟨W, ⟨m0, w0⟩, turn⟩ := q D hDn
  generalize hs3 : ({ s2 with heap := s2.heap.push { cls := .type "list", data := .seq ([] : List Value).toArray } } : Shared) = s3
  have I3 : Inv X pins σ (upd H2 D (.lst [])) s3 := by
    rw [← hs3]
    refine I2.laid (t' := s2.toks) (fun b o e => Heap.get?_push_of_some _ e) (Nat.le_of_eq hD) ⟨Nat.zero_le _, [], 0, .nil, ?_⟩
    rw [← hD]
    exact Heap.get?_push_size _ rfl
  have h3 : s3.heap = s2.heap.push { cls := .type "list", data := .seq ([] : List Value).toArray } := by rw [← hs3]
  have sz : ∀ b ∈ fp, b < s2.heap.objs.size := fun b hb => by
    obtain ⟨o, e, _⟩ := T.obj _ _ st2 b hb
    exact Heap.lt_size e
  have f3 : ∀ b ∈ fp, FpOk X pins (upd H2 D (.lst [])) b ∧ b < s3.heap.objs.size := fun b hb => by
    have hlt := sz b hb
    refine ⟨⟨?_, (f2 b hb).2⟩, by rw [h3, Heap.size_push]; exact Nat.lt_succ_of_lt hlt⟩
    rw [upd_ne (by rw [← hD]; exact Nat.ne_of_lt hlt)]
    exact (f2 b hb).1
  have st3 : tn 0 s3.heap := T.keep _ _ _ st2 fun b _ o e => by rw [h3]; exact Heap.get?_push_of_some _ e
  have I4 := block_start I3 ok hN f3
  have pg := hg s3 (upd H2 D (.lst [])) s3.heap.objs.size (cellsFrom (s3.heap.objs.size + 1) scope.names (cloFrom X.env.cells scope.names [])) fp
  have pt := ht s3 (upd H2 D (.lst [])) s3.heap.objs.size (cellsFrom (s3.heap.objs.size + 1) scope.names (cloFrom X.env.cells scope.names [])) fp
  have pe := he s3 (upd H2 D (.lst [])) s3.heap.objs.size (cellsFrom (s3.heap.objs.size + 1) scope.names (cloFrom X.env.cells scope.names [])) fp
  show codeAny _ _ (.compStart (.ListComp elt [⟨tg, iter, ifs, 0⟩] scope pos) 0 (.ref it) (.ref D) (compEnvC scope (cellsFrom (s3.heap.objs.size + 1) scope.names (cloFrom X.env.cells scope.names [])) s3.heap.objs.size X.env)) (compPost (model X.prog X.w) X.A X.xe use Qf (.ref D) s3.heap.objs.size) { s3 with heap := pushCells (s3.heap.push { cls := .type "dict", data := .dict #[] }) scope.names }
  have nfp : ∀ b ∈ fp, (upd H2 D (.lst [])) b = none := fun b hb => (f3 b hb).1.1
  generalize hce : compEnvC scope (cellsFrom (s3.heap.objs.size + 1) scope.names (cloFrom X.env.cells scope.names [])) s3.heap.objs.size X.env = ce at I4 pg pt pe ⊢
  have cL : ce.locals = s3.heap.objs.size := by subst hce; rfl
  generalize hH3 : upd H2 D (.lst []) = H3 at I3 I4 pg pt pe w0 nfp f3
  generalize hs4 : ({ s3 with heap := pushCells (s3.heap.push { cls := .type "dict", data := .dict #[] }) scope.names } : Shared) = s4 at I4 ⊢
  have st4 : tn 0 s4.heap := T.keep _ _ _ st3 fun b _ o e => by rw [← hs4]; exact pushCells_keeps _ _ _ _ (Heap.get?_push_of_some _ e)
  have stat : ∀ {σ' : St} {H' : Hp} {s' : Shared}, Inv (X.blk s3 H3 scope ce fp) [] σ' H' s' → (∀ b ∈ fp, H' b = none) → ∀ b ∈ fp, FpOk (X.blk s3 H3 scope ce fp) [] H' b := fun {σ' H' s'} I' hn b hb =>
    ⟨hn b hb, (I'.ok.exf b hb).1, I'.ok.exfs b hb, .inl hb, fun x c e => (I'.ok.exf b hb).2 x c e, fun p hp => absurd (show p ∈ ([] : List (Addr × Obj)) ++ [] from hp) (by simp)⟩
  have loop : codeAny (model X.prog X.w) X.A (.compLoop (.ListComp elt [⟨tg, iter, ifs, 0⟩] scope pos) 0 (.ref it) (.ref D) ce) (compPost (model X.prog X.w) X.A X.xe use Qf (.ref D) s3.heap.objs.size) s4 := by
    refine compLoop_any (fun n s' => ∃ i H', Inv (X.blk s3 H3 scope ce fp) [] (wipe σ (own.map (·.2))) H' s' ∧ tn i s'.heap ∧ (∀ b ∈ fp, H' b = none) ∧ W i n H') ?_ m0 ⟨0, H3, I4, st4, nfp, w0⟩
    rintro n s5 ⟨i, H5, I5, st5, n5, w5⟩
    rcases turn i n H5 w5 with ⟨stop, qq⟩ | ⟨go, Nx, hNx, step⟩
    · have td := T.done (X.blk s3 H3 scope ce fp) rfl rfl rfl hc i [] s5 _ H5 (fun _ _ => False) I5 (stat I5 n5) st5 stop
      refine thnF td fun r s6 ⟨hr, I6⟩ => ?_
      subst hr
      have I7 : Inv X pins σ H5 s6 := I3.call' (ch := fp) I6.os I6.base I6.hok I6.bare fun b hb => ⟨(f3 b hb).1.2.2.2.1, (f3 b hb).1.2.1, (f3 b hb).1.2.2.2.2.1, (f3 b hb).1.2.2.2.2.2⟩
      have nC : H5 s3.heap.objs.size = none := by
        have z : H5 ce.locals = none := I6.free
        rw [cL] at z
        exact z
      obtain ⟨m, hn, _⟩ := I6.loc
      have hn : s6.heap.Ns ce.locals m := hn
      rw [cL] at hn
      exact hRR D s3.heap.objs.size s6 m H5 I7 qq hn (I3.fpOk (Nat.le_refl _) nC)
    · have ti := T.item (X.blk s3 H3 scope ce fp) rfl rfl rfl hc i [] s5 _ H5 (fun _ _ => False) I5 (stat I5 n5) st5 go
      refine thnF ti fun r s6 ⟨u, hr, h6⟩ => ?_
      subst hr
      refine thnF h6 fun _ s7 ⟨x, H7, I7, r7, y7, st7, n7⟩ => ?_
      have I7' := I7.pinned (stat I7 n7) (T.obj _ _ st7)
      refine thnF (pg _ s7 _ H7 x u _ I7' r7 (step x H7 y7)) fun _ s8 ⟨σ8, H8, I8, hw8, q8⟩ => ?_
      refine thnF (pt _ s8 σ8 H8 _ I8 q8) fun b s9 ⟨H9, I9, q9⟩ => ?_
      have fin : ∀ {s' : Shared} {H' : Hp}, Inv (X.blk s3 H3 scope ce fp) ([] ++ pinsAt fp s7.heap) σ8 H' s' → Nx H' → ∃ m, m < n ∧ ∃ i H', Inv (X.blk s3 H3 scope ce fp) [] (wipe σ (own.map (·.2))) H' s' ∧ tn i s'.heap ∧ (∀ b ∈ fp, H' b = none) ∧ W i m H' := fun {s' H'} I' nx => by
        obtain ⟨m', hm, w'⟩ := hNx H' nx
        have pin' : ∀ b ∈ fp, ∀ o, s7.heap.get? b = some o → s'.heap.get? b = some o ∧ H' b = none := fun b hb o e =>
          let z := I'.pin (b, o) (List.mem_append_right _ (List.mem_append_right _ (mem_pinsAt hb e)))
          ⟨z.1, z.2.1⟩
        have hl : (wipe σ (own.map (·.2))).length = σ8.length := by rw [← hw8, wipe_length]
        refine ⟨m', hm, i + 1, H', (I'.unpinned (pins := [])).weak hl (fun j v e => ?_), T.keep _ _ _ st7 fun b hb o e => (pin' b hb o e).1, fun b hb => ?_, w'⟩
        · rw [← hw8] at e
          exact (wipe_some e).1
        · obtain ⟨o, e, _⟩ := T.obj _ _ st7 b hb
          exact (pin' b hb o e).2
      cases b with
      | false =>
        simp only [Bool.false_eq_true, if_false] at q9 ⊢
        exact fin I9 q9
      | true =>
        simp only [if_true] at q9 ⊢
        refine thnF (pe _ s9 σ8 H9 _ I9 q9) fun z s10 ⟨yv, H10, I10, r10, acc, hD10, hz10, nx⟩ => ?_
        exact app_ok (X := X.blk s3 H3 scope ce fp) I10 hD10 hz10 r10 fun s11 I11 => fin I11 nx
  exact codeAny_compStart_list loop (T.self X.A 0 _ _ _ st4 loop)
theorem pe_lc {elt tg iter : Expr} {ifs : List Expr} {scope : Scope} {own : List (Str × Nat)} {pos : Pos} {wi : TI} {g : TG} {tt : TT} {te : TE} (hc : X.calm = true) (hN : X.N.Nodup) (hi : PI X tg iter wi) (ok : BlkOk X.N X.env.scope scope own)
    (hg : ∀ (s : Shared) (H : Hp) (C : Addr) (cl : List (Str × Addr)) (fp : List Addr), PG (X.blk s H scope (compEnvC scope cl C X.env) fp) tg g) (ht : ∀ (s : Shared) (H : Hp) (C : Addr) (cl : List (Str × Addr)) (fp : List Addr), PTs (X.blk s H scope (compEnvC scope cl C X.env) fp) ifs tt)
    (he : ∀ (s : Shared) (H : Hp) (C : Addr) (cl : List (Str × Addr)) (fp : List Addr), PE (X.blk s H scope (compEnvC scope cl C X.env) fp) elt te) (hs : ∀ x, foldedSetIterable iter X.env x = pure x := by intro _; rfl) :
    PE X (.ListComp elt [⟨tg, iter, ifs, 0⟩] scope pos) (tLc wi g tt te (own.map (·.2))) := by
  intro pins s σ H Q I h
  rw [eval_ListComp]
  refine lc_core hc hN I hi ok hg ht he hs h fun D C s' m H' I' q hn f => ⟨m, hn, fun h'' sb => ?_⟩
  obtain ⟨f0, f1, f2, f3, f4, f5⟩ := f
  exact ⟨.ref D, H', I'.turned (t' := s'.toks) (fun b o hb e => (sb.2 b hb).trans e) f0 f1 f3 f4 f5, rfl, q⟩
theorem ps_setLc {i : Nat} {y : Str} {py : Pos} {elt tg iter : Expr} {ifs : List Expr} {scope : Scope} {own : List (Str × Nat)} {pos spos : Pos} {wi : TI} {g : TG} {tt : TT} {te : TE} (hc : X.calm = true) (hN : X.N.Nodup) (hy : X.N[i]? = some y) (hyl : X.env.scope.names.lookup y = some .local)
    (hsw : swapsWith (.ListComp elt [⟨tg, iter, ifs, 0⟩] scope pos) (some (.Name y py)) spos.line X.env = pure true) (hi : PI X tg iter wi) (ok : BlkOk X.N X.env.scope scope own)
    (hg : ∀ (s : Shared) (H : Hp) (C : Addr) (cl : List (Str × Addr)) (fp : List Addr), PG (X.blk s H scope (compEnvC scope cl C X.env) fp) tg g) (ht : ∀ (s : Shared) (H : Hp) (C : Addr) (cl : List (Str × Addr)) (fp : List Addr), PTs (X.blk s H scope (compEnvC scope cl C X.env) fp) ifs tt)
    (he : ∀ (s : Shared) (H : Hp) (C : Addr) (cl : List (Str × Addr)) (fp : List Addr), PE (X.blk s H scope (compEnvC scope cl C X.env) fp) elt te) (hs : ∀ x, foldedSetIterable iter X.env x = pure x := by intro _; rfl) :
    PS X (.Assign [.Name y py] (.ListComp elt [⟨tg, iter, ifs, 0⟩] scope pos) spos) (tAsg (tLc wi g tt te (own.map (·.2))) (gName i)) := by
  intro pins s σ H D I h
  rw [exec_Assign_Name_used _ _ _ _ hsw]
  refine wpAny_bind (wpAny_standAt (wpAny_bind ?_))
  show wpAny _ X.A (do let _ ← comprehension (.ListComp elt [⟨tg, iter, ifs, 0⟩] scope pos) scope X.env (firstIterPos [⟨tg, iter, ifs, 0⟩] pos) (newList []) false (eval iter X.env) (some (assign (.Name y py) X.env))) _ _ s
  have h : tLc wi g tt te (own.map (·.2)) σ H (fun x H1 => gName i x σ H1 D.nx) := h
  refine wpAny_bind (thn (lc_core (Qf := fun _ s' => SP X pins D .next s') hc hN I hi ok hg ht he hs h fun L C s' m H' I' q hn f => ?_) fun _ s' hq => wpAny_pure (wpAny_pure hq))
  show wpAny _ _ (assign (.Name y py) X.env (.ref L)) _ _ _
  refine wpAny_assign_Name (store_ok2 (v := V.ref L) I' hN hy (.inl hyl) rfl (fun s2 I2 ⟨a, sb, ha⟩ => ?_) (.inr hyl))
  obtain ⟨f0, f1, f2, f3, f4, f5⟩ := f
  have haC : C ≠ a := by
    rcases ha with z | z
    · rw [z]; exact f1
    · exact fun e => f4 y a z e.symm
  refine ⟨m, hn.sameBut sb haC, fun h3 sb3 => ?_⟩
  exact ⟨_, H', I2.turned (t' := s2.toks) (fun b o hb e => (sb3.2 b hb).trans e) f0 f1 f3 f4 f5, q⟩
theorem sw_true {elt : Expr} {gs : List Comprehension} {scope : Scope} {pos py : Pos} {y : Str} {l : Nat} {env : Env} (hk : env.scope.kind = .function) (hy : env.scope.names.lookup y = some .local) (hl : (py.line == pos.line) = true)
    (ha : (scope.names.any fun (n, k) => n == y && (k == .local || k == .cell)) = false) : swapsWith (.ListComp elt gs scope pos) (some (.Name y py)) l env = pure true := by
  have ky : env.kindOf y = some .local := hy
  have hb : env.blockKind = .function := by unfold Env.blockKind; rw [hk]; rfl
  unfold swapsWith
  simp only [hb, ky, ha, Expr.pos, hl]
  rfl
end
theorem lc_range {lo : Int} {n : Nat} {g : TG} {tt : TT} {te : TE} {vs : List Nat} {σ : St} {H1 : Hp} {D : Addr} {Qd : Hp → Prop} (Pv : Nat → Hp → Prop) (h0 : Pv 0 (upd H1 D (.lst [])))
    (hs : ∀ i H, i < n → Pv i H → g (.int (lo + i)) (wipe σ vs) H fun σ2 H2 => wipe σ2 vs = wipe σ vs ∧ tt σ2 H2 fun b H3 =>
      if b = true then te σ2 H3 fun y H4 => ∃ acc, H4 D = some (.lst acc) ∧ acc.length < sizeLine ∧ Pv (i + 1) (upd H4 D (.lst (acc ++ [y]))) else Pv (i + 1) H3) (hd : ∀ H, Pv n H → Qd H) :
    ∃ W : Nat → Nat → Hp → Prop, (∃ m, W 0 m (upd H1 D (.lst []))) ∧ ∀ i m H, W i m H →
      ((Itr lo n).stop i H ∧ Qd H) ∨ ((Itr lo n).go i H ∧ ∃ Nx : Hp → Prop, (∀ H', Nx H' → ∃ m', m' < m ∧ W (i + 1) m' H') ∧ ∀ x H', (Itr lo n).yld i H x H' → g x (wipe σ vs) H' fun σ2 H2 => wipe σ2 vs = wipe σ vs ∧ tt σ2 H2 fun b H3 =>
        if b = true then te σ2 H3 fun y H4 => ∃ acc, H4 D = some (.lst acc) ∧ acc.length < sizeLine ∧ Nx (upd H4 D (.lst (acc ++ [y]))) else Nx H3) := by
  refine ⟨fun i m H => m = n - i ∧ i ≤ n ∧ Pv i H, ⟨n, by simp, Nat.zero_le _, h0⟩, ?_⟩
  rintro i m H ⟨rfl, hi, p⟩
  by_cases hlt : i < n
  · refine .inr ⟨hlt, Pv (i + 1), fun H' p' => ⟨n - (i + 1), by omega, rfl, hlt, p'⟩, fun x H' y => ?_⟩
    obtain ⟨e, y⟩ := y
    subst e y
    exact hs i _ hlt p
  · have e : i = n := by omega
    subst e
    exact .inl ⟨Nat.le_refl _, hd H p⟩
theorem lc_list {K : PySem.W.Frag} {a : Addr} {xs : List V} {g : TG} {tt : TT} {te : TE} {vs : List Nat} {σ : St} {H1 : Hp} {D : Addr} {Qd : Hp → Prop} (Pv : Nat → Hp → Prop) (h0 : Pv 0 (upd H1 D (.lst []))) (hl : ∀ i H, i ≤ xs.length → Pv i H → SqL K H a xs)
    (hs : ∀ i x H, xs[i]? = some x → Pv i H → g x (wipe σ vs) H fun σ2 H2 => wipe σ2 vs = wipe σ vs ∧ tt σ2 H2 fun b H3 =>
      if b = true then te σ2 H3 fun y H4 => ∃ acc, H4 D = some (.lst acc) ∧ acc.length < sizeLine ∧ Pv (i + 1) (upd H4 D (.lst (acc ++ [y]))) else Pv (i + 1) H3) (hd : ∀ H, Pv xs.length H → Qd H) :
    ∃ W : Nat → Nat → Hp → Prop, (∃ m, W 0 m (upd H1 D (.lst []))) ∧ ∀ i m H, W i m H →
      ((Itl K a).stop i H ∧ Qd H) ∨ ((Itl K a).go i H ∧ ∃ Nx : Hp → Prop, (∀ H', Nx H' → ∃ m', m' < m ∧ W (i + 1) m' H') ∧ ∀ x H', (Itl K a).yld i H x H' → g x (wipe σ vs) H' fun σ2 H2 => wipe σ2 vs = wipe σ vs ∧ tt σ2 H2 fun b H3 =>
        if b = true then te σ2 H3 fun y H4 => ∃ acc, H4 D = some (.lst acc) ∧ acc.length < sizeLine ∧ Nx (upd H4 D (.lst (acc ++ [y]))) else Nx H3) := by
  refine ⟨fun i m H => m = xs.length - i ∧ i ≤ xs.length ∧ Pv i H, ⟨xs.length, by simp, Nat.zero_le _, h0⟩, ?_⟩
  rintro i m H ⟨rfl, hi, p⟩
  have q := hl i H hi p
  by_cases hlt : i < xs.length
  · refine .inr ⟨⟨xs, xs[i], q, by simp [hlt]⟩, Pv (i + 1), fun H' p' => ⟨xs.length - (i + 1), by omega, rfl, hlt, p'⟩, fun x H' y => ?_⟩
    obtain ⟨e, y⟩ := y
    subst e
    exact hs i x _ (y xs q) p
  · have e : i = xs.length := by omega
    subst e
    exact .inl ⟨⟨xs, q, Nat.le_refl _⟩, hd H p⟩
def blkC (N : List Str) (sc scope : Scope) (own : List (Str × Nat)) : Bool :=
  (match scope.kind with | .function => true | _ => false) && (scope.names.all fun y => decide (scope.names.lookup y.1 = some y.2)) && (own.all fun p => decide (N[p.2]? = some p.1)) &&
    (scope.names.all fun y => match y.2 with
      | .free => (match sc.names.lookup y.1 with | some .cell => true | some .free => true | _ => false)
      | .local => decide (y.1 ∈ own.map (·.1)) || decide (y.1 ∉ N)
      | .cell => decide (y.1 ∈ own.map (·.1)) || decide (y.1 ∉ N)
      | _ => true)
theorem blkOk_by {N : List Str} {sc scope : Scope} {own : List (Str × Nat)} (h : blkC N sc scope own = true) : BlkOk N sc scope own := by
  unfold blkC at h
  simp only [Bool.and_eq_true, List.all_eq_true, decide_eq_true_eq] at h
  obtain ⟨⟨⟨h1, h2⟩, h3⟩, h4⟩ := h
  refine ⟨?_, h2, h3, fun y hy e => ?_, fun y hy e => ?_⟩
  · split at h1
    · assumption
    · cases h1
  · have q := h4 y hy
    simp only [e] at q
    split at q <;> first | exact .inl (by assumption) | exact .inr (by assumption) | cases q
  · have q := h4 y hy
    rcases e with e | e <;> (simp only [e, Bool.or_eq_true, decide_eq_true_eq] at q; exact q)
end L2
namespace L2
open PySem PySem.Spec PyProof.Rows
section
variable {prog : Program} {w : World} {A : Around} {R : Result → Shared → Prop} {s : Shared} {elt t0 i0 t1 i1 : Expr} {ifs0 ifs1 : List Expr} {scope : Scope} {pos : Pos} {it acc : Value} {env : Env}
end
section
variable {X : Cx}
end
end L2
namespace L2
open PySem PySem.Spec PyProof.Rows
section
variable {κ : Type} [DecidableEq κ]
def valV (kvs : List (κ × V)) (k : κ) : Option V := (kvs.find? fun kv => decide (kv.1 = k)).map (·.2)
def putK (kvs : List (κ × V)) (k : κ) (v : V) : List (κ × V) :=
  if (kvs.any fun kv => decide (kv.1 = k)) = true then kvs.map (fun kv => if kv.1 = k then (kv.1, v) else kv) else kvs ++ [(k, v)]
def dropK (kvs : List (κ × V)) (k : κ) : List (κ × V) := kvs.filter fun kv => decide (kv.1 ≠ k)
theorem valV_nil {k : κ} : valV ([] : List (κ × V)) k = none := rfl
theorem valV_pos {p : κ × V} {r : List (κ × V)} {k : κ} (e : p.1 = k) : valV (p :: r) k = some p.2 := by simp [valV, List.find?_cons, e]
theorem valV_neg {p : κ × V} {r : List (κ × V)} {k : κ} (e : ¬ p.1 = k) : valV (p :: r) k = valV r k := by simp [valV, List.find?_cons, e]
theorem valV_any (k : κ) : ∀ kvs : List (κ × V), (kvs.any fun kv => decide (kv.1 = k)) = (valV kvs k).isSome
  | [] => rfl
  | p :: r => by
    rw [List.any_cons]
    by_cases e : p.1 = k
    · simp only [valV_pos e, decide_eq_true e, Bool.true_or, Option.isSome_some]
    · rw [valV_neg e, decide_eq_false e, Bool.false_or]; exact valV_any k r
theorem valV_map (k j : κ) (y : V) : ∀ kvs : List (κ × V), valV (kvs.map fun kv => if kv.1 = k then (kv.1, y) else kv) j = (valV kvs j).map fun x => if j = k then y else x
  | [] => rfl
  | p :: r => by
    have ih := valV_map k j y r
    rw [List.map_cons]
    by_cases h : p.1 = k
    · rw [if_pos h]
      by_cases e : p.1 = j
      · rw [valV_pos (p := (p.1, y)) e, valV_pos e, Option.map_some, if_pos (e.symm.trans h)]
      · rw [valV_neg (p := (p.1, y)) e, valV_neg e, ih]
    · rw [if_neg h]
      by_cases e : p.1 = j
      · rw [valV_pos (p := p) e, valV_pos e, Option.map_some, if_neg (fun z => h (e.trans z))]
      · rw [valV_neg (p := p) e, valV_neg e, ih]
theorem valV_snoc (k j : κ) (y : V) : ∀ kvs : List (κ × V), valV kvs k = none → valV (kvs ++ [(k, y)]) j = if j = k then some y else valV kvs j
  | [], _ => by
    by_cases e : k = j
    · rw [if_pos e.symm]; exact valV_pos (p := (k, y)) e
    · rw [if_neg (fun z => e z.symm)]; exact valV_neg (p := (k, y)) e
  | p :: r, hn => by
    rw [List.cons_append]
    have hk : ¬ p.1 = k := fun z => by rw [valV_pos z] at hn; cases hn
    rw [valV_neg hk] at hn
    have ih := valV_snoc k j y r hn
    by_cases e : p.1 = j
    · rw [valV_pos e, valV_pos e, if_neg (fun z => hk (e.trans z))]
    · rw [valV_neg e, valV_neg e, ih]
theorem valV_put (kvs : List (κ × V)) (k j : κ) (y : V) : valV (putK kvs k y) j = if j = k then some y else valV kvs j := by
  unfold putK
  by_cases a : (kvs.any fun kv => decide (kv.1 = k)) = true
  · rw [if_pos a, valV_map]
    rw [valV_any] at a
    by_cases e : j = k
    · obtain ⟨x, hx⟩ := Option.isSome_iff_exists.mp a
      rw [if_pos e, e, hx, Option.map_some, if_pos rfl]
    · rw [if_neg e]
      cases valV kvs j with
      | none => rfl
      | some x => rw [Option.map_some, if_neg e]
  · rw [if_neg a]
    refine valV_snoc k j y kvs ?_
    rw [valV_any] at a
    cases q : valV kvs k with
    | none => rfl
    | some x => rw [q] at a; exact (a rfl).elim
theorem length_putK (kvs : List (κ × V)) (k : κ) (v : V) : (putK kvs k v).length ≤ kvs.length + 1 := by
  unfold putK
  split
  · rw [List.length_map]; omega
  · rw [List.length_append, List.length_cons, List.length_nil]; omega
theorem RelO.isSome_eq {o : Option V} {u : Option Value} (r : RelO o u) : o.isSome = u.isSome := by
  cases o with
  | none => cases u with
    | none => rfl
    | some _ => exact (show False from r).elim
  | some _ => cases u with
    | none => exact (show False from r).elim
    | some _ => rfl
theorem RelO.getD {o : Option V} {u : Option Value} {d : V} {d' : Value} (r : RelO o u) (rd : RelV d d') : RelV (o.getD d) (u.getD d') := by
  cases o with
  | none => cases u with
    | none => exact rd
    | some _ => exact (show False from r).elim
  | some _ => cases u with
    | none => exact (show False from r).elim
    | some _ => exact r
theorem KV.val {kvs : List (κ × V)} {vs : List (κ × Value)} (r : KV kvs vs) (k : κ) : RelO (valV kvs k) (valueAt vs k) := by
  unfold KV at r
  induction r with
  | nil => exact True.intro
  | @cons p q ps qs h t ih =>
    obtain ⟨h1, h2⟩ := h
    by_cases e : p.1 = k
    · have e' : q.1 = k := h1.symm.trans e
      have b : valueAt (q :: qs) k = some q.2 := by simp [valueAt, List.find?_cons, e']
      rw [valV_pos e, b]; exact h2
    · have e' : ¬ q.1 = k := fun z => e (h1.trans z)
      have b : valueAt (q :: qs) k = valueAt qs k := by simp [valueAt, List.find?_cons, e']
      rw [valV_neg e, b]; exact ih
theorem KV.any {kvs : List (κ × V)} {vs : List (κ × Value)} (r : KV kvs vs) (k : κ) : (kvs.any fun kv => decide (kv.1 = k)) = vs.any fun kv => decide (kv.1 = k) := by
  unfold KV at r
  induction r with
  | nil => rfl
  | cons h t ih => rw [List.any_cons, List.any_cons, ih, h.1]
theorem KV.repl {kvs : List (κ × V)} {vs : List (κ × Value)} (r : KV kvs vs) (k : κ) {y : V} {u : Value} (ry : RelV y u) :
    KV (kvs.map fun kv => if kv.1 = k then (kv.1, y) else kv) (vs.map fun kv => if kv.1 = k then (kv.1, u) else kv) := by
  unfold KV at r ⊢
  induction r with
  | nil => exact .nil
  | @cons p q ps qs h t ih =>
    rw [List.map_cons, List.map_cons]
    refine .cons ?_ ih
    obtain ⟨h1, h2⟩ := h
    by_cases e : p.1 = k
    · rw [if_pos e, if_pos (h1.symm.trans e)]; exact ⟨h1, ry⟩
    · rw [if_neg e, if_neg (fun z => e (h1.trans z))]; exact ⟨h1, h2⟩
theorem KV.put {kvs : List (κ × V)} {vs : List (κ × Value)} (r : KV kvs vs) (k : κ) {y : V} {u : Value} (ry : RelV y u) : KV (putK kvs k y) (stored vs k u) := by
  unfold putK stored
  rw [r.any k]
  by_cases e : (vs.any fun kv => decide (kv.1 = k)) = true
  · rw [if_pos e, if_pos e]; exact r.repl k ry
  · rw [if_neg e, if_neg e]; exact Paired.snoc r ⟨rfl, ry⟩
theorem KV.keys {kvs : List (κ × V)} {vs : List (κ × Value)} (r : KV kvs vs) : kvs.map (·.1) = vs.map (·.1) := by
  unfold KV at r
  induction r with
  | nil => rfl
  | cons h t ih => rw [List.map_cons, List.map_cons, ih, h.1]
theorem KV.length {kvs : List (κ × V)} {vs : List (κ × Value)} (r : KV kvs vs) : kvs.length = vs.length := Paired.length r
theorem dropK_le (kvs : List (κ × V)) (k : κ) : (dropK kvs k).length ≤ kvs.length := List.length_filter_le _ _
end
theorem kV_is {P : Program} {w : World} {k : Key} {u : Value} (r : RelV (kV k) u) : (mixKind P w).is k u = true := by
  cases k with
  | inl i => obtain ⟨t, e⟩ := (show ∃ t, u = Value.int i t from r); subst e; exact mixKind_int P w i t
  | inr x => obtain ⟨t, e⟩ := (show ∃ t, u = Value.str x t from r); subst e; exact mixKind_str P w x t
theorem items_are {P : Program} {w : World} : ∀ {ks : List Key} {us : List Value}, Vals (ks.map kV) us → ItemsAre (mixKind P w) ks us
  | [], _, r => by rw [List.map_nil] at r; cases r; exact .nil
  | k :: ks, _, r => by
    rw [List.map_cons] at r
    cases r with
    | cons h t => exact .cons (kV_is h) (items_are t)
abbrev KT (H : Hp) : List (List Key × V) → List (List Key × Addr × Value) → Prop := Paired fun p q => p.1 = q.1 ∧ H q.2.1 = some (.tup (p.1.map kV)) ∧ RelV p.2 q.2.2
theorem KT.val {H : Hp} {kvs : List (List Key × V)} {xs : List (List Key × Addr × Value)} (r : KT H kvs xs) (k : List Key) : RelO (valV kvs k) ((atKey xs k).map (·.2)) := by
  induction r with
  | nil => exact True.intro
  | @cons p q ps qs h t ih =>
    obtain ⟨h1, _, h2⟩ := h
    by_cases e : p.1 = k
    · have e' : q.1 = k := h1.symm.trans e
      have b : atKey (q :: qs) k = some q.2 := by simp [atKey, List.find?_cons, e']
      rw [valV_pos e, b]; exact h2
    · have e' : ¬ q.1 = k := fun z => e (h1.trans z)
      have b : atKey (q :: qs) k = atKey qs k := by simp [atKey, List.find?_cons, e']
      rw [valV_neg e, b]; exact ih
theorem KT.repl {H : Hp} {kvs : List (List Key × V)} {xs : List (List Key × Addr × Value)} (r : KT H kvs xs) (k : List Key) {y : V} {u : Value} (ry : RelV y u) :
    KT H (kvs.map fun kv => if kv.1 = k then (kv.1, y) else kv) (xs.map (putAt k u)) := by
  induction r with
  | nil => exact .nil
  | @cons p q ps qs h t ih =>
    rw [List.map_cons, List.map_cons]
    refine .cons ?_ ih
    obtain ⟨h1, h2, h3⟩ := h
    unfold putAt
    by_cases e : p.1 = k
    · rw [if_pos e, if_pos (h1.symm.trans e)]; exact ⟨h1, h2, ry⟩
    · rw [if_neg e, if_neg (fun z => e (h1.trans z))]; exact ⟨h1, h2, h3⟩
theorem KT.put {H : Hp} {kvs : List (List Key × V)} {xs : List (List Key × Addr × Value)} (r : KT H kvs xs) (k : List Key) {b : Addr} {y : V} {u : Value} (hb : H b = some (.tup (k.map kV))) (ry : RelV y u) :
    KT H (putK kvs k y) (storedH xs k b u) := by
  have e : (kvs.any fun kv => decide (kv.1 = k)) = (atKey xs k).isSome := by
    rw [valV_any, (r.val k).isSome_eq, Option.isSome_map]
  unfold putK storedH
  rw [e]
  by_cases q : (atKey xs k).isSome = true
  · rw [if_pos q, if_pos q]; exact r.repl k ry
  · rw [if_neg q, if_neg q]; exact Paired.snoc r ⟨rfl, hb, ry⟩
theorem KT.keeps {H H' : Hp} {kvs : List (List Key × V)} {xs : List (List Key × Addr × Value)} (r : KT H kvs xs) (ht : ∀ b ys, H b = some (.tup ys) → H' b = some (.tup ys)) : KT H' kvs xs :=
  Paired.mapP r fun _ _ z => ⟨z.1, ht _ _ z.2.1, z.2.2⟩
section
variable {P : Program} {w : World} {H : Hp} {h : Heap} {a : Addr}
theorem rd_of {u : HO} (ok : HOk P w H h) (e : Rd H a u) : ObjOk P w H h a u := e.ok ok
theorem dk_rd {kvs : List (Key × V)} (ok : HOk P w H h) (e : Rd H a (.dK kvs)) : kvs.length ≤ sizeLine ∧ (a == sysModules) = false ∧ ∃ vs, KV kvs vs ∧ h.DictOf (mixKind P w) a vs :=
  show ObjOk P w H h a (.dK kvs) from rd_of ok e
theorem dk_of {kvs : List (Key × V)} (ok : HOk P w H h) (e : H a = some (.dK kvs)) : kvs.length ≤ sizeLine ∧ (a == sysModules) = false ∧ ∃ vs, KV kvs vs ∧ h.DictOf (mixKind P w) a vs := dk_rd ok (.inl e)
theorem key_of {ks : List Key} (ok : HOk P w H h) (e : H a = some (.tup (ks.map kV))) : (tupleKind (mixKind P w)).is h ks a := by
  obtain ⟨_, its, r, o, h1, h2, n, h3⟩ := (show ObjOk P w H h a (.tup (ks.map kV)) from ok a _ e)
  exact ⟨o, its.toArray, n, h1, h2, h3, by simpa using items_are r⟩
theorem dt_rd {kvs : List (List Key × V)} (ok : HOk P w H h) (e : Rd H a (.dT kvs)) : kvs.length ≤ sizeLine ∧ (a == sysModules) = false ∧
    ∃ xs, KT H kvs xs ∧ h.DictOfH (tupleKind (mixKind P w)) a xs := by
  obtain ⟨z, y, xs, r, o, es, ep, h1, h2, h3, h4, h5⟩ := (show ObjOk P w H h a (.dT kvs) from rd_of ok e)
  refine ⟨z, y, xs, r, o, es, ep, h1, h2, h3, h4, fun x hx => ?_, h5⟩
  have all : ∀ {l : List (List Key × V)} {m : List (List Key × Addr × Value)}, KT H l m → ∀ x ∈ m, (tupleKind (mixKind P w)).is h x.1 x.2.1 := by
    intro l m q
    induction q with
    | nil => intro x hx; exact nomatch hx
    | @cons p q ps qs hq t ih =>
      intro x hx
      rcases List.mem_cons.mp hx with e | hx
      · subst e
        exact key_of ok (by rw [← hq.1]; exact hq.2.1)
      · exact ih x hx
  exact all r x hx
theorem dt_of {kvs : List (List Key × V)} (ok : HOk P w H h) (e : H a = some (.dT kvs)) : kvs.length ≤ sizeLine ∧ (a == sysModules) = false ∧
    ∃ xs, KT H kvs xs ∧ h.DictOfH (tupleKind (mixKind P w)) a xs := dt_rd ok (.inl e)
end
def DGet (H : Hp) (a : Addr) (y : V) (r : Option V) : Prop :=
  (∃ kvs k, Rd H a (.dK kvs) ∧ y = kV k ∧ r = valV kvs k) ∨ ∃ kvs k b, Rd H a (.dT kvs) ∧ y = .ref b ∧ H b = some (.tup (k.map kV)) ∧ r = valV kvs k
def DPut (H : Hp) (a : Addr) (y v : V) (H' : Hp) : Prop :=
  (∃ kvs k, H a = some (.dK kvs) ∧ y = kV k ∧ kvs.length < sizeLine ∧ H' = upd H a (.dK (putK kvs k v))) ∨
  ∃ kvs k b, H a = some (.dT kvs) ∧ y = .ref b ∧ H b = some (.tup (k.map kV)) ∧ kvs.length < sizeLine ∧ H' = upd H a (.dT (putK kvs k v))
theorem DGet.k {H : Hp} {a : Addr} {kvs : List (Key × V)} {k : Key} (e : H a = some (.dK kvs)) : DGet H a (kV k) (valV kvs k) := .inl ⟨kvs, k, .inl e, rfl, rfl⟩
theorem DGet.t {H : Hp} {a b : Addr} {kvs : List (List Key × V)} {k : List Key} (e : H a = some (.dT kvs)) (eb : H b = some (.tup (k.map kV))) : DGet H a (.ref b) (valV kvs k) := .inr ⟨kvs, k, b, .inl e, rfl, eb, rfl⟩
theorem DPut.k {H : Hp} {a : Addr} {kvs : List (Key × V)} {k : Key} {v : V} (e : H a = some (.dK kvs)) (hl : kvs.length < sizeLine) : DPut H a (kV k) v (upd H a (.dK (putK kvs k v))) := .inl ⟨kvs, k, e, rfl, hl, rfl⟩
theorem DPut.t {H : Hp} {a b : Addr} {kvs : List (List Key × V)} {k : List Key} {v : V} (e : H a = some (.dT kvs)) (eb : H b = some (.tup (k.map kV))) (hl : kvs.length < sizeLine) :
    DPut H a (.ref b) v (upd H a (.dT (putK kvs k v))) := .inr ⟨kvs, k, b, e, rfl, eb, hl, rfl⟩
section
variable {X : Cx} {pins : List (Addr × Obj)} {σ : St} {H : Hp} {s : Shared} {a : Addr} {y v : V} {u r : Value} {o : Option V} {A : Around} {E : Value → Shared → Prop}
theorem Inv.big (I : Inv X pins σ H s) : sysModules < s.heap.objs.size := by
  have h : mainGlobals < s.heap.objs.size := (I.mod.glob.keeps I.bk).lt
  exact Nat.lt_trans (by decide) h
theorem d_getItem {Q : Value → Shared → Prop} (hu : A.units + 1 < cLine) (I : Inv X pins σ H s) (g : DGet H a y (some v)) (ry : RelV y u) (h : ∀ w' s', Inv X pins σ H s' → RelV v w' → Q w' s') :
    wpAny (model X.prog X.w) A (getItem (.ref a) u) Q E s := by
  rcases g with ⟨kvs, k, e, ey, l⟩ | ⟨kvs, k, b, e, ey, eb, l⟩
  · subst ey
    obtain ⟨z, hd, vs, rel, dd⟩ := dk_rd I.hok e
    obtain ⟨w', hw, rw'⟩ := RelO.some_of (v := v) (o := valueAt vs k) (by rw [l]; exact rel.val k)
    exact wpAny_getItem_of (kV_is ry) dd.mapOf hw (h w' _ (I.tok _) rw')
  · subst ey
    cases (show u = Value.ref b from ry)
    obtain ⟨z, hd, xs, rel, dd⟩ := dt_rd I.hok e
    obtain ⟨w', hw, rw'⟩ := RelO.some_of (v := v) (o := (atKey xs k).map (·.2)) (by rw [l]; exact rel.val k)
    obtain ⟨p, hp, hp2⟩ := Option.map_eq_some_iff.mp hw
    refine wpAny_getItem_heap (tupleKind_room_in1 hu) (key_of I.hok eb) dd hp ?_
    rw [hp2]
    exact h w' _ (I.tok _) rw'
theorem d_in {Q : Value → Shared → Prop} (hu : A.units + 1 < cLine) (I : Inv X pins σ H s) (g : DGet H a y o) (ry : RelV y u) (h : ∀ s', Inv X pins σ H s' → Q (.bool o.isSome) s') :
    wpAny (model X.prog X.w) A (compareOp .In u (.ref a)) Q E s := by
  rcases g with ⟨kvs, k, e, ey, l⟩ | ⟨kvs, k, b, e, ey, eb, l⟩
  · subst ey
    obtain ⟨z, hd, vs, rel, dd⟩ := dk_rd I.hok e
    refine wpAny_in_of (kV_is ry) hd dd.mapOf ?_
    rw [← (rel.val k).isSome_eq, ← l]
    exact h _ (I.tok _)
  · subst ey
    cases (show u = Value.ref b from ry)
    obtain ⟨z, hd, xs, rel, dd⟩ := dt_rd I.hok e
    refine wpAny_in_heap (tupleKind_room_in1 hu) (key_of I.hok eb) hd dd ?_
    have q := (rel.val k).isSome_eq
    rw [Option.isSome_map] at q
    rw [← q, ← l]
    exact h _ (I.tok _)
theorem d_notIn {Q : Value → Shared → Prop} (hu : A.units + 1 < cLine) (I : Inv X pins σ H s) (g : DGet H a y o) (ry : RelV y u) (h : ∀ s', Inv X pins σ H s' → Q (.bool (!o.isSome)) s') :
    wpAny (model X.prog X.w) A (compareOp .NotIn u (.ref a)) Q E s := by
  rcases g with ⟨kvs, k, e, ey, l⟩ | ⟨kvs, k, b, e, ey, eb, l⟩
  · subst ey
    obtain ⟨z, hd, vs, rel, dd⟩ := dk_rd I.hok e
    refine wpAny_notIn_of (kV_is ry) hd dd.mapOf ?_
    rw [← (rel.val k).isSome_eq, ← l]
    exact h _ (I.tok _)
  · subst ey
    cases (show u = Value.ref b from ry)
    obtain ⟨z, hd, xs, rel, dd⟩ := dt_rd I.hok e
    refine wpAny_notIn_heap (tupleKind_room_in1 hu) (key_of I.hok eb) hd dd ?_
    have q := (rel.val k).isSome_eq
    rw [Option.isSome_map] at q
    rw [← q, ← l]
    exact h _ (I.tok _)
theorem d_write {h' : Heap} {t' : Nat} {ob : HO} (I : Inv X pins σ H s) (mu : Mut (H a)) (hs : Heap.SameBut a s.heap h') (he : ∃ q, h'.get? a = some q) (new : ObjOk X.prog X.w (upd H a ob) h' a ob) :
    Inv X pins σ (upd H a ob) { s with heap := h', toks := t' } :=
  I.write (x := a) (e := a) mu (.inl rfl) (fun b q hb z => (hs.2 b hb).trans z) he new
theorem dk_new {P : Program} {w : World} {H' : Hp} {h' : Heap} {kvs : List (Key × V)} {vs : List (Key × Value)} (z : kvs.length ≤ sizeLine) (hd : (a == sysModules) = false) (rel : KV kvs vs) (dd : h'.DictOf (mixKind P w) a vs) :
    ObjOk P w H' h' a (.dK kvs) := ⟨z, hd, vs, rel, dd⟩
theorem d_setItem {H' : Hp} {Q : Unit → Shared → Prop} (hu : A.units + 1 < cLine) (I : Inv X pins σ H s) (g : DPut H a y v H') (ry : RelV y u) (rv : RelV v r) (h : ∀ s', Inv X pins σ H' s' → Q () s') :
    wpAny (model X.prog X.w) A (setItem (.ref a) u r) Q E s := by
  rcases g with ⟨kvs, k, e, ey, l, eH⟩ | ⟨kvs, k, b, e, ey, eb, l, eH⟩
  · subst ey eH
    obtain ⟨z, hd, vs, rel, dd⟩ := dk_of I.hok e
    have hz : vs.length ≤ sizeLine := by rw [← rel.length]; exact z
    have hl : (putK kvs k v).length ≤ sizeLine := by have := length_putK kvs k v; omega
    refine wpAny_setItem_pairs (hsz := hz) (kV_is ry) dd fun h' dd' hs => h _ ?_
    have he : ∃ q, h'.get? a = some q := let ⟨q, _, _, hq, _⟩ := dd'; ⟨q, hq⟩
    exact d_write I (by rw [e]; exact True.intro) hs he (dk_new hl hd (rel.put k rv) dd')
  · subst ey eH
    cases (show u = Value.ref b from ry)
    obtain ⟨z, hd, xs, rel, dd⟩ := dt_of I.hok e
    have hz : xs.length ≤ sizeLine := by rw [← Paired.length rel]; exact z
    have hl : (putK kvs k v).length ≤ sizeLine := by have := length_putK kvs k v; omega
    refine wpAny_setItem_heap (hsz := hz) (tupleKind_room_in1 hu) (key_of I.hok eb) dd fun h' dd' hs => h _ ?_
    obtain ⟨q, es, ep, hq, h2, h3, h4, _, h5⟩ := dd'
    refine d_write I (by rw [e]; exact True.intro) hs ⟨q, hq⟩ ⟨hl, hd, _, (rel.put k eb rv).keeps fun c ys ec => ?_, q, es, ep, hq, h2, h3, h4, h5⟩
    rw [upd_ne (ne_of ec e (fun z => nomatch z))]
    exact ec
end
section
variable {X : Cx} {pins : List (Addr × Obj)} {σ : St} {H : Hp} {s : Shared} {a : Addr} {kvs : List (Key × V)} {k : Key} {u : Value} {A : Around} {E : Value → Shared → Prop}
end
def NoSl (i : Expr) : Prop := ∀ ov iv, subscripted i false ov iv = operate [ov, iv] (getItem ov iv)
theorem subD_of {prog : Program} {w : World} {A : Around} {E : Value → Shared → Prop} {s : Shared} {env : Env} {value slice : Expr} {pos : Pos} {T id : String} {Q : Value → Shared → Prop}
    (hl : typeLookup (.type T) "__getitem__" = pure (some (.builtin id))) (hs : NoSl slice)
    (h : wpAny (model prog w) A (eval value env) (fun o s₁ => wpAny (model prog w) A (eval slice env) (fun i s₂ => s₂.TypeIs o T ∧ wpAny (model prog w) A (getItem o i) Q E s₂) E s₁) E s) :
    wpAny (model prog w) A (eval (.Subscript value slice pos) env) Q E s := by
  refine Subscript_ (wpAny_mono h (fun o s₁ h₁ => wpAny_mono h₁ (fun i s₂ h₂ => ?_) fun _ _ x => x) fun _ _ x => x)
  obtain ⟨hT, h₂⟩ := h₂
  unfold subscriptTail
  refine wpAny_bind ?_
  rw [getitemInPython_of_ne hT.not_modules]
  refine wpAny_bind (wpAny_specialOf hT hl ?_)
  have fin : wpAny (model prog w) A (subscripted slice false o i) (fun r s₃ => wpAny (model prog w) A (letTemporaryGo value o r >>= fun _ => pure r) Q E s₃) E s₂ := by
    rw [hs o i]
    exact wpAny_operating (wpAny_mono h₂ (fun r s₃ h₃ => wpAny_bind (wpAny_letTemporaryGo (wpAny_pure h₃))) fun _ _ x => x)
  first
    | exact wpAny_pure (wpAny_bind fin)
    | exact wpAny_bind (wpAny_pure (wpAny_bind fin))
    | exact wpAny_bind fin
theorem dict_typeIs {X : Cx} {pins : List (Addr × Obj)} {σ : St} {H : Hp} {s : Shared} {a : Addr} {y : V} {o : Option V} (I : Inv X pins σ H s) (g : DGet H a y o) : s.TypeIs (.ref a) "dict" := by
  rcases g with ⟨kvs, k, e, _, _⟩ | ⟨kvs, k, b, e, _, _, _⟩
  · obtain ⟨_, _, vs, _, dd⟩ := dk_rd I.hok e
    exact dd.typeIs
  · obtain ⟨_, _, xs, _, dd⟩ := dt_rd I.hok e
    exact dd.typeIs
def tDGet (td ty : TE) : TE := fun σ H Q => td σ H fun x H1 => ty σ H1 fun y H2 => ∃ a v, x = .ref a ∧ DGet H2 a y (some v) ∧ Q v H2
def tDIn (ty td : TE) : TE := fun σ H Q => ty σ H fun y H1 => td σ H1 fun x H2 => ∃ a o, x = .ref a ∧ DGet H2 a y o ∧ Q (.bl o.isSome) H2
def tDNotIn (ty td : TE) : TE := fun σ H Q => ty σ H fun y H1 => td σ H1 fun x H2 => ∃ a o, x = .ref a ∧ DGet H2 a y o ∧ Q (.bl (!o.isSome)) H2
def sDPut (td ty tv : TE) : TS := fun D σ H => tv σ H fun v H1 => td σ H1 fun x H2 => ty σ H2 fun y H3 => ∃ a H4, x = .ref a ∧ DPut H3 a y v H4 ∧ D.nx σ H4
section
variable {X : Cx} {o i e value : Expr} {pos pos' tpos : Pos} {td ty tv : TE}
theorem pe_dget (hu : X.A.units + 1 < cLine) (ho : PE X o td) (hi : PE X i ty) (hs : NoSl i) : PE X (.Subscript o i pos) (tDGet td ty) := by
  intro pins s σ H Q I h
  refine subD_of PySem.F.slot_dict_getitem.lookup hs (thn (ho pins s σ H _ I h) fun u s1 ⟨x, H1, I1, rx, q1⟩ => thn (hi pins s1 σ H1 _ I1 q1) fun iv s2 ⟨y, H2, I2, ry, a, v, ex, g, q2⟩ => ?_)
  subst ex
  obtain rfl : u = Value.ref a := rx
  exact ⟨dict_typeIs I2 g, d_getItem hu I2 g ry fun w' s3 I3 rw' => ⟨v, H2, I3, rw', q2⟩⟩
theorem pc_din (hu : X.A.units + 1 < cLine) (hi : PE X i ty) (ho : PE X o td) : PC X .In i o (tDIn ty td) := by
  intro pins s σ H Q I h
  refine thn (hi pins s σ H _ I h) fun iv s1 ⟨y, H1, I1, ry, q1⟩ => thn (ho pins s1 σ H1 _ I1 q1) fun u s2 ⟨x, H2, I2, rx, a, ov, ex, g, q2⟩ => ?_
  subst ex
  obtain rfl : u = Value.ref a := rx
  exact d_in hu I2 g ry fun s3 I3 => ⟨.bl ov.isSome, H2, I3, rfl, q2⟩
theorem pc_dnotin (hu : X.A.units + 1 < cLine) (hi : PE X i ty) (ho : PE X o td) : PC X .NotIn i o (tDNotIn ty td) := by
  intro pins s σ H Q I h
  refine thn (hi pins s σ H _ I h) fun iv s1 ⟨y, H1, I1, ry, q1⟩ => thn (ho pins s1 σ H1 _ I1 q1) fun u s2 ⟨x, H2, I2, rx, a, ov, ex, g, q2⟩ => ?_
  subst ex
  obtain rfl : u = Value.ref a := rx
  exact d_notIn hu I2 g ry fun s3 I3 => ⟨.bl (!ov.isSome), H2, I3, rfl, q2⟩
theorem ps_dput (hu : X.A.units + 1 < cLine) (ho : PE X o td) (hi : PE X i ty) (hv : PE X value tv) (hs : swapsWith value (some (.Subscript o i pos')) pos.line X.env = pure false) :
    PS X (.Assign [.Subscript o i pos'] value pos) (sDPut td ty tv) := by
  intro pins s σ H D I h
  refine wpAny_Assign_Subscript (thn (hv pins s σ H _ I h) fun r s1 ⟨v, H1, I1, rv, q1⟩ => thn (ho pins s1 σ H1 _ I1 q1) fun u s2 ⟨x, H2, I2, rx, q2⟩ => thn (hi pins s2 σ H2 _ I2 q2) fun iv s3 ⟨y, H3, I3, ry, a, H4, ex, g, q3⟩ => ?_) hs
  subst ex
  obtain rfl : u = Value.ref a := rx
  exact d_setItem hu I3 g ry rv fun s4 I4 => ⟨σ, H4, I4, q3⟩
end
theorem dk_empty {P : Program} {w : World} {H : Hp} (h : Heap) (hb : sysModules < h.objs.size) : ObjOk P w H (h.push { cls := .type "dict", data := .dict #[] }) h.objs.size (.dK []) :=
  ⟨Nat.zero_le _, beq_eq_false_iff_ne.mpr (Ne.symm (Nat.ne_of_lt hb)), [], .nil, Heap.DictOf.new h⟩
theorem dt_empty {P : Program} {w : World} {H : Hp} (h : Heap) (hb : sysModules < h.objs.size) : ObjOk P w H (h.push { cls := .type "dict", data := .dict #[] }) h.objs.size (.dT []) :=
  ⟨Nat.zero_le _, beq_eq_false_iff_ne.mpr (Ne.symm (Nat.ne_of_lt hb)), [], .nil, _, #[], 0, Heap.get?_push_size _ rfl, ⟨rfl, rfl, rfl⟩, rfl, rfl, List.nodup_nil⟩
def tDNewK : TE := fun _ H Q => ∀ p, H p = none → Q (.ref p) (upd H p (.dK []))
def tDNewT : TE := fun _ H Q => ∀ p, H p = none → Q (.ref p) (upd H p (.dT []))
section
variable {X : Cx} {pos : Pos}
theorem pe_dnewK : PE X (.Dict [] [] pos) tDNewK := fun pins s σ H Q I h =>
  wpAny_Dict_empty ⟨.ref s.heap.objs.size, _, I.laid (a := s.heap.objs.size) (o := .dK []) (t' := s.toks) (fun _ _ q => Heap.get?_push_of_some _ q) (Nat.le_refl _) (dk_empty s.heap I.big), rfl, h _ (I.hok.fresh (Nat.le_refl _))⟩
theorem pe_dnewT : PE X (.Dict [] [] pos) tDNewT := fun pins s σ H Q I h =>
  wpAny_Dict_empty ⟨.ref s.heap.objs.size, _, I.laid (a := s.heap.objs.size) (o := .dT []) (t' := s.toks) (fun _ _ q => Heap.get?_push_of_some _ q) (Nat.le_refl _) (dt_empty s.heap I.big), rfl, h _ (I.hok.fresh (Nat.le_refl _))⟩
end
def tPairs : List (TE × TE) → St → Hp → (List (V × V) → Hp → Prop) → Prop
  | [], _, H, Q => Q [] H
  | (tk, tv) :: r, σ, H, Q => tk σ H fun x H1 => tv σ H1 fun y H2 => tPairs r σ H2 fun ps H3 => Q ((x, y) :: ps) H3
abbrev VV : List (V × V) → List (Value × Value) → Prop := Paired fun p q => RelV p.1 q.1 ∧ RelV p.2 q.2
def PPs (X : Cx) (pos : Pos) (keys : List (Option Expr)) (values : List Expr) (trs : List (TE × TE)) : Prop :=
  ∀ (pins : List (Addr × Obj)) (s : Shared) (σ : St) (H : Hp) (Q : List (V × V) → Hp → Prop), Inv X pins σ H s → tPairs trs σ H Q →
    wpAny (model X.prog X.w) X.A (evalPairs (pairTrees keys values X.env pos)) (fun vs s' => ∃ ps H', Inv X pins σ H' s' ∧ VV ps vs ∧ Q ps H') X.xe s
theorem pps_nil {X : Cx} {pos : Pos} : PPs X pos [] [] [] := fun pins s σ H Q I h => pairTrees_nil_walk ⟨[], H, I, .nil, h⟩
theorem pps_cons {X : Cx} {pos : Pos} {k v : Expr} {ks : List (Option Expr)} {vs : List Expr} {tk tv : TE} {trs : List (TE × TE)} (hk : PE X k tk) (hv : PE X v tv) (hr : PPs X pos ks vs trs) :
    PPs X pos (some k :: ks) (v :: vs) ((tk, tv) :: trs) := fun pins s σ H Q I h =>
  pairTrees_cons_walk (thn (hk pins s σ H _ I h) fun u s1 ⟨x, H1, I1, rx, q1⟩ => thn (hv pins s1 σ H1 _ I1 q1) fun w2 s2 ⟨y, H2, I2, ry, q2⟩ =>
    thn (hr pins s2 σ H2 _ I2 q2) fun ws s3 ⟨ps, H3, I3, rel, q3⟩ => ⟨(x, y) :: ps, H3, I3, .cons ⟨rx, ry⟩ rel, q3⟩)
def mergeK (kvs more : List (Key × V)) : List (Key × V) := more.foldl (fun acc kv => putK acc kv.1 kv.2) kvs
theorem KV.merge : ∀ {more : List (Key × V)} {rs : List (Key × Value)} {kvs : List (Key × V)} {vs : List (Key × Value)}, KV more rs → KV kvs vs → KV (mergeK kvs more) (merged vs rs) := by
  intro more rs kvs vs r
  unfold KV at r
  induction r generalizing kvs vs with
  | nil => intro q; exact q
  | @cons p q ps qs h t ih =>
    intro r0
    have e : KV (putK kvs p.1 p.2) (stored vs q.1 q.2) := by
      have := r0.put p.1 h.2
      rw [← h.1]; exact this
    exact ih e
theorem length_mergeK : ∀ (more kvs : List (Key × V)), (mergeK kvs more).length ≤ kvs.length + more.length
  | [], kvs => by show kvs.length ≤ kvs.length + 0; omega
  | p :: r, kvs => by
    have h1 := length_mergeK r (putK kvs p.1 p.2)
    have h2 := length_putK kvs p.1 p.2
    show (mergeK (putK kvs p.1 p.2) r).length ≤ _
    rw [List.length_cons]; omega
theorem carries_of {P : Program} {w : World} : ∀ {kvs : List (Key × V)} {ws : List (Value × Value)}, VV (kvs.map fun kv => (kV kv.1, kv.2)) ws → ∃ rs, Carries (mixKind P w) ws rs ∧ KV kvs rs
  | [], _, r => by rw [List.map_nil] at r; cases r; exact ⟨[], True.intro, .nil⟩
  | p :: kvs, _, r => by
    rw [List.map_cons] at r
    cases r with
    | @cons a b as bs h t =>
      obtain ⟨rs, c, q⟩ := carries_of (P := P) (w := w) t
      obtain ⟨b1, b2⟩ := b
      exact ⟨(p.1, b2) :: rs, ⟨kV_is h.1, rfl, c⟩, .cons ⟨rfl, h.2⟩ q⟩
def tDisp (trs : List (TE × TE)) : TE := fun σ H Q => ∀ p, H p = none → tPairs trs σ (upd H p (.dK [])) fun ps H2 => H2 p = some (.dK []) ∧ ∃ kvs : List (Key × V), ps = kvs.map (fun kv => (kV kv.1, kv.2)) ∧ kvs.length ≤ 15 ∧ Q (.ref p) (upd H2 p (.dK (mergeK [] kvs)))
theorem pe_disp {X : Cx} {pos : Pos} {keys : List (Option Expr)} {values : List Expr} {trs : List (TE × TE)} (h : PPs X pos keys values trs) (hall : keys.all (·.isSome) = true) (hl : keys.length = values.length) (h0 : keys ≠ [])
    (h15 : keys.length ≤ 15) : PE X (.Dict keys values pos) (tDisp trs) := by
  intro pins s σ H Q I q
  have hn := I.hok.fresh (Nat.le_refl s.heap.objs.size)
  have I1 := I.laid (a := s.heap.objs.size) (o := .dK []) (h' := s.heap.push { cls := .type "dict", data := .dict #[] }) (t' := s.toks) (fun _ _ q => Heap.get?_push_of_some _ q) (Nat.le_refl _) (dk_empty s.heap I.big)
  refine wpAny_Dict_walk (knd := mixKind X.prog X.w) hall hl h0 h15 (thn (h pins _ σ _ _ I1 (q _ hn)) fun ws s2 ⟨ps, H2, I2, rel, e, kvs, ep, lk, q2⟩ => ?_)
  subst ep
  obtain ⟨rs, c, rk⟩ := carries_of (P := X.prog) (w := X.w) rel
  obtain ⟨z, hd, vs0, r0, dd⟩ := dk_of I2.hok e
  cases r0
  refine ⟨rs, c, dd, fun h' dd' hs => ⟨.ref s.heap.objs.size, _, ?_, rfl, q2⟩⟩
  have hz : (mergeK [] kvs).length ≤ sizeLine := by
    have h1 := length_mergeK kvs []
    rw [List.length_nil] at h1
    rw [sizeLine_eq]; omega
  have he : ∃ q, h'.get? s.heap.objs.size = some q := let ⟨q, _, _, hq, _⟩ := dd'; ⟨q, hq⟩
  exact d_write I2 (by rw [e]; exact True.intro) hs he (dk_new hz hd (rk.merge .nil) dd')
structure M2 (X : Cx) (o : Expr) (m : Str) (apos : Pos) (e f : Expr) (cpos : Pos) : Prop where
  base : attributeBase o m X.env (eval o X.env) = eval o X.env
  few : ((backTo cpos (starEach [e, f] X.env)).all (fun x => !x.1) && (backToKw cpos (keywordEach [] X.env)).all (fun x => x.1.isSome)
    && decide (([e, f] : List Expr).length + ([] : List Keyword).length + (if ([] : List Keyword).isEmpty then 0 else 1) < 30)) = true
  line : (apos.endLine == cpos.line) = true
  trees : backTo cpos (starEach [e, f] X.env) = [(false, eval e X.env), (false, eval f X.env)]
def IsD (H : Hp) (a : Addr) : Prop := (∃ kvs, Rd H a (.dK kvs)) ∨ ∃ kvs, Rd H a (.dT kvs)
theorem isD_at {X : Cx} {pins : List (Addr × Obj)} {σ : St} {H : Hp} {s : Shared} {a : Addr} (I : Inv X pins σ H s) (d : IsD H a) :
    s.TypeIs (.ref a) "dict" ∧ (∀ b, Value.ref a = .ref b → ∃ ob, s.heap.get? b = some ob ∧ ob.dict = none) ∧ (a == sysModules) = false := by
  rcases d with ⟨kvs, e⟩ | ⟨kvs, e⟩
  · obtain ⟨_, hd, vs, _, dd⟩ := dk_rd I.hok e
    refine ⟨dd.typeIs, fun b q => ?_, hd⟩
    cases q
    obtain ⟨ob, _, _, h1, h2, _⟩ := dd
    exact ⟨ob, h1, h2.2.1⟩
  · obtain ⟨_, hd, xs, _, dd⟩ := dt_rd I.hok e
    refine ⟨dd.typeIs, fun b q => ?_, hd⟩
    cases q
    obtain ⟨ob, _, _, h1, h2, _⟩ := dd
    exact ⟨ob, h1, h2.2.1⟩
section
variable {X : Cx} {pins : List (Addr × Obj)} {σ : St} {H : Hp} {s : Shared} {a : Addr} {y d : V} {u r : Value} {o : Option V} {A : Around} {E : Value → Shared → Prop}
theorem d_get2 {Q : Value → Shared → Prop} (hu : A.units + 1 < cLine) (I : Inv X pins σ H s) (g : DGet H a y o) (ry : RelV y u) (rd : RelV d r) (h : ∀ w' s', Inv X pins σ H s' → RelV (o.getD d) w' → Q w' s') :
    wpAny (model X.prog X.w) A (call (.builtin "dict.get") [.ref a, u, r]) Q E s := by
  rcases g with ⟨kvs, k, e, ey, l⟩ | ⟨kvs, k, b, e, ey, eb, l⟩
  · subst ey
    obtain ⟨z, hd, vs, rel, dd⟩ := dk_rd I.hok e
    refine call_meetsIn PySem.F.slot_dict_get dd.typeIs PySem.F.entry_dict_get (PySem.F.args_dict_get_3 _ _ _) (meets_dict_get_default (mixKind X.prog X.w) a (kV_is ry) hd r) ⟨_, dd.mapOf, h _ _ (I.tok _) ?_⟩
    rw [l]
    exact (rel.val k).getD rd
  · subst ey
    cases (show u = Value.ref b from ry)
    obtain ⟨z, hd, xs, rel, dd⟩ := dt_rd I.hok e
    refine call_meetsIn PySem.F.slot_dict_get dd.typeIs PySem.F.entry_dict_get (PySem.F.args_dict_get_3 _ _ _) (meetsH_dict_get_default (tupleKind (mixKind X.prog X.w)) a b hd r) ⟨tupleKind_room_in1 hu, k, xs, key_of I.hok eb, dd, h _ _ (I.tok _) ?_⟩
    rw [l]
    exact (rel.val k).getD rd
end
def tDGet2 (td ty tx : TE) : TE := fun σ H Q => td σ H fun x H1 => ∃ a, x = .ref a ∧ IsD H1 a ∧ ty σ H1 fun y H2 => tx σ H2 fun z H3 => ∃ o, DGet H3 a y o ∧ Q (o.getD z) H3
section
variable {X : Cx} {o e f : Expr} {apos cpos : Pos} {td ty tx : TE}
theorem pe_dget2 (hu : X.A.units + 1 < cLine) (ho : PE X o td) (he : PE X e ty) (hf : PE X f tx) (m : M2 X o "get" apos e f cpos) : PE X (.Call (.Attribute o "get" apos) [e, f] [] cpos) (tDGet2 td ty tx) := by
  intro pins s σ H Q I h
  refine wpAny_Call_method m.base m.few m.line PySem.F.plainAttrs_dict PySem.F.slot_dict_get PySem.F.type_dict_get (thn (ho pins s σ H _ I h) fun u s1 ⟨x, H1, I1, rx, a, ex, d, q1⟩ => ?_)
  subst ex
  obtain rfl : u = Value.ref a := rx
  obtain ⟨t1, t2, _⟩ := isD_at I1 d
  refine ⟨t1, t2, ?_⟩
  rw [m.trees]
  refine Calls.callWith_builtin rfl (Calls.evalArgs_plain (Calls.spliced_cons (thn (he pins s1 σ H1 _ I1 q1) fun iv s2 ⟨y, H2, I2, ry, q2⟩ =>
    Calls.spliced_cons (thn (hf pins s2 σ H2 _ I2 q2) fun fv s3 ⟨z, H3, I3, rz, ov, g, q3⟩ => Calls.spliced_nil ?_))))
  exact d_get2 hu I3 g ry rz fun w' s4 I4 rw' => ⟨_, H3, I4, rw', q3⟩
end
section
variable {X : Cx} {pins : List (Addr × Obj)} {σ : St} {H : Hp} {s : Shared} {a : Addr} {kvs : List (Key × V)} {A : Around} {E : Value → Shared → Prop}
end
section
variable {X : Cx} {pins : List (Addr × Obj)} {σ : St} {H : Hp} {s : Shared} {a : Addr} {y : V} {u : Value} {A : Around} {E : Value → Shared → Prop}
end
end L2
namespace L2
open PySem PySem.Spec PyProof.Rows
section
variable {prog : Program} {w : World} {A : Around} {E : Value → Shared → Prop}
end
section
variable {X : Cx}
theorem refs_at : ∀ {ps : List Addr} {us : List Value}, Vals (ps.map V.ref) us → us = ps.map Value.ref
  | [], us, r => by
    rw [List.map_nil] at r
    cases r
    rfl
  | p :: ps, us, r => by
    rw [List.map_cons] at r
    cases r with
    | cons h t =>
      cases h
      rw [List.map_cons, ← refs_at t]
end
end L2
namespace L2
open PySem PySem.Spec PyProof.Rows
section
variable {X : Cx} {pins : List (Addr × Obj)} {σ : St} {H : Hp} {s : Shared} {h' : Heap}
theorem Inv.turnedNew {t' : Nat} {ch : List Addr} {T : Addr} {ob : HO} (I : Inv X pins σ H s) (k : ∀ b o, b ∉ ch → s.heap.get? b = some o → h'.get? b = some o) (hf : ∀ b ∈ ch, FpOk X pins H b) (hT : s.heap.objs.size ≤ T)
    (new : ObjOk X.prog X.w (upd H T ob) h' T ob) : Inv X pins σ (upd H T ob) { s with heap := h', toks := t' } := by
  have hn : H T = none := I.hok.fresh hT
  have nit : ∀ b u, H b = some u → b ∉ ch := fun b u e z => by
    have q := (hf b z).1
    rw [q] at e; cases e
  refine I.step (g' := s.gens) (d' := s.drawn) (ch := ch) (fun b hb => ⟨(hf b hb).2.2.2.1, (hf b hb).2.1, (hf b hb).2.2.2.2.1, (hf b hb).2.2.2.2.2⟩) (fun b o _ _ hc e _ => k b o hc e) (fun b o _ _ hc e _ => ⟨o.slots, k b o hc e⟩)
    (fun b o _ e n => ?_) (fun b o hc e => ⟨o, k b o hc e⟩) (fun b xs e => ?_) (fun b o u e => ?_) (fun b ps e => ⟨#[], ?_⟩) (fun m hm => ?_) (fun b u e => ?_) I.bare
  · rw [upd_ne (Nat.ne_of_lt (Nat.lt_of_lt_of_le (Heap.lt_size e) hT))]; exact n
  · rw [upd_ne (ne_of_none e hn)]; exact e
  · rw [upd_ne (ne_of_none e hn)]; exact e
  · rw [upd_ne (ne_of_none e hn), e]; simp
  · obtain ⟨o, es, ep, ho, r⟩ := hm
    exact ⟨o, es, ep, k _ o (fun z => (hf _ z).2.1 rfl) ho, r⟩
  · by_cases hb : b = T
    · subst hb
      rw [upd_same] at e
      cases e
      exact new
    · rw [upd_ne hb] at e
      refine (I.hok b u e).stay (fun c v hc q => k c v ?_ q) (fun c q => by rw [upd_ne (ne_of_none q hn)]; exact q) fun c xs q => by rw [upd_ne (ne_of_none q hn)]; exact q
      rcases hc with z | z
      · rw [z]; exact nit b u e
      · exact nit c _ z
theorem Inv.lock {d : Addr} {u : HO} (I : Inv X pins σ H s) (h : H d = some u) (mu : Mut (some u)) : ∃ od, Inv X pins σ (upd H d (.frz od u)) s := by
  have x := I.hok d u h
  have ex : ∃ od, s.heap.get? d = some od := by
    cases u with
    | lst xs => obtain ⟨_, _, _, _, e⟩ := x; exact ⟨_, e⟩
    | dK kvs => obtain ⟨_, _, _, _, o, _, _, e, _⟩ := x; exact ⟨o, e⟩
    | dT kvs => obtain ⟨_, _, _, _, o, _, _, e, _⟩ := x; exact ⟨o, e⟩
    | set S n => obtain ⟨o, _, _, _, e, _⟩ := x; exact ⟨o, e⟩
    | ins C dx fs => obtain ⟨_, _, _, e, _⟩ := x; exact ⟨_, e⟩
    | ext φ => obtain ⟨_, ⟨_, e⟩, _⟩ := x; exact ⟨_, e⟩
    | _ => exact False.elim mu
  obtain ⟨od, e⟩ := ex
  have new : ObjOk X.prog X.w (upd H d (.frz od u)) s.heap d (.frz od u) := by
    refine ⟨e, x.stay (fun b v _ q => q) (fun b q => ?_) fun b xs q => ?_⟩
    · rw [upd_ne (fun z => by rw [z, h] at q; cases q; exact mu)]; exact q
    · rw [upd_ne (fun z => by rw [z, h] at q; cases q; exact mu)]; exact q
  exact ⟨od, I.write (x := d) (e := d) (t' := s.toks) (h' := s.heap) (by rw [h]; exact mu) (.inl rfl) (fun b v _ q => q) ⟨od, e⟩ new⟩
theorem Inv.nofrz {d : Addr} {u : HO} (I : Inv X pins σ H s) (h : H d = some u) (mu : Mut (some u)) : ∀ o' u', X.H_0 d ≠ some (.frz o' u') := fun o' u' e => by
  have q := I.base.frzs d o' u' e
  rw [h] at q
  cases q
  exact mu
theorem Inv.unlock {d : Addr} {od : Obj} {u : HO} (I : Inv X pins σ H s) (h : H d = some (.frz od u)) (hn : ∀ o' u', X.H_0 d ≠ some (.frz o' u')) : Inv X pins σ (upd H d u) s := by
  have neH : ∀ b o, H b = some o → (∀ o' u', o ≠ .frz o' u') → b ≠ d := fun b o e hne z => by
    rw [z, h] at e
    cases e
    exact hne _ _ rfl
  have neN : ∀ b, H b = none → b ≠ d := fun b e z => by rw [z, h] at e; cases e
  refine ⟨I.ok, I.os, I.bare, ⟨I.base.keep, I.base.slot, fun b o e n hx => ?_, I.base.there, fun b xs e => ?_, fun b o x e => ?_, fun b ps e => ?_⟩, I.loc, I.cell, ?_, fun x c e => ?_, fun p hp => ?_, fun b o e => ?_, I.len⟩
  · rw [upd_ne (neN b (I.base.free b o e n hx))]; exact I.base.free b o e n hx
  · have q := I.base.tups b xs e
    rw [upd_ne (neH b _ q (fun _ _ z => nomatch z))]; exact q
  · have q := I.base.frzs b o x e
    rw [upd_ne (fun z => by rw [z] at e; exact hn _ _ e)]; exact q
  · obtain ⟨m, q⟩ := I.base.tbls b ps e
    exact ⟨m, by rw [upd_ne (neH b _ q (fun _ _ z => nomatch z))]; exact q⟩
  · rw [upd_ne (neN _ I.free)]; exact I.free
  · rw [upd_ne (neN c (I.freeC x c e))]; exact I.freeC x c e
  · obtain ⟨e, n, r⟩ := I.pin p hp
    exact ⟨e, by rw [upd_ne (neN _ n)]; exact n, r⟩
  · by_cases hb : b = d
    · rw [hb, upd_same] at e
      cases e
      rw [hb]
      obtain ⟨_, x⟩ := I.hok d _ h
      exact x.stay (fun c v _ q => q) (fun c q => by rw [upd_ne (neH c _ q (fun _ _ z => nomatch z))]; exact q) fun c xs q => by rw [upd_ne (neH c _ q (fun _ _ z => nomatch z))]; exact q
    · rw [upd_ne hb] at e
      exact (I.hok b o e).stay (fun c v _ q => q) (fun c q => by rw [upd_ne (neH c _ q (fun _ _ z => nomatch z))]; exact q) fun c xs q => by rw [upd_ne (neH c _ q (fun _ _ z => nomatch z))]; exact q
end
def tLock (t : TS) : TS := fun D σ H => ∃ d u, H d = some u ∧ Mut (some u) ∧ ∀ od, t ⟨fun σ' H' => H' d = some (.frz od u) ∧ D.nx σ' (upd H' d u), fun v H' => H' d = some (.frz od u) ∧ D.rt v (upd H' d u), fun σ' H' => H' d = some (.frz od u) ∧ D.bk σ' (upd H' d u), fun σ' H' => H' d = some (.frz od u) ∧ D.ct σ' (upd H' d u)⟩ σ (upd H d (.frz od u))
section
variable {X : Cx}
theorem ps_lock {st : Stmt} {t : TS} (h : PS X st t) : PS X st (tLock t) := by
  intro pins s σ H D I hw
  obtain ⟨d, u, hd, mu, hw⟩ := hw
  obtain ⟨od, I1⟩ := I.lock hd mu
  refine thn (h pins s σ _ _ I1 (hw od)) fun f s1 q => ?_
  cases f with
  | next => obtain ⟨σ', H', I2, e, q⟩ := q; exact ⟨σ', _, I2.unlock e (I.nofrz hd mu), q⟩
  | brk => obtain ⟨σ', H', I2, e, q⟩ := q; exact ⟨σ', _, I2.unlock e (I.nofrz hd mu), q⟩
  | cont => obtain ⟨σ', H', I2, e, q⟩ := q; exact ⟨σ', _, I2.unlock e (I.nofrz hd mu), q⟩
  | ret v => obtain ⟨x, σ', H', I2, r, e, q⟩ := q; exact ⟨x, σ', _, I2.unlock e (I.nofrz hd mu), r, q⟩
theorem pi_one {tg : Expr} {pins : List (Addr × Obj)} {σ : St} {H : Hp} {s : Shared} {R : It → Hp → Prop} {J : It} {tn : Nat → Heap → Prop} {tk : Nat} (I : Inv X pins σ H s) (o : Obj)
    (T : Turn X.prog X.w X.K tg J [s.heap.objs.size] s.heap.objs.size tn) (st : tn 0 (s.heap.push o)) (q : R J H) : PIE X pins σ tg R (.ref s.heap.objs.size) { s with heap := s.heap.push o, toks := tk } := by
  refine ⟨s.heap.objs.size, [s.heap.objs.size], tn, J, H, rfl, I.kept fun b ob e => Heap.get?_push_of_some _ e, T, st, fun b hb => ?_, q⟩
  have e : b = s.heap.objs.size := by simpa using hb
  subst e
  exact I.fpOk (Nat.le_refl _) (I.hok.fresh (Nat.le_refl _))
end
def Itc (lo c : Int) (n : Nat) : It := ⟨fun i _ => i < n, fun i H x H' => H' = H ∧ x = .int (lo + (i : Nat) * c), fun i _ => n ≤ i⟩
theorem turn_rangeC {P : Program} {w : World} {K : PySem.W.Frag} {tg : Expr} (it : Addr) (lo c : Int) (n : Nat) : Turn P w K tg (Itc lo c n) [it] it (fun i h => IsRangeIter h it (lo + (i : Nat) * c) ((n : Int) - (i : Nat)) c) where
  mem := by simp
  obj := fun i h st b hb => by
    have e : b = it := by simpa using hb
    subst e
    exact ⟨_, st, fun v z => nomatch z⟩
  keep := fun i h h' st k => k it (by simp) _ st
  item := by
    intro X hP hw hK hc i pins s σ H E I hf st hg
    subst hP hw hK
    obtain ⟨f0, f1, f2, f3, f4, f5⟩ := hf it (by simp)
    have W := Walks.range (prog := X.prog) (w := X.w) (I.ok.hd hc) it lo c n
    refine W.item i s _ _ hg st fun v h' tk hv st' kk => ?_
    obtain ⟨t, rfl⟩ := hv
    have I1 : Inv X pins σ H { s with heap := h', toks := tk } := I.turned (fun b o hb e => kk b o (by simpa using hb) e) f0 f1 f3 f4 f5
    exact ⟨_, rfl, go_of (s := { s with heap := h', toks := tk }) (n := "range_iterator") st' rfl rfl (by decide) ⟨.int (lo + (i : Nat) * c), H, I1, ⟨t, rfl⟩, ⟨rfl, rfl⟩, st', fun b hb => (hf b hb).1⟩⟩
  done := by
    intro X hP hw hK hc i pins s σ H E I hf st hg
    subst hP hw hK
    obtain ⟨f0, f1, f2, f3, f4, f5⟩ := hf it (by simp)
    exact wpAny_pyNext_range_end (I.ok.hd hc) st (by have : n ≤ i := hg; omega) fun h' eb => ⟨rfl, I.turned (t' := s.toks) (fun b o hb e => eb b o hb e) f0 f1 f3 f4 f5⟩
  self := fun A i s Q E st h => wpAny_pyIter_rangeiter st h
def RgC (i j c : Int) (n : Nat) : Prop := c ≠ 0 ∧ c.natAbs < 1073741824 ∧ Builtin.Range.small i j c = true ∧ Builtin.Range.rangeSize i j c = n
def iRng3 (ta : TA) : TI := fun σ H R => ta σ H fun vs H1 => ∃ (i j c : Int) (n : Nat), vs = [.int i, .int j, .int c] ∧ RgC i j c n ∧ R (Itc i c n) H1
section
variable {X : Cx} {tg : Expr}
theorem pi_range3 {a b c : Expr} {ta : TA} {p pos : Pos} (hg : Gl X "range") (hm : X.mg "range" = none) (ha : PA X [a, b, c] ta)
    (hs : starEach [a, b, c] X.env = (false, eval a X.env) :: starEach [b, c] X.env := by rfl) (hpl : (backTo pos (starEach [b, c] X.env)).any (·.1) = false := by rfl) :
    PI X tg (.Call (.Name "range" p) [a, b, c] [] pos) (iRng3 ta) := by
  intro pins s σ H R I h
  refine Call_ (ld_blt I hg hm boot_range (PyProof.Rows.callWith_type1 (thn (ha pos pins s σ H _ I h) fun us s1 ⟨vs, H1, I1, r1, q1⟩ => ?_) hs hpl))
  obtain ⟨i, j, k, n, e, ⟨c0, c1, c2, c3⟩, q⟩ := q1
  subst e
  cases r1 with
  | cons r rr =>
    cases rr with
    | cons r' rr =>
      cases rr with
      | cons r'' rr =>
        cases rr
        obtain ⟨t, rfl⟩ := r
        obtain ⟨t', rfl⟩ := r'
        obtain ⟨t'', rfl⟩ := r''
        refine call_range_3 c0 ?_ (.inl (PyProof.noPylong_small c1))
        refine wpAny_pyIter_range (IsRange.new ..) c2 ?_
        have I2 : Inv X pins σ H1 { s1 with heap := s1.heap.push { cls := .type "range", data := .fields #[.int i t, .int j t', .int k t''] } } := I1.kept (t' := s1.toks) fun b o e => Heap.get?_push_of_some _ e
        refine pi_one (tk := s1.toks) I2 _ (turn_rangeC _ i k n) ?_ q
        have e1 : i + ((0 : Nat) : Int) * k = i := by simp
        have e2 : (n : Int) - ((0 : Nat) : Int) = Builtin.Range.rangeSize i j k := by rw [c3]; simp
        show IsRangeIter _ _ (i + ((0 : Nat) : Int) * k) ((n : Int) - ((0 : Nat) : Int)) k
        rw [e1, e2]
        exact Heap.get?_push_size _ rfl
end
section
variable {X : Cx} {tg : Expr}
end
section
variable {prog : Program} {w : World} {A : Around} {E : Value → Shared → Prop} {s : Shared}
end
theorem kv_get {κ : Type} {kvs : List (κ × V)} {vs : List (κ × Value)} (h : KV kvs vs) : ∀ {i : Nat} {k : κ} {v : V}, kvs[i]? = some (k, v) → ∃ u, vs[i]? = some (k, u) ∧ RelV v u := by
  unfold KV at h
  induction h with
  | nil => intro i k v e; simp at e
  | @cons a b l₁ l₂ r t ih =>
    intro i k v e
    cases i with
    | zero =>
      simp only [List.getElem?_cons_zero, Option.some.injEq] at e
      subst e
      refine ⟨b.2, ?_, r.2⟩
      simp only [List.getElem?_cons_zero]
      exact congrArg some (Prod.ext r.1.symm rfl)
    | succ j =>
      simp only [List.getElem?_cons_succ] at e ⊢
      exact ih e
theorem paired_get {α β : Type} {G : α → β → Prop} {l₁ : List α} {l₂ : List β} (h : Paired G l₁ l₂) : ∀ {i : Nat} {a : α}, l₁[i]? = some a → ∃ b, l₂[i]? = some b ∧ G a b := by
  induction h with
  | nil => intro i a e; simp at e
  | @cons a b l₁ l₂ r t ih =>
    intro i a' e
    cases i with
    | zero =>
      simp only [List.getElem?_cons_zero, Option.some.injEq] at e
      subst e
      exact ⟨b, rfl, r⟩
    | succ j =>
      simp only [List.getElem?_cons_succ] at e ⊢
      exact ih e
theorem relV_key {k : Key} {u : Value} (h : keyIs k u = true) : RelV (kV k) u := by
  rcases keyIs_shape h with ⟨i, t, rfl, rfl⟩ | ⟨x, t, rfl, rfl⟩
  · exact ⟨t, rfl⟩
  · exact ⟨t, rfl⟩
section
variable {X : Cx} {pins : List (Addr × Obj)} {σ : St} {H : Hp} {s : Shared} {d : Addr} {o : Obj}
theorem Inv.frzK {kvs : List (Key × V)} (I : Inv X pins σ H s) (h : H d = some (.frz o (.dK kvs))) :
    (d == sysModules) = false ∧ s.heap.get? d = some o ∧ o.ExactDict ∧ ∃ (es : Array DictEntry) (ep : Nat) (vs : List (Key × Value)), o.data = .dict es ep ∧ es.size = kvs.length ∧ KV kvs vs ∧ s.heap.DictAt (mixKind X.prog X.w) d vs ep := by
  obtain ⟨hd, z, hs, vs, kv, o', es, ep, ho, hx, hdt, r⟩ := I.hok d _ h
  rw [hd] at ho
  cases ho
  refine ⟨hs, hd, hx, es, ep, vs, hdt, ?_, kv, o, es, hd, hx, hdt, r⟩
  have l1 := r.2.1.length
  have l2 : kvs.length = vs.length := Paired.length kv
  rw [Array.length_toList] at l1
  omega
end
def Iti (d : Addr) (o : Obj) (kvs : List (Key × V)) : It :=
  ⟨fun i H => H d = some (.frz o (.dK kvs)) ∧ i < kvs.length, fun i H x H' => ∃ T k v, kvs[i]? = some (k, v) ∧ x = .ref T ∧ H T = none ∧ H' = upd H T (.tup [kV k, v]), fun i H => H d = some (.frz o (.dK kvs)) ∧ kvs.length ≤ i⟩
theorem dict_ep {o : Obj} {es es' : Array DictEntry} {ep ep' : Nat} (h : o.data = .dict es ep) (h' : o.data = .dict es' ep') : es' = es ∧ ep' = ep := by
  rw [h] at h'
  cases h'
  exact ⟨rfl, rfl⟩
section
variable {P : Program} {w : World} {K : PySem.W.Frag} {tg : Expr} {d : Addr} {o : Obj} {es : Array DictEntry} {ep : Nat}
theorem turn_items {kvs : List (Key × V)} {elts : List Expr} {kk : Nat} {tpos : Pos} (it : Addr) (hod : o.data = .dict es ep) :
    Turn P w K (.Tuple elts kk tpos) (Iti d o kvs) [it] it (fun i h => ∃ ok ov, IsItemIter h it d i kvs.length ep ok ov) where
  mem := by simp
  obj := fun i h st b hb => by
    have e : b = it := by simpa using hb
    subst e
    obtain ⟨ok, ov, e⟩ := st
    exact ⟨_, e, fun v z => nomatch z⟩
  keep := fun i h h' st k => let ⟨ok, ov, e⟩ := st; ⟨ok, ov, k it (by simp) _ e⟩
  item := by
    intro X hP hw hK hc i pins s σ H E I hf st hg
    subst hP hw hK
    obtain ⟨hd, hi⟩ := hg
    obtain ⟨hs, hgd, hx, es', ep', vs, hdt, hsz, kv, hm⟩ := I.frzK hd
    obtain ⟨rfl, rfl⟩ := dict_ep hod hdt
    obtain ⟨⟨k, v⟩, hkv⟩ : ∃ p, kvs[i]? = some p := ⟨kvs[i], List.getElem?_eq_getElem hi⟩
    obtain ⟨u, hu, ru⟩ := kv_get kv hkv
    have hl : kvs.length = vs.length := Paired.length kv
    obtain ⟨ok, ov, he⟩ := st
    rw [hl] at he
    have hlt : it < s.heap.objs.size := Heap.lt_size he
    refine wpAny_pyNext_items_item he hm hu fun key h' hkey ho hT hz hk => ?_
    refine ⟨_, rfl, wpAny_letOwnedTupleGo_items (s := { s with heap := h' }) ho fun h'' he' sb => ?_⟩
    have hT2 : h''.get? s.heap.objs.size = some { cls := .type "tuple", data := .seq #[key, u] } := (sb.2 _ (Nat.ne_of_gt hlt)).trans hT
    have new : ObjOk X.prog X.w (upd H s.heap.objs.size (.tup [kV k, v])) h'' s.heap.objs.size (.tup [kV k, v]) :=
      ⟨by show 2 ≤ sizeLine; decide, [key, u], .cons (relV_key (show keyIs k key = true from hkey)) (.cons ru .nil), ⟨_, hT2, rfl, _, rfl⟩⟩
    have I1 : Inv X pins σ (upd H s.heap.objs.size (.tup [kV k, v])) { s with heap := h'' } :=
      I.turnedNew (t' := s.toks) (ch := [it]) (fun b ob hb e => (sb.2 b (by simpa using hb)).trans (hk b ob (by simpa using hb) e)) hf (Nat.le_refl _) new
    refine ⟨.ref s.heap.objs.size, _, I1, rfl, ⟨_, k, v, hkv, rfl, I.hok.fresh (Nat.le_refl _), rfl⟩, ⟨key, u, ?_⟩, fun b hb => ?_⟩
    · rw [hl]; exact he'
    · have e : b = it := by simpa using hb
      rw [e, upd_ne (Nat.ne_of_lt hlt)]
      exact (hf it (by simp)).1
  done := by
    intro X hP hw hK hc i pins s σ H E I hf st hg
    subst hP hw hK
    obtain ⟨hd, hi⟩ := hg
    obtain ⟨f0, f1, f2, f3, f4, f5⟩ := hf it (by simp)
    obtain ⟨hs, hgd, hx, es', ep', vs, hdt, hsz, kv, hm⟩ := I.frzK hd
    obtain ⟨rfl, rfl⟩ := dict_ep hod hdt
    have hl : kvs.length = vs.length := Paired.length kv
    obtain ⟨ok, ov, he⟩ := st
    rw [hl] at he
    exact wpAny_pyNext_items_end (I.ok.hd hc) he hm (List.getElem?_eq_none (by omega)) fun h' eb => ⟨rfl, I.turned (t' := s.toks) (fun b ob hb e => eb b ob hb e) f0 f1 f3 f4 f5⟩
  self := fun A i s Q E st h => let ⟨_, _, e⟩ := st; PySem.W.kcp_self e h
end
def iItems (td : TE) : TI := fun σ H R => td σ H fun x H1 => ∃ d o kvs, x = .ref d ∧ H1 d = some (.frz o (.dK kvs)) ∧ R (Iti d o kvs) H1
section
variable {X : Cx} {tg e : Expr} {td : TE} {apos cpos : Pos}
theorem pi_items {elts : List Expr} {kk : Nat} {tpos : Pos} (he : PE X e td) (hbase : attributeBase e "items" X.env (eval e X.env) = eval e X.env := by rfl) (hline : (apos.endLine == cpos.line) = true := by rfl) :
    PI X (.Tuple elts kk tpos) (.Call (.Attribute e "items" apos) [] [] cpos) (iItems td) := by
  intro pins s σ H R I h
  refine wpAny_Call_method (T := "dict") (id := "dict.items") hbase rfl hline F.plainAttrs_dict F.slot_dict_items F.type_dict_items (thn (he pins s σ H _ I h) fun u s1 ⟨x, H1, I1, rx, d, o, kvs, ex, hd, q⟩ => ?_)
  subst ex
  obtain rfl : u = Value.ref d := rx
  obtain ⟨hs, hgd, hx, es, ep, vs, hdt, hsz, kv, hm⟩ := I1.frzK hd
  have hl : kvs.length = vs.length := Paired.length kv
  refine ⟨hm.dictOf.typeIs, hm.dictOf.mapOf.noDict, ?_⟩
  have I2 : Inv X pins σ H1 { s1 with heap := s1.heap.push { cls := .type "dict_items", data := .fields #[.ref d] } } := I1.kept (t' := s1.toks) fun b ob q => Heap.get?_push_of_some _ q
  have fin : wpAny (model X.prog X.w) X.A (pyIter (.ref s1.heap.objs.size)) (PIE X pins σ (.Tuple elts kk tpos) R) X.xe { s1 with heap := s1.heap.push { cls := .type "dict_items", data := .fields #[.ref d] } } := by
    refine wpAny_pyIter_items (d := d) (knd := mixKind X.prog X.w) ⟨_, Heap.get?_push_size _ rfl, rfl, rfl⟩ (hm.push _) (pi_one (tk := s1.toks) I2 _ (turn_items _ hdt) ⟨.none, .none, ?_⟩ q)
    rw [hl]
    exact Heap.get?_push_size _ rfl
  show wpAny _ _ (callWith cpos (.builtin "dict.items") [.ref d] [] []) _ X.xe s1
  exact method_meetsIn F.slot_dict_items F.entry_dict_items rfl (PySem.evalArgs_none ⟨rfl, hm.dictOf.typeIs, F.args_dict_items_1 _, _, meets_dict_items (mixKind X.prog X.w) d hs, ⟨vs, hm.dictOf⟩, fin⟩)
end
def Ite (K : PySem.W.Frag) (a : Addr) : It :=
  ⟨fun i H => ∃ (xs : List V) (x : V), SqL K H a xs ∧ xs[i]? = some x, fun i H v H' => ∃ T x, v = .ref T ∧ H T = none ∧ H' = upd H T (.tup [.int (i : Nat), x]) ∧ ∀ xs, SqL K H a xs → xs[i]? = some x, fun i H => ∃ xs : List V, SqL K H a xs ∧ xs.length ≤ i⟩
theorem turn_enum {P : Program} {w : World} {K : PySem.W.Frag} {elts : List Expr} {kk : Nat} {tpos : Pos} (a e it : Addr) :
    Turn P w K (.Tuple elts kk tpos) (Ite K a) [e, it] e (fun i h => (∃ old, IsEnum h e it ((i : Nat) : Int) old) ∧ h.IsListIter it a i ∧ e ≠ it) where
  mem := by simp
  obj := fun i h st b hb => by
    obtain ⟨⟨old, he⟩, ⟨o, ho, hc, hd⟩, _⟩ := st
    have e' : b = e ∨ b = it := by simpa using hb
    rcases e' with z | z
    · rw [z]; exact ⟨_, he, fun v q => nomatch q⟩
    · rw [z]; exact ⟨o, ho, fun v q => by rw [hd] at q; cases q⟩
  keep := fun i h h' st k => let ⟨⟨old, he⟩, hi, hne⟩ := st; ⟨⟨old, k e (by simp) _ he⟩, hi.at fun o q => k it (by simp) o q, hne⟩
  item := by
    intro X hP hw hK hc i pins s σ H E I hf st hg
    subst hP hw hK
    obtain ⟨⟨old, he⟩, hit, hne⟩ := st
    obtain ⟨xs, x, hq, hx⟩ := hg
    obtain ⟨its, rv, p, hz⟩ := I.list hq
    obtain ⟨u, hu, ru⟩ := rv.get hx
    have hel : e < s.heap.objs.size := Heap.lt_size he
    have hil : it < s.heap.objs.size := by obtain ⟨_, q, _⟩ := hit; exact Heap.lt_size q
    refine wpAny_pyNext_enum_item he hit p.isList (x := u) (by simpa using hu) hne fun h' ho hit' hT hsz hk => ?_
    refine ⟨_, rfl, wpAny_letOwnedTupleGo_enum (s := { s with heap := h', toks := s.toks + 1 }) ho fun h'' he' sb => ?_⟩
    have hT2 : h''.get? s.heap.objs.size = some { cls := .type "tuple", data := .seq #[.int i s.toks, u] } := (sb.2 _ (Nat.ne_of_gt hel)).trans hT
    have new : ObjOk X.prog X.w (upd H s.heap.objs.size (.tup [.int (i : Nat), x])) h'' s.heap.objs.size (.tup [.int (i : Nat), x]) :=
      ⟨by show 2 ≤ sizeLine; decide, [.int i s.toks, u], .cons ⟨_, rfl⟩ (.cons ru .nil), ⟨_, hT2, rfl, _, rfl⟩⟩
    have I1 : Inv X pins σ (upd H s.heap.objs.size (.tup [.int (i : Nat), x])) { s with heap := h'', toks := s.toks + 1 } :=
      I.turnedNew (ch := [e, it]) (fun b ob hb q => (sb.2 b (fun z => hb (by simp [z]))).trans (hk b ob (fun z => hb (by simp [z])) (fun z => hb (by simp [z])) q)) hf (Nat.le_refl _) new
    refine ⟨.ref s.heap.objs.size, _, I1, rfl, ⟨_, x, rfl, I.hok.fresh (Nat.le_refl _), rfl, fun ys hy => by rw [I.list_inj hy hq]; exact hx⟩, ⟨⟨u, ?_⟩, hit'.at fun o q => (sb.2 it (Ne.symm hne)).trans q, hne⟩, fun b hb => ?_⟩
    · have e1 : ((i + 1 : Nat) : Int) = (i : Int) + 1 := by omega
      rw [e1]; exact he'
    · have hb' : b < s.heap.objs.size := by
        have e' : b = e ∨ b = it := by simpa using hb
        rcases e' with z | z
        · rw [z]; exact hel
        · rw [z]; exact hil
      rw [upd_ne (Nat.ne_of_lt hb')]
      exact (hf b hb).1
  done := by
    intro X hP hw hK hc i pins s σ H E I hf st hg
    subst hP hw hK
    obtain ⟨⟨old, he⟩, hit, hne⟩ := st
    obtain ⟨xs, hq, hx⟩ := hg
    obtain ⟨its, rv, p, hz⟩ := I.list hq
    obtain ⟨f0, f1, f2, f3, f4, f5⟩ := hf it (by simp)
    have hl := rv.length
    exact wpAny_pyNext_enum_end (I.ok.hd hc) he hit p.isList (by simp; omega) fun h' eb => ⟨rfl, I.turned (t' := s.toks) (fun b o hb q => eb b o hb q) f0 f1 f3 f4 f5⟩
  self := fun A i s Q E st h => let ⟨⟨_, he⟩, _⟩ := st; wpAny_pyIter_enum he h
def iEnum (K : PySem.W.Frag) (ta : TA) : TI := fun σ H R => ta σ H fun vs H1 => ∃ a xs, vs = [.ref a] ∧ SqL K H1 a xs ∧ R (Ite K a) H1
theorem pi_enum {X : Cx} {e : Expr} {ta : TA} {p pos tpos : Pos} {elts : List Expr} {kk : Nat} (hg : Gl X "enumerate") (hm : X.mg "enumerate" = none) (ha : PA X [e] ta) (hs : starEach [e] X.env = [(false, eval e X.env)] := by rfl) :
    PI X (.Tuple elts kk tpos) (.Call (.Name "enumerate" p) [e] [] pos) (iEnum X.K ta) := by
  intro pins s σ H R I h
  refine Call_ (ld_blt I hg hm boot_enumerate (PyProof.Rows.callWith_type1 (thn (ha pos pins s σ H _ I h) fun us s1 ⟨vs, H1, I1, r1, q1⟩ => ?_) hs rfl))
  obtain ⟨a, xs, ex, hq, q⟩ := q1
  subst ex
  cases r1 with
  | cons r rr =>
    cases rr
    cases r
    obtain ⟨its, rv, p', hz⟩ := I1.list hq
    refine call_enumerate_list p'.isList fun h' he hit hsz hk => wpAny_pyIter_enum he ?_
    have I2 : Inv X pins σ H1 { s1 with heap := h' } := I1.kept (t' := s1.toks) hk
    refine ⟨s1.heap.objs.size + 1, [s1.heap.objs.size + 1, s1.heap.objs.size], _, _, H1, rfl, I2, turn_enum a (s1.heap.objs.size + 1) s1.heap.objs.size, ⟨⟨.none, he⟩, hit, Nat.succ_ne_self _⟩, fun b hb => ?_, q⟩
    have e' : b = s1.heap.objs.size + 1 ∨ b = s1.heap.objs.size := by simpa using hb
    have hle : s1.heap.objs.size ≤ b := by
      rcases e' with z | z
      · rw [z]; exact Nat.le_add_right _ _
      · rw [z]; exact Nat.le_refl _
    exact I1.fpOk hle (I1.hok.fresh hle)
end L2
section
namespace Bits
open PySem PyProof.Rows
theorem nat_and_mul_pow (k : Nat) : ∀ a b : Nat, a < 2 ^ k → a &&& (b * 2 ^ k) = 0 := by
  induction k with
  | zero =>
    intro a b h
    have h0 : a = 0 := by
      rw [Nat.pow_zero] at h
      omega
    subst h0
    simp
  | succ k ih =>
    intro a b h
    have hm : (b * 2 ^ (k + 1)) = (b * 2 ^ k) * 2 := by rw [Nat.pow_succ, Nat.mul_assoc]
    have hlt : a / 2 < 2 ^ k := by
      rw [Nat.pow_succ] at h
      generalize 2 ^ k = m at h ⊢
      omega
    have i := ih (a / 2) b hlt
    rw [hm]
    generalize b * 2 ^ k = B at i ⊢
    have e : (a &&& (B * 2)) / 2 = a / 2 &&& (B * 2) / 2 := Nat.and_div_two
    have e2 : (B * 2) / 2 = B := by omega
    have o := @Nat.and_mod_two_eq_one a (B * 2)
    rw [e2, i] at e
    omega
theorem natCast_mul_pow (m k : Nat) : (m : Int) * 2 ^ k = ((m * 2 ^ k : Nat) : Int) := by
  rw [two_pow_cast]
  first
    | exact (Int.natCast_mul _ _).symm
    | simp
theorem bitOr_join {a b : Int} {k : Nat} (h0 : 0 ≤ a) (h1 : a < 2 ^ k) (hb : 0 ≤ b) : Builtin.bitOr a (b * 2 ^ k) = a + b * 2 ^ k := by
  obtain ⟨n, rfl⟩ := Int.eq_ofNat_of_zero_le h0
  obtain ⟨m, rfl⟩ := Int.eq_ofNat_of_zero_le hb
  have hn : n < 2 ^ k := by
    rw [two_pow_cast] at h1
    omega
  have e : Builtin.bitAnd (n : Int) ((m * 2 ^ k : Nat) : Int) = 0 := by
    rw [bitAnd_pp (by omega) (by omega), Int.toNat_natCast, Int.toNat_natCast, nat_and_mul_pow k n m hn] <;> rfl
  rw [natCast_mul_pow, bitOr_and, e]
  omega
theorem bitOr_pp {x y : Int} (hx : 0 ≤ x) (hy : 0 ≤ y) : Builtin.bitOr x y = ((x.toNat ||| y.toNat : Nat) : Int) := by
  have e := nat_or_add_and x.toNat y.toNat
  rw [bitOr_and, bitAnd_pp hx hy]
  omega
end Bits
end
section
namespace TL
open PySem PySem.Builtin PySem.Builtin.Str PySem.StrLaws
end TL
end
namespace L2
open PySem PySem.Spec PyProof.Rows
section
variable {X : Cx} {pins : List (Addr × Obj)} {σ : St} {H : Hp} {s : Shared} {Q : VK}
end
section
variable {X : Cx}
end
section
variable {X : Cx} {o e : Expr} {to te : TE}
end
end L2
namespace L2
open PySem PySem.Spec PyProof.Rows
section
variable {X : Cx}
end
end L2
namespace Att
open PySem PySem.W PySem.Calls PyProof.Rows
section
variable {prog : Program} {w : World} {A : Around} {E : Value → Shared → Prop} {s : Shared} {K : Frag}
end
end Att
namespace L2
open PySem PySem.Spec PyProof.Rows
end L2
namespace L2
open PySem PySem.Spec PyProof.Rows
end L2
namespace L2
open PySem PySem.Spec PyProof.Rows
def inClass (s : Stmt) (j : Nat) : Stmt := match s with
  | .ClassDef _ _ _ body _ _ _ _ _ _ _ => body.getD j (.Pass ⟨0, 0, 0, 0⟩)
  | _ => .Pass ⟨0, 0, 0, 0⟩
def defArgs (s : Stmt) : Arguments := match s with
  | .FunctionDef _ a _ _ _ _ _ _ _ _ => a
  | _ => { posonlyargs := [], args := [], vararg := none, kwonlyargs := [], kw_defaults := [], kwarg := none, defaults := [] }
def defBody (s : Stmt) : List Stmt := match s with
  | .FunctionDef _ _ b _ _ _ _ _ _ _ => b
  | _ => []
def defScope (s : Stmt) : Scope := match s with
  | .FunctionDef _ _ _ _ _ _ sc _ _ _ => sc
  | _ => { kind := .function, names := [], isGenerator := false, isCoroutine := false }
abbrev CX0 : CXT := fun _ _ _ _ _ _ => False
abbrev E0 : XK := fun _ _ _ => False
theorem pass0 {X : Cx} : Passes CX0 X E0 := fun _ _ _ _ _ _ _ h => h.elim
structure Fun (K : PySem.W.Frag) (x qual : Str) (st : Stmt) (f : Addr) (fd : FuncData) : Prop where
  ex : ∃ (oc : Value) (od : Option Addr) (kV doc pm : Value) (an : Option Addr) (cdv ct : Value) (osl : Array (Option Value)),
    fd = PySem.W.fnOf x qual (defArgs st) (defBody st) (defScope st) .none kV doc pm an cdv ct ∧ K.lookup f = some ⟨oc, od, .func fd, osl⟩ ∧ PySem.W.codeIn K cdv qual = true
  kp : PySem.W.keepIn K (.ref f) = true
section
variable {P : Program} {w : World} {K : PySem.W.Frag} {mg : Str → Option Value} {base : Heap}
theorem Fun.ok {x qual : Str} {st : Stmt} {f : Addr} {fd : FuncData} {N ps : List Str} {k : Nat} {sp : Sp} (F : Fun K x qual st f fd) (S : FnScope N ps (defScope st)) (len : ∀ vs H Q E, sp vs H Q E → vs.length = ps.length)
    (hbody : ∀ (cdv : Value) (A : Around) (outer : List Env) (s : Shared) (H : Hp) (vs : List V) (Q : VK) (E : XK), Room k (A.deeper (envOfC qual (defScope st) s.heap.objs.size f cdv)) → sp vs H Q E →
      ∃ t, PSs (cxOf CX0 P w K mg base N qual (defScope st) f cdv A outer s H E).nox (defBody st) t ∧ t { nx := fun _ H' => Q .non H', rt := Q } (start N vs) H) : FnOk P w K mg base CX0 (k + 1) f fd ps sp := by
  obtain ⟨oc, od, kV, doc, pm, an, cdv, ct, osl, rfl, lk, hcd⟩ := F.ex
  refine fn_of lk hcd S len fun A outer s H vs Q E hr hsp => ?_
  obtain ⟨t, h, q⟩ := hbody cdv A outer s H vs Q E hr hsp
  exact ⟨t, h.nox, q⟩
theorem Fun.binds {x qual : Str} {st : Stmt} {f : Addr} {fd : FuncData} {ps : List Str} (F : Fun K x qual st f fd)
    (h : ∀ (kV doc pm : Value) (an : Option Addr) (cdv ct : Value) (us : List Value), us.length = ps.length → bindArgs (PySem.W.fnOf x qual (defArgs st) (defBody st) (defScope st) .none kV doc pm an cdv ct) ⟨us, []⟩ = pure (ps.zip us)) : Binds K fd ps [] := by
  obtain ⟨oc, od, kV, doc, pm, an, cdv, ct, osl, rfl, lk, hcd⟩ := F.ex
  exact .all (h kV doc pm an cdv ct)
theorem fun_mk {x qual : Str} {st : Stmt} {f : Addr} {oc : Value} {od an : Option Addr} {osl : Array (Option Value)} {kV doc pm cdv ct : Value} (l : K.lookup f = some ⟨oc, od, .func (PySem.W.fnOf x qual (defArgs st) (defBody st) (defScope st) .none kV doc pm an cdv ct), osl⟩)
    (c : PySem.W.codeIn K cdv qual = true) (k : PySem.W.keepIn K (.ref f) = true) : Fun K x qual st f (PySem.W.fnOf x qual (defArgs st) (defBody st) (defScope st) .none kV doc pm an cdv ct) := ⟨⟨oc, od, kV, doc, pm, an, cdv, ct, osl, rfl, l, c⟩, k⟩
end
theorem hu_of {A : Around} {k : Nat} (hr : Room k A) : A.units + 1 < cLine := Nat.lt_of_le_of_lt (Nat.add_le_add_left (by decide : 1 ≤ 64) _) hr.units
section
variable {X : Cx}
theorem pv (i : Nat) {x : Str} {pos : Pos} (hN : X.N[i]? = some x := by rfl) (hv : Vis X.env.scope x := by first | exact Or.inl rfl | exact Or.inr (Or.inl rfl) | exact Or.inr (Or.inr rfl)) (hd : (x == ("__debug__" : Str)) = false := by decide)
    (hcd : (x == ("__classdict__" : Str)) = false := by decide) : PE X (.Name x pos) (tVar i) := pe_var hN hv hd hcd
end
theorem iteF {A B : Prop} (h : B) : if false = true then A else B := by
  rw [if_neg Bool.false_ne_true]
  exact h
theorem iteT {A B : Prop} (h : A) : if true = true then A else B := by
  rw [if_pos rfl]
  exact h
def Same (H H' : Hp) : Prop := ∀ b o, H b = some o → H' b = some o
theorem Same.refl (H : Hp) : Same H H := fun _ _ h => h
theorem Same.trans {H H1 H2 : Hp} (a : Same H H1) (b : Same H1 H2) : Same H H2 := fun c o h => b c o (a c o h)
theorem Same.free {H H' : Hp} (e : Same H H') {l : Addr} (h : H' l = Option.none) : H l = Option.none := by
  cases q : H l with
  | none => rfl
  | some o =>
    rw [e l o q] at h
    cases h
theorem Same.seq {K : PySem.W.Frag} {H H' : Hp} {a : Addr} {xs : List V} (e : Same H H') (h : SqL K H a xs) : SqL K H' a xs := by
  rcases h with (h | ⟨o, h⟩) | h
  · exact .inl (.inl (e _ _ h))
  · exact .inl (.inr ⟨o, e _ _ h⟩)
  · exact .inr h
section
variable {κ : Type} [DecidableEq κ]
theorem dropK_pos {p : κ × V} {r : List (κ × V)} {k : κ} (e : p.1 = k) : dropK (p :: r) k = dropK r k := by
  unfold dropK
  rw [List.filter_cons, if_neg (by simp [e])]
theorem dropK_neg {p : κ × V} {r : List (κ × V)} {k : κ} (e : ¬ p.1 = k) : dropK (p :: r) k = p :: dropK r k := by
  unfold dropK
  rw [List.filter_cons, if_pos (by simp [e])]
end
theorem at_of {xs : List V} {z : Int} {j : Nat} {v : V} (e : z = (j : Int)) (h : xs[j]? = some v) : atI xs z = some v := by
  rw [e]
  exact atI_nat h
end L2
section
namespace L2
open PySem PySem.Spec PyProof.Rows
open PySem.W (WData Codec OpenSpec Well WellAll ReadsW ReadsAllW)
mutual
inductive Dw (K : PySem.W.Frag) (H : Hp) : V → WData → Prop
  | non : Dw K H .non .none
  | bl (b : Bool) : Dw K H (.bl b) (.bool b)
  | int (i : Int) : Dw K H (.int i) (.int i)
  | str (x : Str) : Dw K H (.str x) (.str x)
  | byt (b : Array UInt8) : Dw K H (.byt b) (.bytes b.toList)
  | lst {a : Addr} {xs : List V} {ds : List WData} : SqL K H a xs → DwAll K H xs ds → Dw K H (.ref a) (.list ds)
  | tup {a : Addr} {xs : List V} {ds : List WData} : SqT K H a xs → DwAll K H xs ds → Dw K H (.ref a) (.tuple ds)
inductive DwAll (K : PySem.W.Frag) (H : Hp) : List V → List WData → Prop
  | nil : DwAll K H [] []
  | cons {v : V} {vs : List V} {d : WData} {ds : List WData} : Dw K H v d → DwAll K H vs ds → DwAll K H (v :: vs) (d :: ds)
end
theorem dw_ints {K : PySem.W.Frag} {H : Hp} : ∀ ns : List Int, DwAll K H (ns.map V.int) (ns.map WData.int)
  | [] => .nil
  | n :: r => .cons (.int n) (dw_ints r)
theorem ints_dw {K : PySem.W.Frag} {H : Hp} : ∀ (ns : List Int) (xs : List V), DwAll K H xs (ns.map WData.int) → xs = ns.map V.int
  | [], xs, h => by
    cases h
    rfl
  | n :: r, xs, h => by
    cases h with
    | cons h1 h2 =>
      cases h1
      rw [ints_dw r _ h2] <;> rfl
section
variable {P : Program} {w : World} {K : PySem.W.Frag} {H : Hp} {h : Heap} {R : PySem.W.WRecords} {cl : Str → Option Addr}
theorem sqL_at {a : Addr} {xs : List V} (hok : HOk P w H h) (KX : K.In h) (q : SqL K H a xs) : ∃ (its : List Value) (o : Obj) (n : Nat), Vals xs its ∧ h.get? a = some o ∧ o.cls = .type "list" ∧ o.data = .seq its.toArray n := by
  rcases q with q | ⟨o, its, n, e, hc, _, hd, _, hv⟩
  · obtain ⟨_, its, n, hv, e⟩ := (show ObjOk P w H h a (.lst xs) from q.ok hok)
    exact ⟨its, _, n, hv, e, rfl, rfl⟩
  · exact ⟨its.toList, o, n, hv, KX _ _ e, hc, by simp [hd]⟩
theorem sqT_at {a : Addr} {xs : List V} (hok : HOk P w H h) (KX : K.In h) (q : SqT K H a xs) : ∃ (its : List Value) (o : Obj) (n : Nat), Vals xs its ∧ h.get? a = some o ∧ o.cls = .type "tuple" ∧ o.data = .seq its.toArray n := by
  rcases q with q | ⟨o, its, n, e, hc, hd, _, hv⟩
  · obtain ⟨_, its, hv, o, e, hc, n, hd⟩ := (show ObjOk P w H h a (.tup xs) from q.ok hok)
    exact ⟨its, o, n, hv, e, hc, hd⟩
  · exact ⟨its.toList, o, n, hv, KX _ _ e, hc, by simp [hd]⟩
mutual
theorem Dw.reads (hok : HOk P w H h) (KX : K.In h) : ∀ (d : WData) (v : V) (u : Value), Dw K H v d → RelV v u → ∃ as, ReadsW R cl h u d as
  | .none, _, _, x, r => by
    cases x
    cases r
    exact ⟨_, ReadsW.none⟩
  | .bool b, _, _, x, r => by
    cases x
    cases r
    exact ⟨_, ReadsW.bool b⟩
  | .int i, _, _, x, r => by
    cases x
    obtain ⟨t, rfl⟩ := r
    exact ⟨_, ReadsW.int i t⟩
  | .str s, _, _, x, r => by
    cases x
    obtain ⟨t, rfl⟩ := r
    exact ⟨_, ReadsW.str s t⟩
  | .bytes b, _, _, x, r => by
    cases x
    obtain ⟨t, rfl⟩ := r
    exact ⟨_, ReadsW.bytes _ t⟩
  | .list ds, _, _, x, r => by
    cases x with
    | lst hs ha =>
      cases r
      obtain ⟨its, o, n, rv, ho, hc, hd⟩ := sqL_at hok KX hs
      obtain ⟨as, hr⟩ := Dw.readsAll hok KX ds _ its ha rv
      exact ⟨_, ReadsW.list ho hc hd hr⟩
  | .tuple ds, _, _, x, r => by
    cases x with
    | tup hs ha =>
      cases r
      obtain ⟨its, o, n, rv, ho, hc, hd⟩ := sqT_at hok KX hs
      obtain ⟨as, hr⟩ := Dw.readsAll hok KX ds _ its ha rv
      exact ⟨_, ReadsW.tuple ho hc hd hr⟩
  | .float _, _, _, x, _ => by cases x
  | .dict _, _, _, x, _ => by cases x
  | .bytearray _, _, _, x, _ => by cases x
  | .set _, _, _, x, _ => by cases x
  | .frozenset _, _, _, x, _ => by cases x
  | .obj _ _, _, _, x, _ => by cases x
theorem Dw.readsAll (hok : HOk P w H h) (KX : K.In h) : ∀ (ds : List WData) (vs : List V) (us : List Value), DwAll K H vs ds → Vals vs us → ∃ as, ReadsAllW R cl h us ds as
  | [], _, _, x, r => by
    cases x
    cases r
    exact ⟨_, ReadsAllW.nil⟩
  | d :: ds, _, _, x, r => by
    cases x with
    | cons h1 h2 =>
      cases r with
      | cons r1 r2 =>
        obtain ⟨as, q1⟩ := Dw.reads hok KX d _ _ h1 r1
        obtain ⟨bs, q2⟩ := Dw.readsAll hok KX ds _ _ h2 r2
        exact ⟨_, ReadsAllW.cons q1 q2⟩
end
end
mutual
def plW : WData → Bool
  | .none => true
  | .bool _ => true
  | .int _ => true
  | .str _ => true
  | .bytes _ => true
  | .list xs => plWs xs
  | .tuple xs => plWs xs
  | _ => false
def plWs : List WData → Bool
  | [] => true
  | x :: r => plW x && plWs r
end
theorem plWs_map {α : Type} {f : α → WData} (h : ∀ a, plW (f a) = true) : ∀ l : List α, plWs (l.map f) = true
  | [] => rfl
  | x :: r => by
    show (plW (f x) && plWs (r.map f)) = true
    rw [h x, plWs_map h r] <;> rfl
theorem pl_enc : ∀ (c : Codec) (a : c.denote), plW (c.enc a) = true
  | .unit, _ => rfl
  | .bool, _ => rfl
  | .int _ _, _ => rfl
  | .nat _ _, _ => rfl
  | .u8, _ => rfl
  | .bytes _ _, _ => rfl
  | .text _ _ _ _, _ => rfl
  | .list _ _ c, a => plWs_map (fun x => pl_enc c x) a
  | .pair c d, a => by
    show (plW (c.enc a.1) && (plW (d.enc a.2) && true)) = true
    rw [pl_enc c a.1, pl_enc d a.2] <;> rfl
  | .triple c d e, a => by
    show (plW (c.enc a.1) && (plW (d.enc a.2.1) && (plW (e.enc a.2.2) && true))) = true
    rw [pl_enc c a.1, pl_enc d a.2.1, pl_enc e a.2.2] <;> rfl
  | .option c, none => rfl
  | .option c, some x => pl_enc c x
theorem pl_encAll : ∀ (cs : List Codec) (a : Codec.denoteAll cs), plWs (Codec.encAll cs a) = true
  | [], _ => rfl
  | c :: cs, a => by
    show (plW (c.enc a.1) && plWs (Codec.encAll cs a.2)) = true
    rw [pl_enc c a.1, pl_encAll cs a.2] <;> rfl
theorem weight_mem : ∀ {xs : List WData} {d : WData}, d ∈ xs → d.weight ≤ WData.weightAll xs
  | [], d, h => absurd h (by simp)
  | x :: r, d, h => by
    show d.weight ≤ x.weight + 1 + WData.weightAll r
    rcases List.mem_cons.mp h with e | m
    · rw [e]
      omega
    · have z := weight_mem m
      omega
def toV : Value → V
  | .none => .non
  | .bool b => .bl b
  | .int i _ => .int i
  | .str x _ => .str x
  | .bytes b _ => .byt b
  | .ref a => .ref a
  | _ => .non
def OkU (A : List Addr) : Value → Prop
  | .none => True
  | .bool _ => True
  | .int _ _ => True
  | .str _ _ => True
  | .bytes _ _ => True
  | .ref a => a ∈ A
  | _ => False
theorem OkU.mono {A B : List Addr} (h : ∀ a ∈ A, a ∈ B) : ∀ {u : Value}, OkU A u → OkU B u := fun {u} x => by
  cases u with
  | ref a => exact h a x
  | none => trivial
  | bool b => trivial
  | int i t => trivial
  | str s t => trivial
  | bytes b t => trivial
  | _ => exact False.elim x
theorem relV_toV {A : List Addr} {u : Value} (x : OkU A u) : RelV (toV u) u := by
  cases u with
  | ref a => rfl
  | none => rfl
  | bool b => rfl
  | int i t => exact ⟨t, rfl⟩
  | str s t => exact ⟨t, rfl⟩
  | bytes b t => exact ⟨t, rfl⟩
  | _ => exact False.elim x
theorem vals_toV {A : List Addr} : ∀ {vs : List Value}, (∀ u ∈ vs, OkU A u) → Vals (vs.map toV) vs
  | [], _ => .nil
  | u :: r, h => .cons (relV_toV (h u (List.mem_cons_self ..))) (vals_toV fun x hx => h x (List.mem_cons_of_mem _ hx))
def ArgOb (h : Heap) (A : List Addr) (a : Addr) : Prop := ∃ vs : List Value, vs.length ≤ sizeLine ∧ (∀ u ∈ vs, OkU A u) ∧
  (h.get? a = some { cls := .type "list", data := .seq vs.toArray } ∨ h.get? a = some { cls := .type "tuple", data := .seq vs.toArray })
theorem ArgOb.mono {h : Heap} {A B : List Addr} {a : Addr} (k : ∀ a ∈ A, a ∈ B) (x : ArgOb h A a) : ArgOb h B a := by
  obtain ⟨vs, h1, h2, h3⟩ := x
  exact ⟨vs, h1, fun u hu => (h2 u hu).mono k, h3⟩
theorem wellAll_len {P : Params} {h : Heap} : ∀ {vs : List Value} {ds : List WData}, WellAll P h vs ds → vs.length = ds.length
  | _, _, .nil => rfl
  | _, _, .cons _ b => by
    show _ + 1 = _ + 1
    rw [wellAll_len b]
theorem well_list {P : Params} {h : Heap} {v : Value} {ds : List WData} (x : Well P h v (.list ds)) : ∃ (a : Addr) (vs : List Value), v = .ref a ∧ h.get? a = some { cls := .type "list", data := .seq vs.toArray } ∧ WellAll P h vs ds := by
  cases x with
  | list ho hall => exact ⟨_, _, rfl, ho, hall⟩
theorem well_tuple {P : Params} {h : Heap} {v : Value} {ds : List WData} (x : Well P h v (.tuple ds)) : ∃ (a : Addr) (vs : List Value), v = .ref a ∧ h.get? a = some { cls := .type "tuple", data := .seq vs.toArray } ∧ WellAll P h vs ds := by
  cases x with
  | tuple ho hall => exact ⟨_, _, rfl, ho, hall⟩
theorem well_cons {P : Params} {h : Heap} {us : List Value} {d : WData} {ds : List WData} (x : WellAll P h us (d :: ds)) : ∃ (v : Value) (vs : List Value), us = v :: vs ∧ Well P h v d ∧ WellAll P h vs ds := by
  cases x with
  | cons a b => exact ⟨_, _, rfl, a, b⟩
theorem line_of {n : Nat} (h : n ≤ 1048576) : n ≤ sizeLine := Nat.le_trans h (by decide)
section
variable {P : Params} {h : Heap}
mutual
theorem area_one : ∀ (d : WData) (v : Value), Well P h v d → plW d = true → d.weight ≤ 1048576 → ∃ A : List Addr, OkU A v ∧ ∀ a ∈ A, ArgOb h A a
  | .none, _, x, _, _ => by
    cases x
    exact ⟨[], trivial, fun a m => absurd m (by simp)⟩
  | .bool b, _, x, _, _ => by
    cases x
    exact ⟨[], trivial, fun a m => absurd m (by simp)⟩
  | .int i, _, x, _, _ => by
    cases x
    exact ⟨[], trivial, fun a m => absurd m (by simp)⟩
  | .str s, _, x, _, _ => by
    cases x
    exact ⟨[], trivial, fun a m => absurd m (by simp)⟩
  | .bytes b, _, x, _, _ => by
    cases x
    exact ⟨[], trivial, fun a m => absurd m (by simp)⟩
  | .list ds, _, x, p, z => by
    obtain ⟨a, vs, rfl, ho, hall⟩ := well_list x
    have z2 : WData.weightAll ds ≤ 1048576 := z
    obtain ⟨A, h1, h2⟩ := area_all ds _ hall p fun d hd => Nat.le_trans (weight_mem hd) z2
    have k : ∀ b ∈ A, b ∈ a :: A := fun b hb => List.mem_cons_of_mem _ hb
    refine ⟨a :: A, List.mem_cons_self .., fun b hb => ?_⟩
    rcases List.mem_cons.mp hb with e | m
    · rw [e]
      exact ⟨vs, line_of (by rw [wellAll_len hall]; exact Nat.le_trans (PySem.W.length_le_weightAllW ds) z2), fun u hu => (h1 u hu).mono k, .inl ho⟩
    · exact (h2 b m).mono k
  | .tuple ds, _, x, p, z => by
    obtain ⟨a, vs, rfl, ho, hall⟩ := well_tuple x
    have z2 : WData.weightAll ds ≤ 1048576 := z
    obtain ⟨A, h1, h2⟩ := area_all ds _ hall p fun d hd => Nat.le_trans (weight_mem hd) z2
    have k : ∀ b ∈ A, b ∈ a :: A := fun b hb => List.mem_cons_of_mem _ hb
    refine ⟨a :: A, List.mem_cons_self .., fun b hb => ?_⟩
    rcases List.mem_cons.mp hb with e | m
    · rw [e]
      exact ⟨vs, line_of (by rw [wellAll_len hall]; exact Nat.le_trans (PySem.W.length_le_weightAllW ds) z2), fun u hu => (h1 u hu).mono k, .inr ho⟩
    · exact (h2 b m).mono k
  | .float _, _, _, p, _ => Bool.noConfusion (show false = true from p)
  | .dict _, _, _, p, _ => Bool.noConfusion (show false = true from p)
  | .bytearray _, _, _, p, _ => Bool.noConfusion (show false = true from p)
  | .set _, _, _, p, _ => Bool.noConfusion (show false = true from p)
  | .frozenset _, _, _, p, _ => Bool.noConfusion (show false = true from p)
  | .obj _ _, _, _, p, _ => Bool.noConfusion (show false = true from p)
theorem area_all : ∀ (ds : List WData) (vs : List Value), WellAll P h vs ds → plWs ds = true → (∀ d ∈ ds, d.weight ≤ 1048576) → ∃ A : List Addr, (∀ u ∈ vs, OkU A u) ∧ ∀ a ∈ A, ArgOb h A a
  | [], _, x, _, _ => by
    cases x
    exact ⟨[], fun u m => absurd m (by simp), fun a m => absurd m (by simp)⟩
  | d :: ds, _, x, p, z => by
    obtain ⟨v, vs, rfl, x1, x2⟩ := well_cons x
    have q : plW d = true ∧ plWs ds = true := Bool.and_eq_true_iff.mp p
    obtain ⟨A, a1, a2⟩ := area_one d v x1 q.1 (z d (List.mem_cons_self ..))
    obtain ⟨B, b1, b2⟩ := area_all ds vs x2 q.2 fun e he => z e (List.mem_cons_of_mem _ he)
    have kA : ∀ b ∈ A, b ∈ A ++ B := fun b hb => List.mem_append.mpr (.inl hb)
    have kB : ∀ b ∈ B, b ∈ A ++ B := fun b hb => List.mem_append.mpr (.inr hb)
    refine ⟨A ++ B, fun u hu => ?_, fun b hb => ?_⟩
    · rcases List.mem_cons.mp hu with e | m
      · rw [e]
        exact a1.mono kA
      · exact (b1 u m).mono kB
    · rcases List.mem_append.mp hb with m | m
      · exact (a2 b m).mono kA
      · exact (b2 b m).mono kB
end
end
def hoOf (o : Obj) : Option HO := match o.data with
  | .seq vs _ => if (o.cls == Value.type "list") = true then some (.frz o (.lst (vs.toList.map toV))) else some (.frz o (.tup (vs.toList.map toV)))
  | _ => none
def argH (K : PySem.W.Frag) (h : Heap) (A : List Addr) : Hp := fun b => if b ∈ A then (if (K.lookup b).isNone = true then (h.get? b).bind hoOf else none) else none
def OnlyF (H : Hp) : Prop := ∀ b, H b = none ∨ ∃ o u, H b = some (.frz o u)
theorem hoOf_lst (vs : List Value) : hoOf { cls := .type "list", data := .seq vs.toArray } = some (.frz { cls := .type "list", data := .seq vs.toArray } (.lst (vs.map toV))) := by
  show (if (Value.type "list" == Value.type "list") = true then some (HO.frz { cls := .type "list", data := .seq vs.toArray } (.lst (vs.toArray.toList.map toV))) else some (HO.frz { cls := .type "list", data := .seq vs.toArray } (.tup (vs.toArray.toList.map toV)))) = _
  rw [if_pos (beq_self_eq_true _)]
theorem hoOf_tup (vs : List Value) : hoOf { cls := .type "tuple", data := .seq vs.toArray } = some (.frz { cls := .type "tuple", data := .seq vs.toArray } (.tup (vs.map toV))) := by
  show (if (Value.type "tuple" == Value.type "list") = true then some (HO.frz { cls := .type "tuple", data := .seq vs.toArray } (.lst (vs.toArray.toList.map toV))) else some (HO.frz { cls := .type "tuple", data := .seq vs.toArray } (.tup (vs.toArray.toList.map toV)))) = _
  rw [if_neg (by decide)]
section
variable {P : Program} {w : World} {K : PySem.W.Frag} {h : Heap} {A : List Addr}
theorem argH_at {b : Addr} {o : Obj} (hb : b ∈ A) (hk : K.lookup b = none) (e : h.get? b = some o) : argH K h A b = hoOf o := by
  unfold argH
  rw [if_pos hb, hk, if_pos (show (none : Option Obj).isNone = true from rfl), e] <;> rfl
theorem of_argH {b : Addr} {u : HO} (q : argH K h A b = some u) : b ∈ A ∧ K.lookup b = none := by
  unfold argH at q
  by_cases hb : b ∈ A
  · rw [if_pos hb] at q
    cases hk : K.lookup b with
    | none => exact ⟨hb, rfl⟩
    | some o =>
      rw [hk, if_neg (by simp)] at q
      cases q
  · rw [if_neg hb] at q
    cases q
theorem argH_is (ar : ∀ a ∈ A, ArgOb h A a) {b : Addr} {u : HO} (q : argH K h A b = some u) : K.lookup b = none ∧ ∃ vs : List Value, vs.length ≤ sizeLine ∧ (∀ u ∈ vs, OkU A u) ∧
    ((h.get? b = some { cls := .type "list", data := .seq vs.toArray } ∧ u = .frz { cls := .type "list", data := .seq vs.toArray } (.lst (vs.map toV))) ∨
     (h.get? b = some { cls := .type "tuple", data := .seq vs.toArray } ∧ u = .frz { cls := .type "tuple", data := .seq vs.toArray } (.tup (vs.map toV)))) := by
  obtain ⟨hb, hk⟩ := of_argH q
  obtain ⟨vs, h1, h2, h3⟩ := ar b hb
  refine ⟨hk, vs, h1, h2, ?_⟩
  rcases h3 with e | e
  · rw [argH_at hb hk e, hoOf_lst] at q
    exact .inl ⟨e, (Option.some.inj q).symm⟩
  · rw [argH_at hb hk e, hoOf_tup] at q
    exact .inr ⟨e, (Option.some.inj q).symm⟩
theorem argH_only (ar : ∀ a ∈ A, ArgOb h A a) : OnlyF (argH K h A) := fun b => by
  cases q : argH K h A b with
  | none => exact .inl rfl
  | some u =>
    obtain ⟨_, vs, _, _, ⟨_, e⟩ | ⟨_, e⟩⟩ := argH_is ar q
    · exact .inr ⟨_, _, by rw [e]⟩
    · exact .inr ⟨_, _, by rw [e]⟩
theorem argH_ok (ar : ∀ a ∈ A, ArgOb h A a) : HOk P w (argH K h A) h := fun b u q => by
  obtain ⟨_, vs, h1, h2, ⟨e, rfl⟩ | ⟨e, rfl⟩⟩ := argH_is ar q
  · exact ⟨e, by rw [List.length_map]; exact h1, vs, _, vals_toV h2, e⟩
  · exact ⟨e, by rw [List.length_map]; exact h1, vs, vals_toV h2, _, e, rfl, _, rfl⟩
theorem seq_inj {c c' : Value} {vs us : List Value} (e : (some { cls := c, data := .seq vs.toArray } : Option Obj) = some { cls := c', data := .seq us.toArray }) : c = c' ∧ vs = us := by
  have e1 := Option.some.inj e
  have e2 : c = c' := congrArg Obj.cls e1
  have e3 : Data.seq vs.toArray = Data.seq us.toArray := congrArg Obj.data e1
  injection e3 with e4
  refine ⟨e2, ?_⟩
  have e5 := congrArg Array.toList e4
  simpa using e5
theorem argL (KX : K.In h) (ar : ∀ a ∈ A, ArgOb h A a) {a : Addr} {vs : List Value} (ha : a ∈ A) (e : h.get? a = some { cls := .type "list", data := .seq vs.toArray }) : (∀ u ∈ vs, OkU A u) ∧ SqL K (argH K h A) a (vs.map toV) := by
  obtain ⟨us, h1, h2, h3⟩ := ar a ha
  have hu : us = vs := by
    rcases h3 with q | q
    · rw [e] at q
      exact (seq_inj q).2.symm
    · rw [e] at q
      exact absurd (Value.type.inj (seq_inj q).1) (by decide)
  subst hu
  refine ⟨h2, ?_⟩
  cases hk : K.lookup a with
  | none => exact .inl (.inr ⟨_, by rw [argH_at ha hk e, hoOf_lst]⟩)
  | some o =>
    have e2 := KX a o hk
    rw [e] at e2
    obtain rfl := Option.some.inj e2
    exact .inr ⟨_, us.toArray, _, hk, rfl, rfl, rfl, by rw [List.size_toArray]; exact h1, by simpa using vals_toV h2⟩
theorem argT (KX : K.In h) (ar : ∀ a ∈ A, ArgOb h A a) {a : Addr} {vs : List Value} (ha : a ∈ A) (e : h.get? a = some { cls := .type "tuple", data := .seq vs.toArray }) : (∀ u ∈ vs, OkU A u) ∧ SqT K (argH K h A) a (vs.map toV) := by
  obtain ⟨us, h1, h2, h3⟩ := ar a ha
  have hu : us = vs := by
    rcases h3 with q | q
    · rw [e] at q
      exact absurd (Value.type.inj (seq_inj q).1) (by decide)
    · rw [e] at q
      exact (seq_inj q).2.symm
  subst hu
  refine ⟨h2, ?_⟩
  cases hk : K.lookup a with
  | none => exact .inl (.inr ⟨_, by rw [argH_at ha hk e, hoOf_tup]⟩)
  | some o =>
    have e2 := KX a o hk
    rw [e] at e2
    obtain rfl := Option.some.inj e2
    exact .inr ⟨_, us.toArray, _, hk, rfl, rfl, by rw [List.size_toArray]; exact h1, by simpa using vals_toV h2⟩
mutual
theorem dw_one {Pm : Params} (KX : K.In h) (ar : ∀ a ∈ A, ArgOb h A a) : ∀ (d : WData) (v : Value), Well Pm h v d → plW d = true → OkU A v → Dw K (argH K h A) (toV v) d
  | .none, _, x, _, _ => by
    cases x
    exact .non
  | .bool b, _, x, _, _ => by
    cases x
    exact .bl b
  | .int i, _, x, _, _ => by
    cases x
    exact .int i
  | .str s, _, x, _, _ => by
    cases x
    exact .str s
  | .bytes b, _, x, _, _ => by
    cases x
    have z := Dw.byt (K := K) (H := argH K h A) b.toArray
    exact z
  | .list ds, _, x, p, hu => by
    obtain ⟨a, vs, rfl, ho, hall⟩ := well_list x
    obtain ⟨h2, hs⟩ := argL KX ar hu ho
    exact .lst hs (dw_all KX ar ds _ hall p h2)
  | .tuple ds, _, x, p, hu => by
    obtain ⟨a, vs, rfl, ho, hall⟩ := well_tuple x
    obtain ⟨h2, hs⟩ := argT KX ar hu ho
    exact .tup hs (dw_all KX ar ds _ hall p h2)
  | .float _, _, _, p, _ => Bool.noConfusion (show false = true from p)
  | .dict _, _, _, p, _ => Bool.noConfusion (show false = true from p)
  | .bytearray _, _, _, p, _ => Bool.noConfusion (show false = true from p)
  | .set _, _, _, p, _ => Bool.noConfusion (show false = true from p)
  | .frozenset _, _, _, p, _ => Bool.noConfusion (show false = true from p)
  | .obj _ _, _, _, p, _ => Bool.noConfusion (show false = true from p)
theorem dw_all {Pm : Params} (KX : K.In h) (ar : ∀ a ∈ A, ArgOb h A a) : ∀ (ds : List WData) (vs : List Value), WellAll Pm h vs ds → plWs ds = true → (∀ u ∈ vs, OkU A u) → DwAll K (argH K h A) (vs.map toV) ds
  | [], _, x, _, _ => by
    cases x
    exact .nil
  | d :: ds, _, x, p, hu => by
    obtain ⟨v, vs, rfl, x1, x2⟩ := well_cons x
    have q : plW d = true ∧ plWs ds = true := Bool.and_eq_true_iff.mp p
    exact .cons (dw_one KX ar d v x1 q.1 (hu _ (List.mem_cons_self ..))) (dw_all KX ar ds vs x2 q.2 fun u m => hu u (List.mem_cons_of_mem _ m))
end
end
theorem spec_call {P : Program} {w : World} {K : PySem.W.Frag} {mg mb : Str → Option Value} {CX : CXT} {k : Nat} {fa : Addr} {fd : FuncData} {ps : List Str} {sp : Sp} {s₁ : Shared} {vals : List Value} {ds : List WData} {R : PySem.W.WRecords} {cl : Str → Option Addr} {d0 : WData}
    (KX : K.In s₁.heap) (hns : s₁.heap.Ns mainGlobals mg) (hb : s₁.heap.Ns builtinsNs mb) (hbb : ∀ x : Str, x ≠ "__name__" → mb x = bootBuiltins x) (hlim : s₁.heap.NoLimit) (hg : s₁.gens = #[])
    (hwl : WellAll w.params s₁.heap vals ds) (hpl : plWs ds = true) (hwt : ∀ d ∈ ds, d.weight ≤ 1048576) (hr : Room k callerA)
    (F : ∀ base : Heap, K.In base → base.Ns mainGlobals mg → FnOk P w K mg base CX k fa fd ps sp) (hbind : ∀ (s : Shared) (us : List Value), us.length = ps.length → BindsTo s fd ⟨us, []⟩ (ps.zip us)) (hlen : ds.length = ps.length)
    (hsp : ∀ (H : Hp) (xs : List V), OnlyF H → DwAll K H xs ds → sp xs H (fun v H' => Dw K H' v d0) fun _ _ _ => False)
    (hCX : ∀ H e s', CX [] H s₁ (fun _ _ _ => False) e s' → False) :
    codeAny (model P w) callerA (.call (.ref fa) ⟨vals, []⟩) (fun r s' => ∃ u as, r = .ok (.ret u) ∧ ReadsW R cl s'.heap u d0 as ∧ OldK s₁.heap s'.heap ∧ s'.os = s₁.os ∧ AllBare s'.gens) s₁ := by
  obtain ⟨A, ho, ar⟩ := area_all ds vals hwl hpl hwt
  have hO : OnlyF (argH K s₁.heap A) := argH_only ar
  have hok : HOk P w (argH K s₁.heap A) s₁.heap := argH_ok ar
  have hS := dw_all KX ar ds vals hwl hpl ho
  have hV := vals_toV ho
  have hK : ∀ b u, argH K s₁.heap A b = some u → K.lookup b = none := fun b u q => (argH_is ar q).1
  have noA : ∀ {b : Addr} {o : Obj} {es : Array DictEntry} {ep : Nat}, s₁.heap.get? b = some o → o.data = .dict es ep → argH K s₁.heap A b = none := fun {b o es ep} e d => by
    cases q : argH K s₁.heap A b with
    | none => rfl
    | some u =>
      obtain ⟨_, vs, _, _, ⟨e2, _⟩ | ⟨e2, _⟩⟩ := argH_is ar q
      · rw [e2] at e
        cases e
        have d' : Data.seq vs.toArray _ = Data.dict es ep := d
        cases d'
      · rw [e2] at e
        cases e
        have d' : Data.seq vs.toArray _ = Data.dict es ep := d
        cases d'
  generalize argH K s₁.heap A = H at hO hok hS hK noA
  have base_of : ∀ {b : Addr} {o : Obj}, s₁.heap.get? b = some o → H b = none → (hidT s₁.heap H).get? b = some o := fun e n => hidT_get e n
  have nsK : ∀ {b : Addr} {m : Str → Option Value}, s₁.heap.Ns b m → (hidT s₁.heap H).Ns b m := fun {b m} ⟨o, es, ep, e, d, r⟩ => ⟨o, es, ep, base_of e (noA e d), d, r⟩
  have nK : ∀ b o, K.lookup b = some o → H b = none := fun b o e => by
    cases q : H b with
    | none => rfl
    | some u =>
      rw [hK b u q] at e
      cases e
  have hKb : K.In (hidT s₁.heap H) := fun b o e => base_of (KX b o e) (nK b o e)
  have hM : Mod K mg (hidT s₁.heap H) := ⟨hKb, nsK hns, ⟨mb, nsK hb, hbb⟩, let ⟨mc, h1, h2⟩ := hlim; ⟨mc, nsK h1, h2⟩⟩
  have e0 : Env0 P w K mg (hidT s₁.heap H) callerA [] s₁ H := ⟨rfl, hM, fun b o e => of_hidT e, Nat.le_of_eq (hidT_size _ _), trivial, fun b hb => absurd (show b ∈ ([] : List Addr) from hb) (by simp), hok, .of_eq hg⟩
  have hl : vals.length = ps.length := by rw [wellAll_len hwl]; exact hlen
  refine codeAny_mono ((F _ hKb (nsK hns)).run callerA [] s₁ H ⟨vals, []⟩ vals (vals.map toV) _ _ hr e0 (hbind s₁ vals hl) hV (hsp H _ hO hS)) fun r s' x => ?_
  cases r with
  | error e => exact (hCX H e s' x).elim
  | ok fl =>
    cases fl with
    | next => exact False.elim x
    | brk => exact False.elim x
    | cont => exact False.elim x
    | ret u =>
      obtain ⟨v, H', os, bare, un, hok', r', q⟩ := x
      have kept : ∀ b o, s₁.heap.get? b = some o → s'.heap.get? b = some o := fun b o e => by
        cases q2 : H b with
        | none => exact un.keep b o e q2 (by intro z; exact absurd (show b ∈ ([] : List Addr) from z) (by simp)) (by simp)
        | some u2 =>
          rcases hO b with z | ⟨ob, u3, z⟩
          · rw [q2] at z
            cases z
          · have z2 := un.frzs b ob _ z
            obtain ⟨e1, _⟩ := hok b _ z
            obtain ⟨e2, _⟩ := hok' b _ z2
            rw [e] at e1
            cases e1
            exact e2
      have KX' : K.In s'.heap := fun b o e => kept b o (KX b o e)
      obtain ⟨as, hrd⟩ := Dw.reads (R := R) (cl := cl) hok' KX' d0 v u q r'
      exact ⟨u, as, rfl, hrd, OldK.of_keep kept, os, bare⟩
theorem layable_weight {ds : List WData} (h : WData.layableAll ds = true) : ∀ d ∈ ds, d.weight ≤ 1048576 := fun d hd =>
  (PySem.W.layableW_iff.mp (List.all_eq_true.mp h d hd)).2.2
theorem encAll_len : ∀ (cs : List Codec) (a : Codec.denoteAll cs), (Codec.encAll cs a).length = cs.length
  | [], _ => rfl
  | c :: cs, a => by
    show (Codec.encAll cs a.2).length + 1 = cs.length + 1
    rw [encAll_len cs a.2]
theorem walk_spec {r : OpenSpec} {k : Nat} {q : Program} {loose : List Str} {XP : (Str → Option Value) → Heap → Prop} {YP : World → Heap → Prop} {d : DefRec} {K : Params → PySem.W.Frag} {CX : World → CXT} {ps : List Str} {sp : World → Sp}
    (hwell : r.wellSaid = true) (hdf : d.params.defaults = []) (hlen : r.args.length = ps.length) (hr : Room k callerA)
    (hY : ∀ (w : World) (h : Heap), YP w h → (K w.params).In h)
    (F : ∀ (w : World) (mg : Str → Option Value) (fa : Addr) (h : Heap), YP w h → (K w.params).In h → h.Ns mainGlobals mg → mg d.name = some (.ref fa) →
      ∃ fd : FuncData, (∀ (s : Shared) (us : List Value), us.length = ps.length → BindsTo s fd ⟨us, []⟩ (ps.zip us)) ∧
        ∀ base : Heap, (K w.params).In base → base.Ns mainGlobals mg → FnOk r.prog w (K w.params) mg base (CX w) k fa fd ps (sp w))
    (hsp : ∀ (w : World) (H : Hp) (xs : List V) (a : Codec.denoteAll r.args), OnlyF H → Codec.withinAll r.args a = true → Codec.app r.args r.asked a = true → DwAll (K w.params) H xs (Codec.encAll r.args a) →
      sp w xs H (fun v H' => Dw (K w.params) H' v (r.ret.enc (Codec.app r.args r.f a))) fun _ _ _ => False)
    (hCX : ∀ (w : World) (H : Hp) (s : Shared) (e : Value) (s' : Shared), CX w [] H s (fun _ _ _ => False) e s' → False) :
    PySem.W.WalkOS q loose XP YP r d [] (fun f vs => PySem.call f vs) := by
  intro w s_0 s₁ mg mb G Y fa o pm cd doc dV kV ho hd hcd hD hmg hg args vals as hpre hlay hrd hwl hlo
  obtain ⟨a, e1, e2⟩ := PySem.W.os_pre_some hpre
  obtain ⟨e3, hwi⟩ := Codec.encAll_of_decAll r.args args a e1
  subst e3
  have KX := hY w _ Y
  obtain ⟨fd, hb, hF⟩ := F w mg fa _ Y KX G.T.g hmg
  refine PySem.W.enter_call (codeAny_mono (spec_call (R := []) (cl := classAt s_0.heap) (d0 := r.ret.enc (Codec.app r.args r.f a)) KX G.T.g G.T.b G.T.builtins G.T.nolimit hg hwl (pl_encAll _ _) (layable_weight hlay) hr hF hb (by rw [encAll_len]; exact hlen)
    (fun H xs hO hS => hsp w H xs a hO hwi e2 hS) fun H e s' => hCX w H s₁ e s') fun r' s' hq => ?_)
  obtain ⟨u, as', rfl, h1, h2, h3, h4⟩ := hq
  exact ⟨.inl ⟨u, _, as', rfl, fun _ => rfl, h1, (OpenSpec.post_iff hwell hwi _ _).mpr rfl, fun z => Bool.noConfusion (show false = true from z)⟩, h2, h3, h4⟩
theorem walk_specK {r : OpenSpec} {k : Nat} {q : Program} {loose : List Str} {XP : (Str → Option Value) → Heap → Prop} {YP : World → Heap → Prop} {d : DefRec} {K : Params → PySem.W.Frag} {CX : CXT} {ps : List Str} {sp : PySem.W.Frag → Sp}
    (hwell : r.wellSaid = true) (hdf : d.params.defaults = []) (hlen : r.args.length = ps.length) (hr : Room k callerA)
    (hY : ∀ (w : World) (h : Heap), YP w h → (K w.params).In h)
    (F : ∀ (w : World) (mg : Str → Option Value) (fa : Addr) (h : Heap), YP w h → (K w.params).In h → h.Ns mainGlobals mg → mg d.name = some (.ref fa) →
      ∃ fd : FuncData, (∀ (s : Shared) (us : List Value), us.length = ps.length → BindsTo s fd ⟨us, []⟩ (ps.zip us)) ∧
        ∀ base : Heap, (K w.params).In base → base.Ns mainGlobals mg → FnOk r.prog w (K w.params) mg base CX k fa fd ps (sp (K w.params)))
    (hsp : ∀ (K : PySem.W.Frag) (H : Hp) (xs : List V) (a : Codec.denoteAll r.args), OnlyF H → Codec.withinAll r.args a = true → Codec.app r.args r.asked a = true → DwAll K H xs (Codec.encAll r.args a) →
      sp K xs H (fun v H' => Dw K H' v (r.ret.enc (Codec.app r.args r.f a))) fun _ _ _ => False)
    (hCX : ∀ (H : Hp) (s : Shared) (e : Value) (s' : Shared), CX [] H s (fun _ _ _ => False) e s' → False) :
    PySem.W.WalkOS q loose XP YP r d [] (fun f vs => PySem.call f vs) :=
  walk_spec (K := K) (CX := fun _ => CX) (sp := fun w => sp (K w.params)) hwell hdf hlen hr hY F (fun w H xs a h1 h2 h3 h4 => hsp (K w.params) H xs a h1 h2 h3 h4) fun _ H s e s' => hCX H s e s'
end L2
end
namespace HT
open PySem PyProof.Rows
def lexLe : List Int → List Int → Bool
  | [], _ => true
  | _ :: _, [] => false
  | x :: xs, y :: ys => if x = y then lexLe xs ys else decide (x ≤ y)
theorem rcLe_int (A : Around) (s : Shared) (a : Int) (t : Tok) (c : Int) (u : Tok) (prog : Program) (w : World) (E : Value → Shared → Prop) (Q : Value → Shared → Prop) (h : Q (.bool (decide (a ≤ c))) s) :
    wpAny (model prog w) A (richCompare .LtE (.int a t) (.int c u)) Q E s :=
  (PyProof.Rows.le_int h : wpAny (model prog w) A (compareOp .LtE (.int a t) (.int c u)) Q E s)
section
open PySem.SeqAt
open PySem.AutoSeq1 (wpAny_loadPart')
open PySem.MeetsSeq PySem.MeetsSeq2 PySem.MeetsSeq3
theorem tuple_le_ints (l b : Addr) (items items2 : Array Value) (n n2 : Nat) (dd dd2 : Option Addr) (sl sl2 : Array (Option Value)) (ns ms : List Int) (hi : IntsAre items.toList ns) (hj : IntsAre items2.toList ms) :
    Meets (Builtin.«tuple.__le__» ⟨[.ref l, .ref b], []⟩)
      (fun _ R s => s.heap.get? l = some { cls := .type "tuple", dict := dd, data := .seq items n, slots := sl } ∧ s.heap.get? b = some { cls := .type "tuple", dict := dd2, data := .seq items2 n2, slots := sl2 } ∧
        R (.ok (.ret (.bool (lexLe ns ms)))) s) :=
  .of_wp fun prog w A R s h => by
    obtain ⟨hp, g, d, tk, os⟩ := s
    obtain ⟨hl, hb, h⟩ := h
    have f2 := AutoSeq1.sub_tuple_tuple
    have z1 : items.size = ns.length := by
      rw [← hi.length]
      simp
    have z2 : items2.size = ms.length := by
      rw [← hj.length]
      simp
    wp_walk using wpAny_loadPart' hl, wpAny_loadPart' hb, wpAny_forIn_list _ (fun rest b s' => b.1 = none ∧ s' = ⟨hp, g, d, tk, os⟩ ∧ ∃ (vs ws : List Value) (ns' ms' : List Int), rest = vs.zip ws ∧
      IntsAre vs ns' ∧ IntsAre ws ms' ∧ ns'.length + items2.size = ms'.length + items.size ∧ R (.ok (.ret (.bool (lexLe ns' ms')))) ⟨hp, g, d, tk, os⟩) _
    case turn =>
      rintro ⟨y, x⟩ rest b s' ⟨hb', rfl, vs, ws, ns', ms', hz, hvi, hwi, hlen, hR⟩
      cases hvi with
      | nil =>
        rw [List.zip_nil_left] at hz
        cases hz
      | cons a t hvi' =>
        cases hwi with
        | nil =>
          rw [List.zip_nil_right] at hz
          cases hz
        | cons c u hwi' =>
          rw [List.zip_cons_cons] at hz
          injection hz with hyx hrest
          injection hyx with hy hx
          subst hy hx
          unfold lexLe at hR
          simp only [List.length_cons] at hlen
          obtain ⟨e, he, hiff⟩ := eqAt_int A.in1 ⟨hp, g, d, tk, os⟩ a t c u
          refine wpAny_bind (he prog w _ _ ?_)
          cases e with
          | true =>
            rw [if_pos (hiff.mp rfl)] at hR
            wp_walk
            exact ⟨rfl, rfl, _, _, _, _, hrest, hvi', hwi', by omega, hR⟩
          | false =>
            rw [if_neg (fun q => absurd (hiff.mpr q) Bool.false_ne_true)] at hR
            have hri := rcLe_int A.in1 ⟨hp, g, d, tk, os⟩ a t c u prog w
            wp_walk using hri
            exact ⟨_, rfl, by simpa using hR⟩
    case fin =>
      rintro ⟨b1, b2⟩ s' ⟨hb', rfl, vs, ws, ns', ms', hz, hvi, hwi, hlen, hR⟩
      simp only at hb'
      subst hb'
      have hv : lexLe ns' ms' = decide (items.size ≤ items2.size) := by
        cases hvi with
        | nil =>
          rw [lexLe]
          simp only [List.length_nil] at hlen
          exact (decide_eq_true (by omega)).symm
        | cons a t hv =>
          cases hwi with
          | nil =>
            simp only [List.length_nil, List.length_cons] at hlen
            rw [lexLe]
            exact (decide_eq_false (by omega)).symm
          | cons c u hw =>
            rw [List.zip_cons_cons] at hz
            cases hz
      rw [hv] at hR
      wp_walk
      exact ⟨_, rfl, by simpa [Builtin.Tuple.tupleCompareSizes] using hR⟩
    case h =>
      exact ⟨rfl, rfl, items.toList, items2.toList, ns, ms, rfl, hi, hj, by omega, h⟩
end
theorem le_tupInts {prog : Program} {w : World} {A : Around} {E : Value → Shared → Prop} {s : Shared} {l b : Addr} {items items2 : Array Value} {ns ms : List Int} {Q : Value → Shared → Prop} (hl : IsTup s.heap l items) (hb : IsTup s.heap b items2) (hi : IntsAre items.toList ns) (hj : IntsAre items2.toList ms)
    (hu : A.units < cLine) (h : Q (.bool (lexLe ns ms)) s) : wpAny (model prog w) A (compareOp .LtE (.ref l) (.ref b)) Q E s := by
  obtain ⟨⟨cls, dd, data, sl⟩, ho, hc, n, hd⟩ := id hl
  obtain ⟨⟨cls2, dd2, data2, sl2⟩, ho2, hc2, n2, hd2⟩ := id hb
  simp only at hc hd hc2 hd2
  subst hc hd hc2 hd2
  exact richCompare_meets_room (op := .LtE) ⟨_, ho, rfl⟩ ⟨_, ho2, rfl⟩ PySem.F.slot_tuple_le PySem.F.entry_tuple_le (PySem.F.args_tuple_le_2 _ _) (tuple_le_ints l b items items2 n n2 dd dd2 sl sl2 ns ms hi hj)
    ⟨ho, ho2, show Value.bool (lexLe ns ms) ≠ Value.notImplemented ∧ Q (.bool (lexLe ns ms)) s from ⟨(fun x => nomatch x), h⟩⟩ hu
end HT
namespace L2
open PySem PySem.Spec PyProof.Rows
def rLeT (K : PySem.W.Frag) : R2 := fun x y H Q => ∃ a b ns ms, x = .ref a ∧ y = .ref b ∧ SqT K H a (ns.map V.int) ∧ SqT K H b (ms.map V.int) ∧ Q (.bl (HT.lexLe ns ms)) H
theorem op_leT {X : Cx} (hu : X.A.units < cLine) : OpR X (compareOp .LtE) (rLeT X.K) := by
  intro pins s σ H x y v u Q I rx ry h
  obtain ⟨a, b, ns, ms, ex, ey, hA, hB, q⟩ := h
  subst ex ey
  cases rx
  cases ry
  obtain ⟨its, r1, t1, _⟩ := I.tuple hA
  obtain ⟨its2, r2, t2, _⟩ := I.tuple hB
  exact HT.le_tupInts t1 t2 (intsAre_of (by simpa using r1)) (intsAre_of (by simpa using r2)) hu ⟨.bl _, H, I, rfl, q⟩
end L2
namespace L2
open PySem PySem.Spec PyProof.Rows
theorem erase_map {α β : Type} {f : α → β} : ∀ (l : List α) (j : Nat), (l.map f).eraseIdx j = (l.eraseIdx j).map f
  | [], j => rfl
  | x :: l, 0 => rfl
  | x :: l, j + 1 => by
    show f x :: (l.map f).eraseIdx j = f x :: (l.eraseIdx j).map f
    rw [erase_map l j]
section
variable {prog : Program} {w : World} {K : Type} [DecidableEq K] {knd : HeapKind prog w K} {A : Around} {E : Value → Shared → Prop} {s : Shared} {d a : Addr} {k : K} {xs : List (K × Addr × Value)}
theorem setDef_heap {v : Value} {Q : Value → Shared → Prop} (hu : knd.room A) (hkey : knd.is s.heap k a) (hm : s.heap.DictOfH knd d xs)
    (h1 : ∀ p, atKey xs k = some p → Q p.2 { s with toks := s.toks + knd.draws k })
    (h2 : atKey xs k = none → ∀ h', h'.DictOfH knd d (storedH xs k a v) → Heap.SameBut d s.heap h' → Q v { s with heap := h', toks := s.toks + knd.draws k })
    (hsz : xs.length ≤ sizeLine) : wpAny (model prog w) A (dictSetDefault d (.ref a) v) Q E s := by
  obtain ⟨o, es, ep, ho, hc, hd, he, his, hn⟩ := hm
  unfold dictSetDefault
  refine wpAny_holding ?_
  refine wpAny_bind (knd.pyHash hu hkey ?_)
  refine wpAny_bind (wpAny_dictFind_heap (s := { s with toks := s.toks + knd.draws k }) hu hkey ho hd he his hn (fun hno => ?_) fun j p hj => ?_)
  · have hk0 := atKey_none_of_get hno
    have hnot : k ∉ xs.map (·.1) := not_mem_keys_of_get hno
    refine wpAny_bind (wpAny_rule ?_)
    refine wpAny_bind (wpAny_updateDictKeys (hz := by have e := size_of_entries he; omega) (s := { s with toks := s.toks + knd.draws k }) ho hd (wpAny_pure (h2 hk0 _
      ⟨_, _, ep + 1, Heap.get?_update_self _ ho (Obj.isFreed_of_dict (Obj.data_mapDictKeys hd _)), hc.mapDictKeys _, Obj.data_mapDictKeys hd _, ?_, ?_, ?_⟩ (Heap.SameBut.update ..))))
    · rw [storedH_new hk0]
      simp [he, entryOfKey]
    · rw [storedH_new hk0]
      intro x hx
      rcases List.mem_append.mp hx with hx | hx
      · exact knd.keeps (his x hx) ho hd (Heap.SameBut.update ..)
      · rw [List.mem_singleton.mp hx]
        exact knd.keeps hkey ho hd (Heap.SameBut.update ..)
    · rw [storedH_new hk0, List.map_append, List.nodup_append]
      refine ⟨hn, by simp, fun x hx y hy e => hnot ?_⟩
      rw [List.map_cons, List.map_nil, List.mem_singleton] at hy
      rw [e, hy] at hx
      exact hx
  · refine wpAny_bind (wpAny_dictEntries (s := { s with toks := s.toks + knd.draws k }) ho hd ?_)
    rw [entry_at he j, hj]
    exact wpAny_bind (wpAny_rule (wpAny_pure (h1 p (atKey_of_get hn hj))))
def dropH (xs : List (K × Addr × Value)) (k : K) : List (K × Addr × Value) := xs.filter fun x => decide (x.1 ≠ k)
theorem eraseIdx_dropH : ∀ {xs : List (K × Addr × Value)} {j : Nat} {k : K} {p : Addr × Value}, (xs.map (·.1)).Nodup → xs[j]? = some (k, p) → xs.eraseIdx j = dropH xs k
  | [], j, k, p, _, h => by simp at h
  | x :: xs, 0, k, p, hn, h => by
    have e : x = (k, p) := Option.some.inj h
    subst e
    rw [List.map_cons, List.nodup_cons] at hn
    show xs = dropH ((k, p) :: xs) k
    unfold dropH
    rw [List.filter_cons, if_neg (by simp)]
    refine (List.filter_eq_self.mpr fun y hy => ?_).symm
    exact decide_eq_true fun q => hn.1 (q ▸ List.mem_map.mpr ⟨y, hy, rfl⟩)
  | x :: xs, j + 1, k, p, hn, h => by
    rw [List.map_cons, List.nodup_cons] at hn
    have h' : xs[j]? = some (k, p) := h
    have ne : x.1 ≠ k := fun q => hn.1 (List.mem_map.mpr ⟨(k, p), List.mem_of_getElem? h', q.symm⟩)
    show x :: xs.eraseIdx j = dropH (x :: xs) k
    rw [eraseIdx_dropH hn.2 h']
    unfold dropH
    rw [List.filter_cons, if_pos (by simpa using ne)]
theorem takeOut_heap {Q : Option DictEntry → Shared → Prop} (hu : knd.room A) (hkey : knd.is s.heap k a) (hm : s.heap.DictOfH knd d xs)
    (h1 : atKey xs k = none → Q none { s with toks := s.toks + knd.draws k })
    (h2 : ∀ p, atKey xs k = some p → ∀ (e : DictEntry) h', e.val = p.2 → h'.DictOfH knd d (dropH xs k) → Heap.SameBut d s.heap h' → Q (some e) { s with heap := h', toks := s.toks + knd.draws k })
    (hsz : xs.length ≤ sizeLine) : wpAny (model prog w) A (Builtin.Dict.takeOut d (.ref a)) Q E s := by
  obtain ⟨o, es, ep, ho, hc, hd, he, his, hn⟩ := hm
  unfold Builtin.Dict.takeOut
  refine wpAny_holding ?_
  refine wpAny_bind (knd.pyHash hu hkey ?_)
  refine wpAny_bind (wpAny_dictFind_heap (s := { s with toks := s.toks + knd.draws k }) hu hkey ho hd he his hn (fun hno => ?_) fun j p hj => ?_)
  · exact wpAny_pure (h1 (atKey_none_of_get hno))
  · refine wpAny_bind (wpAny_dictEntries (s := { s with toks := s.toks + knd.draws k }) ho hd ?_)
    have ee := entry_at he j
    rw [hj] at ee
    rw [ee]
    refine wpAny_bind (wpAny_updateDictKeys (hz := by have e := size_of_entries he; omega) (s := { s with toks := s.toks + knd.draws k }) ho hd (wpAny_pure (h2 p (atKey_of_get hn hj) _ _ rfl
      ⟨_, _, ep + 1, Heap.get?_update_self _ ho (Obj.isFreed_of_dict (Obj.data_mapDictKeys hd _)), hc.mapDictKeys _, Obj.data_mapDictKeys hd _, ?_, ?_, ?_⟩ (Heap.SameBut.update ..))))
    · rw [← eraseIdx_dropH hn hj]
      obtain ⟨l⟩ := es
      have he' : l = xs.map (entryOfKey knd) := he
      subst he'
      have hlt : j < xs.length := (List.getElem?_eq_some_iff.mp hj).1
      simp [hlt, erase_map]
    · intro x hx
      exact knd.keeps (his x (List.mem_filter.mp hx).1) ho hd (Heap.SameBut.update ..)
    · exact List.Sublist.nodup (List.Sublist.map _ List.filter_sublist) hn
end
theorem KT.dropH {H : Hp} {kvs : List (List Key × V)} {xs : List (List Key × Addr × Value)} (r : KT H kvs xs) (k : List Key) : KT H (dropK kvs k) (dropH xs k) := by
  unfold dropK L2.dropH
  induction r with
  | nil => exact .nil
  | @cons p q ps qs h t ih =>
    rw [List.filter_cons, List.filter_cons]
    by_cases e : p.1 = k
    · rw [if_neg (by simpa using e), if_neg (by rw [← h.1]; simpa using e)]
      exact ih
    · rw [if_pos (by simpa using e), if_pos (by rw [← h.1]; simpa using e)]
      exact .cons h ih
section
variable {X : Cx} {pins : List (Addr × Obj)} {σ : St} {H : Hp} {s : Shared} {a b : Addr} {z : V} {r : Value} {A : Around} {E : Value → Shared → Prop} {kvs : List (List Key × V)} {k : List Key}
theorem d_setDefT {Q : Value → Shared → Prop} (hu : A.units + 1 < cLine) (I : Inv X pins σ H s) (e : H a = some (.dT kvs)) (eb : H b = some (.tup (k.map kV))) (rz : RelV z r) (hl : kvs.length < sizeLine)
    (h1 : ∀ v w' s', valV kvs k = some v → Inv X pins σ H s' → RelV v w' → Q w' s') (h2 : ∀ s', valV kvs k = none → Inv X pins σ (upd H a (.dT (putK kvs k z))) s' → Q r s') :
    wpAny (model X.prog X.w) A (call (.builtin "dict.setdefault") [.ref a, .ref b, r]) Q E s := by
  obtain ⟨z0, hd, xs, rel, dd⟩ := dt_of I.hok e
  have hz : xs.length ≤ sizeLine := by
    rw [← Paired.length rel]
    exact z0
  have hl2 : (putK kvs k z).length ≤ sizeLine := by
    have := length_putK kvs k z
    omega
  refine wpAny_call_entry PySem.F.slot_dict_setdefault dd.typeIs PySem.F.entry_dict_setdefault ?_ (PySem.F.args_dict_setdefault_3 _ _ _)
  unfold Builtin.«dict.setdefault»
  refine wpAny_bind ?_
  unfold Builtin.Dict.keyAndDefault
  refine wpAny_bind (wpAny_notOrdered_dict dd.typeIs ?_)
  show wpAny _ _ (pure (a, Value.ref b, some r)) _ _ s
  refine wpAny_pure ?_
  show wpAny _ _ (if (a == sysModules) = true then _ else (dictSetDefault a (.ref b) r >>= _)) _ _ s
  rw [if_neg (by rw [hd]; exact Bool.false_ne_true)]
  refine wpAny_bind (setDef_heap (tupleKind_room_in1 hu) (key_of I.hok eb) dd (fun p hp => ?_) (fun hn h' dd' hs => ?_) hz)
  · obtain ⟨v, hv, rv⟩ : ∃ v, valV kvs k = some v ∧ RelV v p.2 := by
      have q := rel.val k
      rw [hp] at q
      cases hv : valV kvs k with
      | none =>
        rw [hv] at q
        exact q.elim
      | some v =>
        rw [hv] at q
        exact ⟨v, rfl, q⟩
    exact wpAny_pure ⟨_, rfl, h1 v p.2 _ hv (I.tok _) rv⟩
  · have hv : valV kvs k = none := by
      have q := rel.val k
      rw [hn] at q
      cases hv : valV kvs k with
      | none => rfl
      | some v =>
        rw [hv] at q
        exact q.elim
    refine wpAny_pure ⟨_, rfl, h2 _ hv ?_⟩
    obtain ⟨q, es, ep, hq, g2, g3, g4, _, g5⟩ := dd'
    refine d_write I (by rw [e]; exact True.intro) hs ⟨q, hq⟩ ⟨hl2, hd, _, (rel.put k eb rz).keeps fun c ys ec => ?_, q, es, ep, hq, g2, g3, g4, g5⟩
    rw [upd_ne (ne_of ec e (fun z => nomatch z))]
    exact ec
theorem d_popT {Q : Value → Shared → Prop} (hu : A.units + 1 < cLine) (I : Inv X pins σ H s) (e : H a = some (.dT kvs)) (eb : H b = some (.tup (k.map kV))) (rz : RelV z r)
    (h1 : ∀ v w' s', valV kvs k = some v → Inv X pins σ (upd H a (.dT (dropK kvs k))) s' → RelV v w' → Q w' s') (h2 : ∀ s', valV kvs k = none → Inv X pins σ H s' → Q r s') :
    wpAny (model X.prog X.w) A (call (.builtin "dict.pop") [.ref a, .ref b, r]) Q E s := by
  obtain ⟨z0, hd, xs, rel, dd⟩ := dt_of I.hok e
  have hz : xs.length ≤ sizeLine := by
    rw [← Paired.length rel]
    exact z0
  have hnone : atKey xs k = none → valV kvs k = none := fun hn => by
    have q := rel.val k
    rw [hn] at q
    cases hv : valV kvs k with
    | none => rfl
    | some v =>
      rw [hv] at q
      exact q.elim
  refine wpAny_call_entry PySem.F.slot_dict_pop dd.typeIs PySem.F.entry_dict_pop ?_ (PySem.F.args_dict_pop_3 _ _ _)
  unfold Builtin.«dict.pop»
  refine wpAny_bind ?_
  unfold Builtin.Dict.keyAndDefault
  refine wpAny_bind (wpAny_notOrdered_dict dd.typeIs ?_)
  show wpAny _ _ (pure (a, Value.ref b, some r)) _ _ s
  refine wpAny_pure ?_
  obtain ⟨ob, es, ep, ho, hc, hdat, he, his, hn⟩ := id dd
  show wpAny _ _ (dictEntries a >>= _) _ _ s
  refine wpAny_bind (wpAny_dictEntries ho hdat (wpAny_bind (wpAny_pure ?_)))
  by_cases hem : es.isEmpty = true
  · rw [hem]
    have hx : xs = [] := by
      have e1 := size_of_entries he
      have e2 : es.size = 0 := by simpa using hem
      exact List.length_eq_zero_iff.mp (by omega)
    show wpAny _ _ (rule "dict.pop.empty" >>= _) _ _ s
    refine wpAny_bind (wpAny_rule (wpAny_bind (wpAny_pure ?_)))
    show wpAny _ _ (Builtin.Dict.missedRemoval a (.ref b) >>= _) _ _ s
    refine wpAny_bind (wpAny_missedRemoval_other hd ?_)
    refine wpAny_bind (wpAny_rule (wpAny_pure ⟨_, rfl, h2 _ (hnone (by rw [hx]; rfl)) (I.tok _)⟩))
  · rw [show es.isEmpty = false from by simpa using hem]
    show wpAny _ _ (Builtin.Dict.takeOut a (.ref b) >>= _) _ _ s
    refine wpAny_bind (takeOut_heap (tupleKind_room_in1 hu) (key_of I.hok eb) dd (fun hn0 => ?_) (fun p hp en h' hev dd' hs => ?_) hz)
    · show wpAny _ _ (Builtin.Dict.missedRemoval a (.ref b) >>= _) _ _ _
      refine wpAny_bind (wpAny_missedRemoval_other hd ?_)
      refine wpAny_bind (wpAny_rule (wpAny_pure ⟨_, rfl, h2 _ (hnone hn0) (I.tok _)⟩))
    · obtain ⟨v, hv, rv⟩ : ∃ v, valV kvs k = some v ∧ RelV v p.2 := by
        have q := rel.val k
        rw [hp] at q
        cases hv : valV kvs k with
        | none =>
          rw [hv] at q
          exact q.elim
        | some v =>
          rw [hv] at q
          exact ⟨v, rfl, q⟩
      show wpAny _ _ (letGo [en.key] [en.val] >>= _) _ _ _
      refine wpAny_bind (wpAny_letGo (wpAny_pure ⟨_, rfl, h1 v _ _ hv ?_ (by rw [hev]; exact rv)⟩))
      obtain ⟨q, es2, ep2, hq, g2, g3, g4, _, g5⟩ := dd'
      refine d_write I (by rw [e]; exact True.intro) hs ⟨q, hq⟩ ⟨Nat.le_trans (dropK_le kvs k) z0, hd, _, (rel.dropH k).keeps fun c ys ec => ?_, q, es2, ep2, hq, g2, g3, g4, g5⟩
      rw [upd_ne (ne_of ec e (fun z => nomatch z))]
      exact ec
end
def tDSetDT (td ty tx : TE) : TE := fun σ H Q => td σ H fun x H1 => ∃ a, x = .ref a ∧ IsD H1 a ∧ ty σ H1 fun y H2 => tx σ H2 fun z H3 => ∃ kvs k b, H3 a = some (.dT kvs) ∧ y = .ref b ∧ H3 b = some (.tup (k.map kV)) ∧ kvs.length < sizeLine ∧
  (∀ v, valV kvs k = some v → Q v H3) ∧ (valV kvs k = none → Q z (upd H3 a (.dT (putK kvs k z))))
def tDPopT (td ty tx : TE) : TE := fun σ H Q => td σ H fun x H1 => ∃ a, x = .ref a ∧ IsD H1 a ∧ ty σ H1 fun y H2 => tx σ H2 fun z H3 => ∃ kvs k b, H3 a = some (.dT kvs) ∧ y = .ref b ∧ H3 b = some (.tup (k.map kV)) ∧
  (∀ v, valV kvs k = some v → Q v (upd H3 a (.dT (dropK kvs k)))) ∧ (valV kvs k = none → Q z H3)
section
variable {X : Cx} {o e f : Expr} {apos cpos : Pos} {td ty tx : TE}
theorem pe_dsetdefT (hu : X.A.units + 1 < cLine) (ho : PE X o td) (he : PE X e ty) (hf : PE X f tx) (m : M2 X o "setdefault" apos e f cpos) : PE X (.Call (.Attribute o "setdefault" apos) [e, f] [] cpos) (tDSetDT td ty tx) := by
  intro pins s σ H Q I h
  refine wpAny_Call_method m.base m.few m.line PySem.F.plainAttrs_dict PySem.F.slot_dict_setdefault PySem.F.type_dict_setdefault (thn (ho pins s σ H _ I h) fun u s1 ⟨x, H1, I1, rx, a, ex, d, q1⟩ => ?_)
  subst ex
  obtain rfl : u = Value.ref a := rx
  obtain ⟨t1, t2, _⟩ := isD_at I1 d
  refine ⟨t1, t2, ?_⟩
  rw [m.trees]
  refine Calls.callWith_builtin rfl (Calls.evalArgs_plain (Calls.spliced_cons (thn (he pins s1 σ H1 _ I1 q1) fun iv s2 ⟨y, H2, I2, ry, q2⟩ =>
    Calls.spliced_cons (thn (hf pins s2 σ H2 _ I2 q2) fun fv s3 ⟨z, H3, I3, rz, kvs, k, b, ea, ey, eb, hl, q3, q4⟩ => Calls.spliced_nil ?_))))
  subst ey
  obtain rfl : iv = Value.ref b := ry
  exact d_setDefT hu I3 ea eb rz hl (fun v w' s4 hv I4 rw' => ⟨v, H3, I4, rw', q3 v hv⟩) fun s4 hv I4 => ⟨z, _, I4, rz, q4 hv⟩
theorem pe_dpopT (hu : X.A.units + 1 < cLine) (ho : PE X o td) (he : PE X e ty) (hf : PE X f tx) (m : M2 X o "pop" apos e f cpos) : PE X (.Call (.Attribute o "pop" apos) [e, f] [] cpos) (tDPopT td ty tx) := by
  intro pins s σ H Q I h
  refine wpAny_Call_method m.base m.few m.line PySem.F.plainAttrs_dict PySem.F.slot_dict_pop PySem.F.type_dict_pop (thn (ho pins s σ H _ I h) fun u s1 ⟨x, H1, I1, rx, a, ex, d, q1⟩ => ?_)
  subst ex
  obtain rfl : u = Value.ref a := rx
  obtain ⟨t1, t2, _⟩ := isD_at I1 d
  refine ⟨t1, t2, ?_⟩
  rw [m.trees]
  refine Calls.callWith_builtin rfl (Calls.evalArgs_plain (Calls.spliced_cons (thn (he pins s1 σ H1 _ I1 q1) fun iv s2 ⟨y, H2, I2, ry, q2⟩ =>
    Calls.spliced_cons (thn (hf pins s2 σ H2 _ I2 q2) fun fv s3 ⟨z, H3, I3, rz, kvs, k, b, ea, ey, eb, q3, q4⟩ => Calls.spliced_nil ?_))))
  subst ey
  obtain rfl : iv = Value.ref b := ry
  exact d_popT hu I3 ea eb rz (fun v w' s4 hv I4 rw' => ⟨v, _, I4, rw', q3 v hv⟩) fun s4 hv I4 => ⟨z, H3, I4, rz, q4 hv⟩
end
end L2
namespace L2
open PySem PySem.Spec PyProof.Rows
abbrev noS : Nat → Bool := fun _ => false
theorem items_ints : ∀ {us : List Value} {ns : List Int} {i : Nat}, IntsAre us ns → tupItems noS i us = some (ns.map Sum.inl)
  | _, _, _, .nil => by simp [tupItems]
  | _, _, i, .cons n t r => by
    have e := items_ints (i := i + 1) r
    simp [tupItems, e]
theorem lex_ints : ∀ (a b : List Int), PyProof.Rows.lexLt itemOrd (a.map Sum.inl) (b.map Sum.inl) = HT.lexLt a b
  | [], [] => rfl
  | [], _ :: _ => rfl
  | _ :: _, [] => rfl
  | x :: a, y :: b => by
    rw [HT.lexLt_cons]
    by_cases e : x = y
    · subst e
      rw [if_pos rfl, ← lex_ints a b]
      exact lex_self (O := itemOrd) _ _ _
    · rw [if_neg e]
      exact lex_diff (O := itemOrd) (fun q => e (Sum.inl.inj q))
def rSortedT (K : PySem.W.Frag) : List V → Hp → VK → Prop := fun vs H Q => ∃ (a : Addr) (as : List Addr) (f : Addr → List Int), vs = [V.ref a] ∧ SqL K H a (as.map V.ref) ∧ (∀ q ∈ as, H q = some (.tup ((f q).map V.int)) ∧ f q ≠ []) ∧
  ∀ (as' : List Addr) (p : Addr), as'.Perm as → as'.Pairwise (fun x y => HT.lexLt (f y) (f x) = false) → H p = none → Q (.ref p) (upd H p (.lst (as'.map V.ref)))
def addrV : Value → Addr
  | .ref a => a
  | _ => 0
theorem tupsOf_refs {h : Heap} : ∀ {as : List Addr}, (∀ q ∈ as, ∃ v, TupOf h noS (.ref q) v) → ∃ fs, TupsOf h noS (as.map Value.ref) fs
  | [], _ => ⟨[], .nil⟩
  | q :: as, H => by
    obtain ⟨v, hv⟩ := H q (List.mem_cons_self ..)
    obtain ⟨fs, hf⟩ := tupsOf_refs (as := as) fun p hp => H p (List.mem_cons_of_mem _ hp)
    exact ⟨v :: fs, .cons hv hf⟩
theorem zip_self {α : Type} : ∀ l : List α, l.zip l = l.map fun x => (x, x)
  | [] => rfl
  | x :: l => by
    rw [List.zip_cons_cons, zip_self l]
    rfl
theorem vals_refs : ∀ as : List Addr, Vals (as.map V.ref) (as.map Value.ref)
  | [] => .nil
  | a :: as => .cons rfl (vals_refs as)
theorem cr_sortedT {X : Cx} : CallR X (.builtin "sorted") (rSortedT X.K) := by
  intro pins s σ H vs us Q I r h
  obtain ⟨a, as, f, rfl, hs, hf, q⟩ := h
  obtain ⟨its, rv, hl, hz⟩ := I.list hs
  rw [Vals.ref1 r]
  have ei := refs_at rv
  subst ei
  rw [List.length_map] at hz
  have ob : ∀ p ∈ as, ∃ (o : Obj) (xs : Array Value) (n : Nat), s.heap.get? p = some o ∧ o.cls = .type "tuple" ∧ o.data = .seq xs n ∧ IntsAre xs.toList (f p) := fun p hp => by
    obtain ⟨_, its, rr, o, ho, hc, n, hd⟩ := I.hok p _ (hf p hp).1
    exact ⟨o, its.toArray, n, ho, hc, hd, by simpa using rr.ints⟩
  have kk : ∀ p ∈ as, G.tupKeyC s.heap noS (.ref p) = some ((f p).map Sum.inl) := fun p hp => by
    obtain ⟨o, xs, n, ho, hc, hd, hi⟩ := ob p hp
    unfold G.tupKeyC
    rw [if_pos (by simp [G.isTupObj, ho, hc])]
    simp only [tupKey, ho, hd]
    exact items_ints hi
  obtain ⟨fs, hfs⟩ := tupsOf_refs (h := s.heap) (as := as) fun p hp => by
    obtain ⟨o, xs, n, ho, hc, hd, hi⟩ := ob p hp
    have ne := (hf p hp).2
    cases hx : xs.toList with
    | nil =>
      rw [hx] at hi
      generalize hfp : f p = l at hi ne
      cases hi
      exact absurd rfl ne
    | cons v r =>
      refine ⟨v, p, o, xs, n, rfl, ho, hc, hd, ?_, fun _ => ?_, fun z => (by cases z)⟩
      · rw [← Array.getElem?_toList, hx]
        rfl
      · rw [hx] at hi
        generalize f p = l at hi
        cases hi with
        | cons k t _ => exact ⟨k, t, rfl⟩
  refine G.sorted_tups hl.isList hfs (fun v hv => ?_) (by rw [List.length_map]; exact hz) fun st' hp hso _ => ?_
  · obtain ⟨p, hp, rfl⟩ := List.mem_map.mp hv
    exact ⟨_, kk p hp⟩
  · obtain ⟨ep, he⟩ := PyProof.Rows.sortedAll_at s.heap (as.map Value.ref) ((arrOf st').map (·.2))
    have hP := Array.perm_iff_toList_perm.mp hp
    rw [pairsOf_toList, zip_self, List.map_map] at hP
    have hmem : ∀ x ∈ (arrOf st').toList, ∃ p ∈ as, x = (Value.ref p, Value.ref p) := fun x hx => by
      obtain ⟨p, hp, e⟩ := List.mem_map.mp (hP.mem_iff.mp hx)
      exact ⟨p, hp, e.symm⟩
    have hL : ((arrOf st').toList.map fun x => addrV x.2).map (fun p => (Value.ref p, Value.ref p)) = (arrOf st').toList := by
      rw [List.map_map]
      refine (List.map_congr_left (g := id) fun x hx => ?_).trans (List.map_id _)
      obtain ⟨p, _, rfl⟩ := hmem x hx
      rfl
    have hperm : ((arrOf st').toList.map fun x => addrV x.2).Perm as := by
      have e := hP.map fun x => addrV x.2
      rw [List.map_map] at e
      refine e.trans (List.Perm.of_eq ?_)
      exact List.map_id as
    generalize has : ((arrOf st').toList.map fun x => addrV x.2) = as' at hL hperm
    have hout : ((arrOf st').map (·.2)).toList = as'.map Value.ref := by
      rw [Array.toList_map, ← hL, List.map_map]
      rfl
    have hget : ∀ (i : Nat) (hi : i < as'.length), KK (G.tupKindC s.heap noS) (arrOf st') i = (f as'[i]).map Sum.inl := fun i hi => by
      have e : (arrOf st')[i]? = some (Value.ref as'[i], Value.ref as'[i]) := by
        rw [← Array.getElem?_toList, ← hL, List.getElem?_map, List.getElem?_eq_getElem hi]
        rfl
      unfold KK
      rw [e]
      show (G.tupKeyC s.heap noS (Value.ref as'[i])).getD [] = _
      rw [kk _ (hperm.mem_iff.mp (List.getElem_mem hi))]
      rfl
    have hsort : as'.Pairwise (fun x y => HT.lexLt (f y) (f x) = false) := by
      rw [List.pairwise_iff_getElem]
      intro i j hi hj hij
      have e := hso i j (by omega) (by rw [pairsOf_size, List.length_map, ← hperm.length_eq]; exact hj)
      rw [hget i hi, hget j hj] at e
      have e : PyProof.Rows.lexLt itemOrd ((f as'[j]).map Sum.inl) ((f as'[i]).map Sum.inl) = false := e
      rw [lex_ints] at e
      exact e
    have hlen : (as'.map V.ref).length ≤ sizeLine := by
      rw [List.length_map, hperm.length_eq]
      exact hz
    refine ⟨.ref _, upd H (s.heap.objs.size + 1) (.lst (as'.map V.ref)), I.laid (t' := s.toks) (fun _ _ => PyProof.Rows.sortedAll_old) (Nat.le_succ _) ⟨hlen, ((arrOf st').map (·.2)).toList, ep, ?_, he⟩, rfl, q as' _ hperm hsort (I.hok.fresh (Nat.le_succ _))⟩
    rw [hout]
    exact vals_refs as'
end L2
namespace L2
open PySem PySem.Spec PyProof.Rows
def Stand (T : List Addr) (h0 h : Heap) : Prop := ∀ b ∈ T, ∀ o, h0.get? b = some o → h.get? b = some o
theorem Stand.go {T : List Addr} {h0 h h' : Heap} {N : List Addr} (g : Stand T h0 h) (hn : ∀ b ∈ T, b ∉ N) (k : ∀ b o, b ∉ N → h.get? b = some o → h'.get? b = some o) : Stand T h0 h' :=
  fun b hb o e => k b o (hn b hb) (g b hb o e)
def CmpAt (prog : Program) (w : World) (A : Around) (T : List Addr) (h0 : Heap) (P : Nat → Value → Prop) (bt : Nat → Nat → Bool) : Prop :=
  ∀ i j vi vj (s : Shared) (Q : Value → Shared → Prop) (E : Value → Shared → Prop), P i vi → P j vj → Stand T h0 s.heap → Q (.bool (bt i j)) s → wpAny (model prog w) A (richCompare .Lt vi vj) Q E s
section
variable {prog : Program} {w : World} {A : Around} {R : Result → Shared → Prop} {I : Addr} {fp wr T : List Addr} {n : Nat} {P : Nat → Value → Prop} {St : Nat → Heap → Prop} {h0 : Heap}
theorem min_turns (W : Walks prog w A.in1 I fp wr n P St) (bt : Nat → Nat → Bool) (hcmp : CmpAt prog w A.in1 T h0 P bt) (S : Addr) (hSf : S ∉ fp) (hT : ∀ b ∈ T, b ∉ S :: wr) :
    ∀ (k j : Nat) (s : Shared) (vb : Value) (c : Nat), n - (j + 1) = k → j + 1 ≤ n → St (j + 1) s.heap → Stand T h0 s.heap → P (argBest bt j) vb →
    s.heap.get? S = some { cls := .type "list", dict := none, data := .seq #[vb, vb] c, slots := #[] } →
    (∀ v h' tk, P (argBest bt (n - 1)) v → (∀ b o, b ∉ S :: wr → s.heap.get? b = some o → h'.get? b = some o) → R (.ok (.ret v)) { s with heap := h', toks := tk }) →
    codeAny (model prog w) A (.builtin "min.loop" ⟨[.ref I, .none, .ref S], []⟩) R s := by
  have hSw : S ∉ wr := fun h => hSf (W.sub _ h)
  have hname : (toString "min" ++ toString ".loop" : String) = "min.loop" := by decide
  have two : ∀ b, b ∉ S :: wr → b ≠ S ∧ b ∉ wr := fun b hb => ⟨fun q => hb (by rw [q]; exact List.mem_cons_self ..), fun q => hb (List.mem_cons_of_mem _ q)⟩
  intro k
  induction k with
  | zero =>
    intro j s vb c hk hj hst hG hPb hS hR
    have hin : j + 1 = n := by omega
    refine codeAny_builtin F.entry_min_loop ?_
    rw [Around.under_plainId F.plain_min_loop _]
    show wpAny _ A.in1 (seqItems? (.ref S) >>= _) _ _ s
    refine wpAny_bind (wpAny_seqItems hS rfl ?_)
    show wpAny _ A.in1 (tryCatch (pyNext (.ref I)) _ >>= _) _ _ s
    refine wpAny_bind (wpAny_tryCatch (W.done s _ _ (hin ▸ hst) fun h' tk hk' => ?_))
    have hS' := hk' S _ hSw hS
    show wpAny _ A.in1 (updateSeq S (fun _ => #[]) >>= _) _ _ _
    refine wpAny_bind (wpAny_updateSeq hS' rfl (wpAny_bind (wpAny_letGo (wpAny_pure ?_))))
    refine hR vb _ tk (by rw [← hin]; exact hPb) fun b o hb e => ?_
    obtain ⟨b1, b2⟩ := two b hb
    exact (Heap.get?_update_other _ _ (Ne.symm b1)).trans (hk' b o b2 e)
  | succ k ih =>
    intro j s vb c hk hj hst hG hPb hS hR
    have hlt : j + 1 < n := by omega
    refine codeAny_builtin F.entry_min_loop ?_
    rw [Around.under_plainId F.plain_min_loop _]
    show wpAny _ A.in1 (seqItems? (.ref S) >>= _) _ _ s
    refine wpAny_bind (wpAny_seqItems hS rfl ?_)
    show wpAny _ A.in1 (tryCatch (pyNext (.ref I)) _ >>= _) _ _ s
    refine wpAny_bind (wpAny_tryCatch (W.item (j + 1) s _ _ hlt hst fun v h' tk hP hst' hk' => ?_))
    have hS' := hk' S _ hSw hS
    have G1 : Stand T h0 h' := hG.go hT fun b o hb e => hk' b o (two b hb).2 e
    show wpAny _ A.in1 (tryCatch (holding [v, v] (richCompare .Lt v vb >>= _)) _ >>= _) _ _ _
    refine wpAny_bind (wpAny_tryCatch (wpAny_holding (wpAny_bind (hcmp (j + 1) (argBest bt j) v vb _ _ _ hP hPb G1 ?_))))
    refine wpAny_bind (wpAny_holding (wpAny_truthy_bool ?_))
    refine wpAny_bind (wpAny_letGo (wpAny_pure ?_))
    cases hb : bt (j + 1) (argBest bt j) with
    | true =>
      simp only [if_true]
      refine wpAny_bind (wpAny_updateSeq hS' rfl (wpAny_bind (wpAny_letGo ?_)))
      rw [hname]
      refine wpAny_pure ⟨plainId_quiet F.plain_min_loop _, ih (j + 1) _ v _ (by omega) hlt (W.frame _ _ _ hst' fun b hbf o e => ?_) (G1.go hT fun b o hb e => ?_) (by simp only [argBest, hb, if_true]; exact hP) (Heap.get?_update_self _ hS' rfl)
        fun v' h'' tk'' hP' hk'' => ?_⟩
      · exact (Heap.get?_update_other _ _ (fun h : S = b => hSf (by rw [h]; exact hbf))).trans e
      · exact (Heap.get?_update_other _ _ (Ne.symm (two b hb).1)).trans e
      · exact hR v' h'' tk'' hP' fun b o hb e => hk'' b o hb ((Heap.get?_update_other _ _ (Ne.symm (two b hb).1)).trans (hk' b o (two b hb).2 e))
    | false =>
      simp only [Bool.false_eq_true, if_false]
      refine wpAny_bind (wpAny_letGo ?_)
      rw [hname]
      refine wpAny_pure ⟨plainId_quiet F.plain_min_loop _, ih (j + 1) _ vb c (by omega) hlt hst' G1 (by simp only [argBest, hb, Bool.false_eq_true, if_false]; exact hPb) hS' fun v' h'' tk'' hP' hk'' => ?_⟩
      exact hR v' h'' tk'' hP' fun b o hb e => hk'' b o hb (hk' b o (two b hb).2 e)
end
theorem call_minH {prog : Program} {w : World} {A : Around} {E : Value → Shared → Prop} {s : Shared} {x : Value} {Q : Value → Shared → Prop}
    (h : wpAny (model prog w) A.in1 (pyIter x) (fun it s₂ => ∃ I fp wr n P St bt T, it = .ref I ∧ Walks prog w A.in1 I fp wr n P St ∧ St 0 s₂.heap ∧ (∀ b ∈ fp, b < s₂.heap.objs.size) ∧ 0 < n ∧ (∀ b ∈ T, b ∉ wr ∧ b < s₂.heap.objs.size) ∧
      CmpAt prog w A.in1 T s₂.heap P bt ∧ ∀ v h' tk, P (argBest bt (n - 1)) v → (∀ b o, b ∉ wr → s₂.heap.get? b = some o → h'.get? b = some o) → Q v { s₂ with heap := h', toks := tk }) E s) :
    wpAny (model prog w) A (call (.builtin "min") [x]) Q E s := by
  have hname : (toString "min" ++ toString ".loop" : String) = "min.loop" := by decide
  refine call_function_tree F.kind_min F.plain_min F.entry_min (F.args_min1 _) ?_
  show wpAny _ A.in1 (Builtin.Builtins.bindParams "min" ["key", "default"] 0 ⟨[], []⟩ >>= _) _ _ s
  refine wpAny_bind (wpAny_of_eq (show Builtin.Builtins.bindParams "min" ["key", "default"] 0 ⟨[], []⟩ = pure [none, none] from rfl) ?_)
  refine wpAny_bind (wpAny_pure ?_)
  refine wpAny_bind (wpAny_mono h (fun it s₂ h₂ => ?_) fun _ _ e => e)
  obtain ⟨I, fp, wr, n, P, St, bt, T, rfl, W, hst, hfp, hn, hT, hcmp, hQ⟩ := h₂
  refine wpAny_bind (wpAny_newObj_type ?_)
  have hSf : s₂.heap.objs.size ∉ fp := fun hm => Nat.lt_irrefl _ (hfp _ hm)
  have hSw : s₂.heap.objs.size ∉ wr := fun h => hSf (W.sub _ h)
  rw [hname]
  refine wpAny_pure ⟨plainId_quiet F.plain_min_loop _, ?_⟩
  have hS : (s₂.heap.push { cls := .type "list", data := .seq #[] }).get? s₂.heap.objs.size = some { cls := .type "list", data := .seq #[] } := Heap.get?_push_size _ rfl
  refine codeAny_builtin F.entry_min_loop ?_
  rw [Around.under_plainId F.plain_min_loop _]
  show wpAny _ A.in1 (seqItems? (.ref s₂.heap.objs.size) >>= _) _ _ _
  refine wpAny_bind (wpAny_seqItems hS rfl ?_)
  show wpAny _ A.in1 (tryCatch (pyNext (.ref I)) _ >>= _) _ _ _
  refine wpAny_bind (wpAny_tryCatch (W.item 0 _ _ _ hn (W.frame _ _ _ hst fun b _ o e => Heap.get?_push_of_some _ e) fun v h' tk hP hst' hk' => ?_))
  have hS' := hk' s₂.heap.objs.size _ hSw hS
  show wpAny _ A.in1 (updateSeq s₂.heap.objs.size (fun _ => #[v, v]) >>= _) _ _ _
  refine wpAny_bind (wpAny_updateSeq hS' rfl ?_)
  rw [hname]
  have hTS : ∀ b ∈ T, b ∉ s₂.heap.objs.size :: wr := fun b hb q => by
    rcases List.mem_cons.mp q with z | z
    · exact absurd z (Nat.ne_of_lt (hT b hb).2)
    · exact (hT b hb).1 z
  have two : ∀ b, b ∉ s₂.heap.objs.size :: wr → b ≠ s₂.heap.objs.size ∧ b ∉ wr := fun b hb => ⟨fun q => hb (by rw [q]; exact List.mem_cons_self ..), fun q => hb (List.mem_cons_of_mem _ q)⟩
  have k1 : ∀ b o, b ∉ s₂.heap.objs.size :: wr → s₂.heap.get? b = some o → (h'.update s₂.heap.objs.size (Obj.mapSeq fun _ => #[v, v])).get? b = some o := fun b o hb e =>
    (Heap.get?_update_other _ _ (Ne.symm (two b hb).1)).trans (hk' b o (two b hb).2 (Heap.get?_push_of_some _ e))
  refine wpAny_pure ⟨plainId_quiet F.plain_min_loop _, min_turns W bt hcmp s₂.heap.objs.size hSf hTS _ 0 _ v _ rfl hn (W.frame _ _ _ hst' fun b hbf o e => ?_) (fun b hb o e => k1 b o (hTS b hb) e) hP (Heap.get?_update_self _ hS' rfl) fun v' h'' tk'' hP' hk'' => ?_⟩
  · exact (Heap.get?_update_other _ _ (fun h : s₂.heap.objs.size = b => hSf (by rw [h]; exact hbf))).trans e
  · refine hQ v' h'' tk'' hP' fun b o hb e => ?_
    have hb2 : b ∉ s₂.heap.objs.size :: wr := fun q => by
      rcases List.mem_cons.mp q with z | z
      · exact Nat.ne_of_lt (Heap.lt_size e) z
      · exact hb z
    exact hk'' b o hb2 (k1 b o hb2 e)
def vwV (p d : Addr) : Heap → Prop := fun h => h.get? p = some { cls := .type "dict_values", data := .fields #[.ref d] }
def tValsV (td : TE) : TE := fun σ H Q => td σ H fun x H1 => ∃ d kvs, x = .ref d ∧ H1 d = some (.dK kvs) ∧ ∀ p, H1 p = none → Q (.ref p) (upd H1 p (.ext (vwV p d)))
theorem pe_valsV {X : Cx} {e : Expr} {td : TE} {apos cpos : Pos} (he : PE X e td) (hbase : attributeBase e "values" X.env (eval e X.env) = eval e X.env := by rfl) (hline : (apos.endLine == cpos.line) = true := by rfl) : PE X (.Call (.Attribute e "values" apos) [] [] cpos) (tValsV td) := by
  intro pins s σ H Q I h
  refine wpAny_Call_method (T := "dict") (id := "dict.values") hbase rfl hline F.plainAttrs_dict F.slot_dict_values F.type_dict_values (thn (he pins s σ H _ I h) fun u s1 ⟨x, H1, I1, rx, d, kvs, ex, hd, q⟩ => ?_)
  subst ex
  obtain rfl : u = Value.ref d := rx
  obtain ⟨hz, hs, vs, kv, hm⟩ := dk_of I1.hok hd
  refine ⟨hm.typeIs, hm.mapOf.noDict, ?_⟩
  show wpAny _ _ (callWith cpos (.builtin "dict.values") [.ref d] [] []) _ X.xe s1
  refine method_meetsIn F.slot_dict_values F.entry_dict_values rfl (PySem.evalArgs_none ⟨rfl, hm.typeIs, F.args_dict_values_1 _, _, meets_dict_values (mixKind X.prog X.w) d hs, ⟨vs, hm⟩, ?_⟩)
  have hn := I1.hok.fresh (Nat.le_refl s1.heap.objs.size)
  refine ⟨.ref s1.heap.objs.size, _, I1.laid (a := s1.heap.objs.size) (o := .ext (vwV s1.heap.objs.size d)) (t' := s1.toks) (fun _ _ q => Heap.get?_push_of_some _ q) (Nat.le_refl _) ?_, rfl, q _ hn⟩
  refine ⟨Heap.get?_push_size _ rfl, ⟨_, Heap.get?_push_size _ rfl⟩, fun h1 h2 p k => k _ p⟩
def rMinV : List V → Hp → VK → Prop := fun vs H Q => ∃ (p d : Addr) (kvs : List (Key × V)) (as : List Addr) (f : Addr → List Int), vs = [.ref p] ∧ H p = some (.ext (vwV p d)) ∧ H d = some (.dK kvs) ∧ kvs.map (·.2) = as.map V.ref ∧
  (∀ q ∈ as, H q = some (.tup ((f q).map V.int))) ∧ as ≠ [] ∧ ∀ q ∈ as, (∀ q' ∈ as, HT.lexLt (f q') (f q) = false) → Q (.ref q) H
theorem lexLt_irrefl : ∀ a : List Int, HT.lexLt a a = false
  | [] => rfl
  | x :: a => by
    rw [HT.lexLt_cons, if_pos rfl]
    exact lexLt_irrefl a
theorem lexLt_trans {a b c : List Int} (h1 : HT.lexLt a b = true) (h2 : HT.lexLt b c = true) : HT.lexLt a c = true := by
  rw [← lex_ints] at h1 h2 ⊢
  exact lex_trans (O := itemOrd) _ _ _ h1 h2
theorem argBest_lex (g : Nat → List Int) : ∀ n, argBest (fun i j => HT.lexLt (g i) (g j)) n ≤ n ∧ ∀ j, j ≤ n → HT.lexLt (g j) (g (argBest (fun i j => HT.lexLt (g i) (g j)) n)) = false
  | 0 => ⟨Nat.le_refl _, fun j hj => by
    have e : j = 0 := by omega
    subst e
    exact lexLt_irrefl _⟩
  | n + 1 => by
    obtain ⟨h1, h2⟩ := argBest_lex g n
    rw [argBest]
    cases hb : HT.lexLt (g (n + 1)) (g (argBest (fun i j => HT.lexLt (g i) (g j)) n)) with
    | true =>
      rw [if_pos rfl]
      refine ⟨Nat.le_refl _, fun j hj => ?_⟩
      by_cases e : j = n + 1
      · subst e
        exact lexLt_irrefl _
      · cases hc : HT.lexLt (g j) (g (n + 1)) with
        | false => rfl
        | true =>
          have := h2 j (by omega)
          rw [lexLt_trans hc hb] at this
          cases this
    | false =>
      rw [if_neg Bool.false_ne_true]
      refine ⟨by omega, fun j hj => ?_⟩
      by_cases e : j = n + 1
      · subst e
        exact hb
      · exact h2 j (by omega)
theorem cr_minV {X : Cx} (hcalm : X.calm = true) (hu : X.A.units + 1 < cLine) : CallR X (.builtin "min") rMinV := by
  intro pins s σ H vs us Q I r h
  obtain ⟨p, d, kvs, as, f, rfl, hp, hd, hk, hf, hne, q⟩ := h
  rw [Vals.ref1 r]
  obtain ⟨hvw, _, _⟩ := I.hok p _ hp
  obtain ⟨hz, hs, vs, kv, hm⟩ := dk_of I.hok hd
  obtain ⟨o, es, ep, ho, hx, hdt, r1, r2, r3⟩ := id hm
  have hda : s.heap.DictAt (mixKind X.prog X.w) d vs ep := ⟨o, es, ho, hx, hdt, r1, r2, r3⟩
  have hlen : kvs.length = vs.length := Paired.length kv
  have hlen2 : as.length = kvs.length := by
    rw [← List.length_map (f := V.ref), ← hk, List.length_map]
  have hvs : ∀ (i : Nat) (k : Key) (v : Value), vs[i]? = some (k, v) → ∃ b, as[i]? = some b ∧ v = .ref b := fun i k v e => by
    have hi : i < kvs.length := by
      rw [hlen]
      exact (List.getElem?_eq_some_iff.mp e).1
    obtain ⟨⟨k2, y⟩, hy⟩ : ∃ z, kvs[i]? = some z := ⟨_, List.getElem?_eq_getElem hi⟩
    obtain ⟨u, hu1, ru⟩ := kv_get kv hy
    rw [e] at hu1
    cases hu1
    have e2 : (kvs.map (·.2))[i]? = some y := by rw [List.getElem?_map, hy]; rfl
    rw [hk, List.getElem?_map] at e2
    cases hb : as[i]? with
    | none =>
      rw [hb] at e2
      cases e2
    | some b =>
      rw [hb] at e2
      have e3 : V.ref b = y := Option.some.inj e2
      subst e3
      exact ⟨b, rfl, ru⟩
  have hh := I.ok.hd hcalm
  refine call_minH (wpAny_pyIter_values (d := d) (knd := mixKind X.prog X.w) ⟨_, hvw, rfl, rfl⟩ hda ?_)
  have hsz : d < s.heap.objs.size := Heap.lt_size ho
  refine ⟨s.heap.objs.size, [s.heap.objs.size, d], [s.heap.objs.size], vs.length, _, _, fun i j => HT.lexLt (f (as.getD i 0)) (f (as.getD j 0)), as, rfl,
    Walks.dictValues (knd := mixKind X.prog X.w) (A := X.A.in1) hh s.heap.objs.size d (Nat.ne_of_lt hsz) vs ep, ⟨⟨_, Heap.get?_push_size _ rfl, rfl, rfl⟩, hda.push _⟩, fun b hb => ?_, ?_, fun b hb => ?_, ?_, ?_⟩
  · show b < (s.heap.push _).objs.size
    rw [size_push']
    rcases List.mem_cons.mp hb with e | e
    · rw [e]
      exact Nat.lt_succ_self _
    · rw [List.mem_singleton.mp e]
      exact Nat.lt_succ_of_lt hsz
  · rw [← hlen, ← hlen2]
    exact List.length_pos_iff.mpr hne
  · have hb2 : b < s.heap.objs.size := I.hok.lt (hf b hb)
    refine ⟨fun z => Nat.ne_of_lt hb2 (List.mem_singleton.mp z), ?_⟩
    show b < (s.heap.push _).objs.size
    rw [size_push']
    exact Nat.lt_succ_of_lt hb2
  · rintro i j vi vj s2 Q2 E2 ⟨k1, e1⟩ ⟨k2, e2⟩ st hQ
    obtain ⟨b1, a1, rfl⟩ := hvs i k1 vi e1
    obtain ⟨b2, a2, rfl⟩ := hvs j k2 vj e2
    have g1 : as.getD i 0 = b1 := by rw [List.getD_eq_getElem?_getD, a1]; rfl
    have g2 : as.getD j 0 = b2 := by rw [List.getD_eq_getElem?_getD, a2]; rfl
    have m1 := List.mem_of_getElem? a1
    have m2 := List.mem_of_getElem? a2
    have tup : ∀ b ∈ as, ∃ its : List Value, IntsAre its (f b) ∧ IsTup s2.heap b its.toArray := fun b hb => by
      obtain ⟨_, its, rr, o, ho, hc, n, hd⟩ := I.hok b _ (hf b hb)
      exact ⟨its, rr.ints, o, st b hb o (Heap.get?_push_of_some _ ho), hc, n, hd⟩
    obtain ⟨i1, r1, t1⟩ := tup b1 m1
    obtain ⟨i2, r2, t2⟩ := tup b2 m2
    dsimp only at hQ
    rw [g1, g2] at hQ
    exact (HT.lt_tupInts t1 t2 (by simpa using r1) (by simpa using r2) (show X.A.in1.units < cLine from Nat.lt_of_le_of_lt (Nat.le_of_eq rfl) hu) hQ : wpAny (model X.prog X.w) X.A.in1 (compareOp .Lt (.ref b1) (.ref b2)) Q2 E2 s2)
  · rintro v h' tk ⟨k, e⟩ hkeep
    obtain ⟨b1, a1, rfl⟩ := hvs _ k v e
    refine ⟨.ref b1, H, I.kept fun b o e => hkeep b o (fun z => Nat.ne_of_lt (Heap.lt_size e) (List.mem_singleton.mp z)) (Heap.get?_push_of_some _ e), rfl, q b1 (List.mem_of_getElem? a1) fun b' hb' => ?_⟩
    obtain ⟨j, hj⟩ := List.mem_iff_getElem?.mp hb'
    have hjl : j < as.length := (List.getElem?_eq_some_iff.mp hj).1
    have hb := (argBest_lex (fun i => f (as.getD i 0)) (vs.length - 1)).2 j (by rw [← hlen, ← hlen2]; omega)
    have g1 : as.getD (argBest (fun i j => HT.lexLt (f (as.getD i 0)) (f (as.getD j 0))) (vs.length - 1)) 0 = b1 := by rw [List.getD_eq_getElem?_getD, a1]; rfl
    have g2 : as.getD j 0 = b' := by rw [List.getD_eq_getElem?_getD, hj]; rfl
    rw [g1, g2] at hb
    exact hb
end L2
namespace L2
open PySem PySem.Spec PyProof.Rows
inductive Ents : List DictEntry → List (Int × Int) → Prop
  | nil : Ents [] []
  | cons (k v : Int) (t u : Tok) {es : List DictEntry} {kvs : List (Int × Int)} : Ents es kvs → Ents (⟨hashInt k, .int k t, .int v u⟩ :: es) ((k, v) :: kvs)
abbrev kvI (kvs : List (Int × Int)) : List (Key × V) := kvs.map fun p => (Sum.inl p.1, V.int p.2)
structure KDict (K : PySem.W.Frag) (a : Addr) (kvs : List (Int × Int)) : Prop where
  at_ : ∃ es ep, K.lookup a = some ⟨.type "dict", none, .dict es ep, #[]⟩ ∧ Ents es.toList kvs
  nd : (kvs.map (·.1)).Nodup
theorem ents_pairs {P : Program} {w : World} : ∀ {es : List DictEntry} {kvs : List (Int × Int)}, Ents es kvs → ∃ vs : List (Key × Value), Pairs (mixKind P w) es vs ∧ KV (kvI kvs) vs ∧ ∀ e ∈ es, ∃ k, (mixKind P w).is k e.key = true ∧ e.hash = (mixKind P w).hash k
  | _, _, .nil => ⟨[], .nil, .nil, fun e he => by cases he⟩
  | _, _, .cons k v t u r => by
    obtain ⟨vs, h1, h2, h3⟩ := ents_pairs (P := P) (w := w) r
    refine ⟨(Sum.inl k, .int v u) :: vs, .cons (keyIs_int k t) rfl h1, .cons ⟨rfl, ⟨u, rfl⟩⟩ h2, fun e he => ?_⟩
    rcases List.mem_cons.mp he with e1 | e1
    · rw [e1]
      exact ⟨Sum.inl k, keyIs_int k t, rfl⟩
    · exact h3 e e1
theorem KDict.dict {P : Program} {w : World} {K : PySem.W.Frag} {a : Addr} {kvs : List (Int × Int)} {h : Heap} (d : KDict K a kvs) (KX : K.In h) : ∃ vs : List (Key × Value), KV (kvI kvs) vs ∧ h.DictOf (mixKind P w) a vs := by
  obtain ⟨es, ep, hl, en⟩ := d.at_
  obtain ⟨vs, h1, h2, h3⟩ := ents_pairs (P := P) (w := w) en
  refine ⟨vs, h2, _, es, ep, KX a _ hl, ⟨rfl, rfl, rfl⟩, rfl, fun e he => h3 e (Array.mem_toList_iff.mpr he), h1, ?_⟩
  have e : vs.map (·.1) = (kvs.map (·.1)).map Sum.inl := by
    rw [← h2.keys, List.map_map, List.map_map]
    rfl
  rw [e]
  exact List.pairwise_map.mpr (List.Pairwise.imp (fun h q => h (Sum.inl.inj q)) d.nd)
def tKGet (kvs : List (Int × Int)) (ti : TE) : TE := fun σ H Q => ti σ H fun y H1 => ∃ k v, y = .int k ∧ valV (kvI kvs) (Sum.inl k) = some v ∧ Q v H1
theorem pe_kget {X : Cx} {x : Str} {a : Addr} {kvs : List (Int × Int)} {i : Expr} {ti : TE} {p pos : Pos} (hg : Gl X x) (hm : X.mg x = some (.ref a)) (hd : KDict X.K a kvs) (hi : PE X i ti) (hs : NoSl i) (hx : (x == ("__debug__" : Str)) = false := by decide) :
    PE X (.Subscript (.Name x p) i pos) (tKGet kvs ti) := by
  intro pins s σ H Q I h
  refine subD_of PySem.F.slot_dict_getitem.lookup hs (ld_glob I hg hm (thn (hi pins s σ H _ I h) fun iv s2 ⟨y, H2, I2, ry, k, v, ey, l, q2⟩ => ?_) hx)
  subst ey
  obtain ⟨vs, kv, dd⟩ := hd.dict (P := X.prog) (w := X.w) I2.kIn
  refine ⟨dd.typeIs, ?_⟩
  obtain ⟨w', hw, rw'⟩ := RelO.some_of (v := v) (o := valueAt vs (Sum.inl k)) (by rw [← l]; exact kv.val (Sum.inl k))
  exact wpAny_getItem_of (kV_is (k := Sum.inl k) ry) dd.mapOf hw ⟨v, H2, I2.tok _, rw', q2⟩
end L2
namespace Fb
open PySem L2
abbrev nv (n : Nat) : V := .int (n : Int)
theorem xor_and : ∀ (n a b : Nat), a ≤ n → (a ^^^ b) + 2 * (a &&& b) = a + b := by
  intro n
  induction n with
  | zero =>
    intro a b h
    have e : a = 0 := by omega
    subst e
    simp
  | succ n ih =>
    intro a b h
    by_cases ha : a = 0
    · subst ha
      simp
    have i := ih (a / 2) (b / 2) (by omega)
    have x1 := Nat.xor_div_two (a := a) (b := b)
    have x2 := Nat.and_div_two (a := a) (b := b)
    have x3 : (a ^^^ b) % 2 = (a % 2 + b % 2) % 2 := by
      have h1 := Nat.xor_mod_two_eq_one (a := a) (b := b)
      have h2 := Nat.mod_two_eq_zero_or_one (a ^^^ b)
      rcases Nat.mod_two_eq_zero_or_one a with p | p <;> rcases Nat.mod_two_eq_zero_or_one b with q | q <;> rw [p, q] at h1 ⊢ <;> omega
    have x4 : (a &&& b) % 2 = (a % 2) * (b % 2) := by
      have h1 := Nat.and_mod_two_eq_one (a := a) (b := b)
      have h2 := Nat.mod_two_eq_zero_or_one (a &&& b)
      rcases Nat.mod_two_eq_zero_or_one a with p | p <;> rcases Nat.mod_two_eq_zero_or_one b with q | q <;> rw [p, q] at h1 ⊢ <;> omega
    rcases Nat.mod_two_eq_zero_or_one a with p | p <;> rcases Nat.mod_two_eq_zero_or_one b with q | q <;> rw [p, q] at x3 x4 <;> omega
theorem band (a b : Nat) : Builtin.bitAnd (a : Int) (b : Int) = ((a &&& b : Nat) : Int) := by
  rw [PyProof.Rows.bitAnd_pp (by omega) (by omega), Int.toNat_natCast, Int.toNat_natCast]
theorem bxor (a b : Nat) : Builtin.bitXor (a : Int) (b : Int) = ((a ^^^ b : Nat) : Int) := by
  rw [PyProof.Rows.bitXor_and, band]
  have := xor_and a a b (Nat.le_refl _)
  omega
theorem ishr (a k : Nat) (j : Int) (h : j = (k : Int)) : (a : Int) / 2 ^ j.toNat = ((a / 2 ^ k : Nat) : Int) := by
  rw [h, Int.toNat_natCast, Int.natCast_ediv, Int.natCast_pow]
  rfl
theorem and255 (a : Nat) : a &&& 255 = a % 256 := Nat.and_two_pow_sub_one_eq_mod a 8
def bits : Nat → Nat → Nat
  | 0, c => c
  | n + 1, c => Km347.crcBit (bits n c)
theorem bitsN (c : Nat) : ∀ n : Nat, (List.range n).foldl (fun x _ => Km347.crcBit x) c = bits n c
  | 0 => by
    rw [List.range_zero, List.foldl_nil]
    unfold bits
    rfl
  | n + 1 => by
    rw [List.range_succ, List.foldl_append, bitsN c n, List.foldl_cons, List.foldl_nil]
    rw [bits]
theorem bits8 (c b : Nat) : Km347.crcByte c b = bits 8 (c ^^^ b) := by
  unfold Km347.crcByte
  exact bitsN _ 8
theorem le4 (n : Nat) : Km347.le 4 n = [n % 256, n / 256 % 256, n / 65536 % 256, n / 16777216 % 256] := by
  show [n / 256 ^ 0 % 256, n / 256 ^ 1 % 256, n / 256 ^ 2 % 256, n / 256 ^ 3 % 256] = _
  simp
theorem take_snoc {α : Type} : ∀ {l : List α} {i : Nat} {x : α}, l[i]? = some x → l.take (i + 1) = l.take i ++ [x]
  | [], i, x, h => by simp at h
  | a :: l, 0, x, h => by
    have e : a = x := Option.some.inj h
    subst e
    rfl
  | a :: l, i + 1, x, h => by
    have ih := take_snoc (l := l) (i := i) (x := x) h
    show a :: l.take (i + 1) = a :: l.take i ++ [x]
    rw [ih]
    rfl
theorem map_get {α β : Type} {f : α → β} {l : List α} {i : Nat} {y : β} (h : (l.map f)[i]? = some y) : ∃ x, l[i]? = some x ∧ y = f x := by
  rw [List.getElem?_map] at h
  cases e : l[i]? with
  | none =>
    rw [e] at h
    cases h
  | some z =>
    rw [e] at h
    exact ⟨z, rfl, (Option.some.inj h).symm⟩
theorem get_snoc {α : Type} {l : List α} {y x : α} {i : Nat} (h : (l ++ [y])[i]? = some x) : (i < l.length ∧ l[i]? = some x) ∨ (i = l.length ∧ x = y) := by
  by_cases hi : i < l.length
  · rw [List.getElem?_append_left hi] at h
    exact .inl ⟨hi, h⟩
  · rw [List.getElem?_append_right (by omega)] at h
    have e : i - l.length = 0 := by
      cases q : i - l.length with
      | zero => rfl
      | succ k =>
        rw [q] at h
        simp at h
    rw [e] at h
    exact .inr ⟨by omega, (Option.some.inj h).symm⟩
theorem get_map {α β : Type} {f : α → β} {l : List α} {i : Nat} {x : α} (h : l[i]? = some x) : (l.map f)[i]? = some (f x) := by
  rw [List.getElem?_map, h]
  rfl
end Fb
namespace L2
open PySem PySem.Spec PyProof.Rows
theorem pe_gint {X : Cx} {x : Str} {i : Int} {pos : Pos} (hg : Gl X x) (hm : ∃ t, X.mg x = some (.int i t)) (hd : (x == ("__debug__" : Str)) = false := by decide) : PE X (.Name x pos) (tC (.int i)) := by
  obtain ⟨t, h⟩ := hm
  exact pe_glob hg h ⟨t, rfl⟩ hd
theorem iteD {c : Bool} {A B : Prop} (h1 : c = true → A) (h2 : c = false → B) : if c = true then A else B := by
  cases c with
  | true => exact h1 rfl
  | false => exact h2 rfl
theorem eqI_t {i j : Int} (h : decide (V.int i = V.int j) = true) : i = j := V.int.inj (of_decide_eq_true h)
theorem eqI_f {i j : Int} (h : decide (V.int i = V.int j) = false) : ¬ i = j := fun e => of_decide_eq_false h (by rw [e])
theorem lk_eq {k : Str} {v : V} {r : List (Str × V)} : List.lookup k ((k, v) :: r) = some v := by
  rw [List.lookup_cons, beq_self_eq_true]
theorem lk_ne {k m : Str} {v : V} {r : List (Str × V)} (h : ¬ m = k) : List.lookup m ((k, v) :: r) = List.lookup m r := by
  rw [List.lookup_cons, show (m == k) = false from beq_eq_false_iff_ne.mpr h]
theorem putF_nil {f : Str} {v : V} : putF f v [] = [(f, v)] := by rw [putF]
theorem putF_eq {f : Str} {v x : V} {r : List (Str × V)} : putF f v ((f, x) :: r) = (f, v) :: r := by rw [putF, if_pos rfl]
theorem putF_ne {f g : Str} {v x : V} {r : List (Str × V)} (h : ¬ g = f) : putF f v ((g, x) :: r) = (g, x) :: putF f v r := by rw [putF, if_neg h]
theorem Same.new {H : Hp} {p : Addr} {o : HO} (h : H p = none) : Same H (upd H p o) := fun b u e => by
  rw [upd_ne (ne_of_none e h)]
  exact e
theorem lc_rangeC {lo c : Int} {n : Nat} {g : TG} {tt : TT} {te : TE} {vs : List Nat} {σ : St} {H1 : Hp} {D : Addr} {Qd : Hp → Prop} (Pv : Nat → Hp → Prop) (h0 : Pv 0 (upd H1 D (.lst [])))
    (hs : ∀ i H, i < n → Pv i H → g (.int (lo + (i : Nat) * c)) (wipe σ vs) H fun σ2 H2 => wipe σ2 vs = wipe σ vs ∧ tt σ2 H2 fun b H3 =>
      if b = true then te σ2 H3 fun y H4 => ∃ acc, H4 D = some (.lst acc) ∧ acc.length < sizeLine ∧ Pv (i + 1) (upd H4 D (.lst (acc ++ [y]))) else Pv (i + 1) H3) (hd : ∀ H, Pv n H → Qd H) :
    ∃ W : Nat → Nat → Hp → Prop, (∃ m, W 0 m (upd H1 D (.lst []))) ∧ ∀ i m H, W i m H →
      ((Itc lo c n).stop i H ∧ Qd H) ∨ ((Itc lo c n).go i H ∧ ∃ Nx : Hp → Prop, (∀ H', Nx H' → ∃ m', m' < m ∧ W (i + 1) m' H') ∧ ∀ x H', (Itc lo c n).yld i H x H' → g x (wipe σ vs) H' fun σ2 H2 => wipe σ2 vs = wipe σ vs ∧ tt σ2 H2 fun b H3 =>
        if b = true then te σ2 H3 fun y H4 => ∃ acc, H4 D = some (.lst acc) ∧ acc.length < sizeLine ∧ Nx (upd H4 D (.lst (acc ++ [y]))) else Nx H3) := by
  refine ⟨fun i m H => m = n - i ∧ i ≤ n ∧ Pv i H, ⟨n, by simp, Nat.zero_le _, h0⟩, ?_⟩
  rintro i m H ⟨rfl, hi, p⟩
  by_cases hlt : i < n
  · refine .inr ⟨hlt, Pv (i + 1), fun H' p' => ⟨n - (i + 1), by omega, rfl, hlt, p'⟩, fun x H' y => ?_⟩
    obtain ⟨e, y⟩ := y
    subst e y
    exact hs i _ hlt p
  · have e : i = n := by omega
    subst e
    exact .inl ⟨Nat.le_refl _, hd H p⟩
theorem rgc3 {j : Int} {n : Nat} (h : j = 3 * (n : Int)) (hn : n ≤ 100000) : RgC 0 j 3 n := by
  subst h
  have e : Builtin.Range.rangeSize 0 (3 * (n : Int)) 3 = n := by
    unfold Builtin.Range.rangeSize
    rw [if_pos (by decide)]
    by_cases h0 : (0 : Int) < 3 * (n : Int)
    · rw [if_pos h0]
      omega
    · rw [if_neg h0]
      omega
  refine ⟨by decide, by decide, ?_, e⟩
  have f1 : Builtin.Range.rangeFitsLong 0 = true := by decide
  have f2 : Builtin.Range.rangeFitsLong 3 = true := by decide
  have f3 : Builtin.Range.rangeFitsLong (3 * (n : Int)) = true := by
    unfold Builtin.Range.rangeFitsLong
    rw [Bool.and_eq_true, decide_eq_true_eq, decide_eq_true_eq]
    omega
  have f4 : Builtin.Range.rangeFitsLong (n : Int) = true := by
    unfold Builtin.Range.rangeFitsLong
    rw [Bool.and_eq_true, decide_eq_true_eq, decide_eq_true_eq]
    omega
  unfold Builtin.Range.small
  have f5 : Builtin.Range.rangeFitsLong (3 * (n : Int) + (3 - 1)) = true := by
    unfold Builtin.Range.rangeFitsLong
    rw [Bool.and_eq_true, decide_eq_true_eq, decide_eq_true_eq]
    omega
  rw [e, f1, f2, f3, f4, if_pos (by decide), f5, Bool.or_true]
  rfl
def TupsAt (H : Hp) (as : List Addr) (rows : List (List V)) : Prop := as.length = rows.length ∧ ∀ (i : Nat) (x : List V), rows[i]? = some x → ∃ q, as[i]? = some q ∧ H q = some (.tup x)
theorem TupsAt.keep {H H' : Hp} {as : List Addr} {rows : List (List V)} (h : TupsAt H as rows) (k : ∀ q xs, H q = some (.tup xs) → H' q = some (.tup xs)) : TupsAt H' as rows :=
  ⟨h.1, fun i x e => let ⟨q, e1, e2⟩ := h.2 i x e; ⟨q, e1, k q x e2⟩⟩
theorem TupsAt.snoc {H : Hp} {as : List Addr} {rows : List (List V)} {t : Addr} {x : List V} (h : TupsAt H as rows) (ht : H t = some (.tup x)) : TupsAt H (as ++ [t]) (rows ++ [x]) := by
  refine ⟨by rw [List.length_append, List.length_append, h.1]; rfl, fun i y e => ?_⟩
  rcases Fb.get_snoc e with ⟨hi, e⟩ | ⟨hi, e⟩
  · obtain ⟨q, e1, e2⟩ := h.2 i y e
    exact ⟨q, by rw [List.getElem?_append_left (by rw [h.1]; exact hi)]; exact e1, e2⟩
  · subst e
    exact ⟨t, by rw [List.getElem?_append_right (by rw [h.1]; omega), show i - as.length = 0 by rw [h.1]; omega]; rfl, ht⟩
theorem TupsAt.nil {H : Hp} : TupsAt H [] [] := ⟨rfl, fun i x e => by simp at e⟩
theorem ix_listK {X : Cx} {K : PySem.W.Frag} (h : X.K = K) : IxR X (rIxL K) := by
  subst h
  exact ix_list
theorem ix_tupK {X : Cx} {K : PySem.W.Frag} (h : X.K = K) : IxR X (rIxT K) := by
  subst h
  exact ix_tup
end L2
namespace Fb
open Km347
theorem again_none {r : Reader} {n : Nat} (h : r.taps[n]? = none) : rDoes r (.rAgain n) = (r, only (-2)) := by simp only [rDoes, h]
theorem again_some {r : Reader} {n : Nat} {x : Tap} (h : r.taps[n]? = some x) : rDoes r (.rAgain n) = (r, { value := (n : Int), out := x.bytes }) := by simp only [rDoes, h]
theorem seal_22 {r : Reader} {m : Nat} (h : MINUTES < m) : rDoes r (.rSeal m) = (r, only (-22)) := by simp only [rDoes, if_pos h]
theorem seal_13 {r : Reader} {m : Nat} (h : ¬ MINUTES < m) (h2 : m < r.last) : rDoes r (.rSeal m) = (r, only (-13)) := by simp only [rDoes, if_neg h, if_pos h2]
theorem seal_ok {r : Reader} {m : Nat} (h : ¬ MINUTES < m) (h2 : ¬ m < r.last) : rDoes r (.rSeal m) = ({ r with last := m }, { value := (r.taps.length : Int), out := (⟨r.me, r.taps.length, m⟩ : Seal).bytes }) := by simp only [rDoes, if_neg h, if_neg h2]
theorem tap_22 {r : Reader} {c m z : Nat} (h : MINUTES ≤ m ∨ z = 0 ∨ 255 < z) : rDoes r (.rTap c m z) = (r, only (-22)) := by simp only [rDoes, if_pos h]
theorem tap_13 {r : Reader} {c m z : Nat} (h : ¬ (MINUTES ≤ m ∨ z = 0 ∨ 255 < z)) (h2 : m < r.last) : rDoes r (.rTap c m z) = (r, only (-13)) := by simp only [rDoes, if_neg h, if_pos h2]
theorem tap_28 {r : Reader} {c m z : Nat} (h : ¬ (MINUTES ≤ m ∨ z = 0 ∨ 255 < z)) (h2 : ¬ m < r.last) (h3 : TAPS ≤ r.taps.length) : rDoes r (.rTap c m z) = (r, only (-28)) := by simp only [rDoes, if_neg h, if_neg h2, if_pos h3]
theorem tap_ok {r : Reader} {c m z : Nat} (h : ¬ (MINUTES ≤ m ∨ z = 0 ∨ 255 < z)) (h2 : ¬ m < r.last) (h3 : ¬ TAPS ≤ r.taps.length) :
    rDoes r (.rTap c m z) = ({ r with taps := r.taps ++ [⟨r.me, r.taps.length, c, m, z⟩], last := m }, { value := (r.taps.length : Int), out := (⟨r.me, r.taps.length, c, m, z⟩ : Tap).bytes }) := by simp only [rDoes, if_neg h, if_neg h2, if_neg h3]
end Fb
namespace Fb
open Km347Neutral
abbrev Row := List Int
inductive Form : Km347Neutral.Call → Prop
  | rStart (k b : Int) : 0 ≤ k → 0 ≤ b → Form [[0, k, b]]
  | rTap (k c m z : Int) : 0 ≤ k → 0 ≤ c → 0 ≤ m → 0 ≤ z → c < 4294967296 → m < 4294967296 → Form [[1, k, c, m, z]]
  | rSeal (k m : Int) : 0 ≤ k → 0 ≤ m → m < 4294967296 → Form [[2, k, m]]
  | rAgain (k n : Int) : 0 ≤ k → 0 ≤ n → Form [[3, k, n]]
  | cStart (n : Int) (ss ps : Row) : 0 ≤ n → ss.length = 8 → (∀ x ∈ ss, 0 ≤ x) → ps.length % 3 = 0 → (∀ x ∈ ps, 0 ≤ x) → Form [[4, n], ss, ps]
  | cHeard (l : Row) : l.length = 20 → (∀ x ∈ l, 0 ≤ x ∧ x < 256) → Form [[5], l]
  | cLacks (r : Int) : 0 ≤ r → Form [[6, r]]
  | cBill (c d : Int) : 0 ≤ c → 0 ≤ d → c < 4294967296 → Form [[7, c, d]]
  | cHow (c d : Int) : 0 ≤ c → 0 ≤ d → c < 4294967296 → Form [[8, c, d]]
theorem nat_of {z : Int} {b : Nat} (h : natural z b = true) : 0 ≤ z ∧ z < 2 ^ b := by
  unfold natural at h
  rw [Bool.and_eq_true, decide_eq_true_eq, decide_eq_true_eq] at h
  exact h
theorem chunk_mem {l : Row} (h3 : l.length % 3 = 0) {p : Row → Bool} (h : (chunks 3 l).all p = true) (i : Nat) (hi : i < l.length / 3) : p ((l.drop (3 * i)).take 3) = true := by
  unfold chunks at h
  rw [List.all_eq_true] at h
  exact h _ (List.mem_map.mpr ⟨i, List.mem_range.mpr hi, rfl⟩)
theorem drop_getD (l : Row) (a j : Nat) (hj : j < 3) : ((l.drop a).take 3).getD j 0 = l.getD (a + j) 0 := by
  rw [List.getD_eq_getElem?_getD, List.getD_eq_getElem?_getD, List.getElem?_take_of_lt hj, List.getElem?_drop]
theorem form_of {c : Km347Neutral.Call} (h : asked1 c = true) : Form c := by
  unfold asked1 at h
  split at h
  · rw [Bool.and_eq_true] at h
    exact .rStart _ _ (nat_of h.1).1 (nat_of h.2).1
  · rw [Bool.and_eq_true, Bool.and_eq_true, Bool.and_eq_true] at h
    exact .rTap _ _ _ _ (nat_of h.1.1.1).1 (nat_of h.1.1.2).1 (nat_of h.1.2).1 (nat_of h.2).1 (nat_of h.1.1.2).2 (nat_of h.1.2).2
  · rw [Bool.and_eq_true] at h
    exact .rSeal _ _ (nat_of h.1).1 (nat_of h.2).1 (nat_of h.2).2
  · rw [Bool.and_eq_true] at h
    exact .rAgain _ _ (nat_of h.1).1 (nat_of h.2).1
  · rename_i b0 r0 r1
    rw [Bool.and_eq_true, Bool.and_eq_true, Bool.and_eq_true, Bool.and_eq_true, decide_eq_true_eq, decide_eq_true_eq, List.all_eq_true] at h
    obtain ⟨⟨h1, h2, h3⟩, h4, h5⟩ := h
    refine .cStart _ _ _ (nat_of h1).1 h2 (fun x hx => (nat_of (h3 x hx)).1) h4 (fun x hx => ?_)
    obtain ⟨i, hi⟩ := List.mem_iff_getElem?.mp hx
    have hl : i < r1.length := (List.getElem?_eq_some_iff.mp hi).1
    have q := chunk_mem h4 h5 (i / 3) (by omega)
    rw [Bool.and_eq_true, Bool.and_eq_true] at q
    rw [drop_getD _ _ _ (by omega), drop_getD _ _ _ (by omega), drop_getD _ _ _ (by omega)] at q
    have e : r1.getD i 0 = x := by
      rw [List.getD_eq_getElem?_getD, hi]
      rfl
    have m : 3 * (i / 3) + i % 3 = i := Nat.div_add_mod i 3
    rcases (show i % 3 = 0 ∨ i % 3 = 1 ∨ i % 3 = 2 by omega) with z | z | z <;> rw [z] at m <;> rw [← e, ← m]
    · exact (nat_of q.1.1).1
    · exact (nat_of q.1.2).1
    · exact (nat_of q.2).1
  · rw [Bool.and_eq_true, decide_eq_true_eq, List.all_eq_true] at h
    exact .cHeard _ h.1 fun x hx => ⟨(nat_of (h.2 x hx)).1, (nat_of (h.2 x hx)).2⟩
  · exact .cLacks _ (nat_of h).1
  · rw [Bool.and_eq_true] at h
    exact .cBill _ _ (nat_of h.1).1 (nat_of h.2).1 (nat_of h.1).2
  · rw [Bool.and_eq_true] at h
    exact .cHow _ _ (nat_of h.1).1 (nat_of h.2).1 (nat_of h.1).2
  · cases h
theorem form_whole {c : Km347Neutral.Call} (h : Form (PyKm347.whole c)) : PyKm347.whole c = c := by
  unfold PyKm347.whole
  split <;> rfl
theorem parse {l : Row} (h : PyKm347.answers_asked l = true) : ∃ cs : List Km347Neutral.Call, l = PyFlat.put cs ∧ (∀ c ∈ cs, Form c) ∧ may start cs = true ∧ 1 ≤ cs.length ∧ PyKm347.answers l = PyFlat.told (PyFlat.played step start cs) := by
  unfold PyKm347.answers_asked at h
  unfold PyKm347.answers
  cases e : PyKm347.calls l with
  | none =>
    rw [e] at h
    cases h
  | some ds =>
    rw [e] at h
    have h : (PyFlat.atMost 10000 ds && asked ds) = true := h
    unfold asked at h
    rw [Bool.and_eq_true, Bool.and_eq_true, Bool.and_eq_true, Bool.and_eq_true, List.all_eq_true, decide_eq_true_eq] at h
    obtain ⟨_, h1, _, h3, h4⟩ := h
    unfold PyKm347.calls at e
    cases e2 : PyFlat.calls PyKm347.shape l.length l with
    | none =>
      rw [e2] at e
      cases e
    | some cs =>
      rw [e2] at e
      have e : cs.map PyKm347.whole = ds := Option.some.inj e
      have hw : ∀ c ∈ cs, PyKm347.whole c = c := fun c hc => form_whole (form_of (h3 _ (by rw [← e]; exact List.mem_map.mpr ⟨c, hc, rfl⟩)))
      have e3 : ds = cs := by
        rw [← e]
        exact (List.map_congr_left hw).trans (List.map_id' cs)
      obtain ⟨p1, p2⟩ := PyFlat.put_calls _ _ _ e2
      exact ⟨ds, by rw [e3]; exact p1, fun c hc => form_of (h3 c hc), h4, h1, rfl⟩
theorem told_only' (v : Int) : told (Km347.only v) = [v] := by
  unfold told Km347.only nums
  rfl
theorem st_rStart (S : S) (k b : Int) : step S [[0, k, b]] = step0 S k.toNat (.rStart b.toNat) := by
  unfold step callOf
  rfl
theorem st_rTap (S : S) (k c m z : Int) : step S [[1, k, c, m, z]] = step0 S k.toNat (.rTap c.toNat m.toNat z.toNat) := by
  unfold step callOf
  rfl
theorem st_rSeal (S : S) (k b : Int) : step S [[2, k, b]] = step0 S k.toNat (.rSeal b.toNat) := by
  unfold step callOf
  rfl
theorem st_rAgain (S : S) (k b : Int) : step S [[3, k, b]] = step0 S k.toNat (.rAgain b.toNat) := by
  unfold step callOf
  rfl
def passesI (ps : Row) : List Km347.Pass := (chunks 3 ps).map fun x => ⟨(x.getD 0 0).toNat, (x.getD 1 0).toNat, (x.getD 2 0).toNat⟩
theorem st_cStart (S : S) (n : Int) (ss ps : Row) : step S [[4, n], ss, ps] = step1 S 0 (.cStart ⟨nats ss, passesI ps⟩ (ps.length / 3) n.toNat) := by
  unfold step callOf passesI
  rfl
theorem st_cHeard (S : S) (l : Row) : step S [[5], l] = step1 S 0 (.cHeard (nats l)) := by
  unfold step callOf
  rfl
theorem st_cLacks (S : S) (r : Int) : step S [[6, r]] = step1 S 0 (.cLacks r.toNat) := by
  unfold step callOf
  rfl
theorem st_cBill (S : S) (c d : Int) : step S [[7, c, d]] = step1 S 0 (.cBill c.toNat d.toNat) := by
  unfold step callOf
  rfl
theorem st_cHow (S : S) (c d : Int) : step S [[8, c, d]] = step1 S 0 (.cHow c.toNat d.toNat) := by
  unfold step callOf
  rfl
theorem set_same {α : Type} {l : List (Option α)} {k : Nat} {a : α} (h : l.getD k none = some a) : l.set k (some a) = l := by
  rw [List.getD_eq_getElem?_getD] at h
  have e : l[k]? = some (some a) := by
    cases q : l[k]? with
    | none =>
      rw [q] at h
      cases h
    | some z =>
      rw [q] at h
      have h : z = some a := h
      rw [h]
  have hk : k < l.length := (List.getElem?_eq_some_iff.mp e).1
  refine List.ext_getElem? fun i => ?_
  by_cases hi : k = i
  · subst hi
    rw [List.getElem?_set_self hk, e]
  · rw [List.getElem?_set_ne hi]
theorem st0_start {S : S} {k me : Nat} (hk : k < 4) : step0 S k (.rStart me) = if 8 ≤ me then (S, [-22]) else ((S.1.set k (some (Km347.reader0 me)), S.2), [0]) := by
  obtain ⟨rs, cs⟩ := S
  unfold step0
  rw [if_neg (by omega)]
  by_cases h8 : 8 ≤ me
  · rw [if_pos h8]
    have e : ∀ r, Km347.rDoes r (.rStart me) = (r, Km347.only (-22)) := fun r => by
      simp only [Km347.rDoes, if_pos (show Km347.READERS ≤ me from h8)]
    cases q : rs.getD k none with
    | some a =>
      show ((rs.set k (some (Km347.rDoes a (.rStart me)).1), cs), told (Km347.rDoes a (.rStart me)).2) = _
      rw [e, set_same q, told_only']
    | none =>
      show (if Km347.isStart (.rStart me) = true then (if (told (Km347.rDoes (Km347.reader0 0) (.rStart me)).2).headD 0 < 0 then (rs, cs) else (rs.set k (some (Km347.rDoes (Km347.reader0 0) (.rStart me)).1), cs), told (Km347.rDoes (Km347.reader0 0) (.rStart me)).2) else ((rs, cs), [])) = _
      rw [e, told_only']
      rfl
  · rw [if_neg h8]
    have e : ∀ r, Km347.rDoes r (.rStart me) = (Km347.reader0 me, Km347.only 0) := fun r => by
      simp only [Km347.rDoes, if_neg (show ¬ Km347.READERS ≤ me from h8)]
    cases q : rs.getD k none with
    | some a =>
      show ((rs.set k (some (Km347.rDoes a (.rStart me)).1), cs), told (Km347.rDoes a (.rStart me)).2) = _
      rw [e, told_only']
    | none =>
      show (if Km347.isStart (.rStart me) = true then (if (told (Km347.rDoes (Km347.reader0 0) (.rStart me)).2).headD 0 < 0 then (rs, cs) else (rs.set k (some (Km347.rDoes (Km347.reader0 0) (.rStart me)).1), cs), told (Km347.rDoes (Km347.reader0 0) (.rStart me)).2) else ((rs, cs), [])) = _
      rw [e, told_only']
      rfl
theorem st0_lt {S : S} {k : Nat} {x : Km347.Call} (h : (step0 S k x).2 ≠ []) : k < 4 := by
  by_cases hk : 4 ≤ k
  · unfold step0 at h
    rw [if_pos hk] at h
    exact absurd rfl h
  · omega
theorem st0_does {S : S} {k : Nat} {x : Km347.Call} (hx : Km347.isStart x = false) (h : (step0 S k x).2 ≠ []) : ∃ r, S.1.getD k none = some r ∧ step0 S k x = ((S.1.set k (some (Km347.rDoes r x).1), S.2), told (Km347.rDoes r x).2) := by
  have hk := st0_lt h
  unfold step0 at h ⊢
  rw [if_neg (by omega)] at h ⊢
  cases q : S.1.getD k none with
  | some a => exact ⟨a, rfl, rfl⟩
  | none =>
    rw [q, hx] at h
    exact absurd rfl h
def badStart (t : Km347.Tariff) (p n : Nat) : Prop := n = 0 ∨ Km347.READERS < n ∨ 3 < p ∨ t.good = false
instance (t : Km347.Tariff) (p n : Nat) : Decidable (badStart t p n) := by
  unfold badStart
  infer_instance
theorem st1_start {rs : List (Option Km347.Reader)} {o : Option Km347.Centre} {t : Km347.Tariff} {p n : Nat} : step1 (rs, [o]) 0 (.cStart t p n) = if badStart t p n then ((rs, [o]), [-22]) else ((rs, [some (Km347.centre0 t n)]), [0]) := by
  unfold step1
  rw [if_neg (by omega)]
  by_cases hb : badStart t p n
  · rw [if_pos hb]
    have e : ∀ c, Km347.cDoes c (.cStart t p n) = (c, Km347.only (-22)) := fun c => by
      unfold badStart at hb
      simp only [Km347.cDoes, if_pos hb]
    cases o with
    | some a =>
      show ((rs, ([some a] : List (Option Km347.Centre)).set 0 (some (Km347.cDoes a (.cStart t p n)).1)), told (Km347.cDoes a (.cStart t p n)).2) = _
      rw [e, told_only']
      rfl
    | none =>
      show (if Km347.isStart (.cStart t p n) = true then (if (told (Km347.cDoes (Km347.centre0 ⟨[], []⟩ 1) (.cStart t p n)).2).headD 0 < 0 then (rs, [none]) else (rs, ([none] : List (Option Km347.Centre)).set 0 (some (Km347.cDoes (Km347.centre0 ⟨[], []⟩ 1) (.cStart t p n)).1)), told (Km347.cDoes (Km347.centre0 ⟨[], []⟩ 1) (.cStart t p n)).2) else ((rs, [none]), [])) = _
      rw [e, told_only']
      rfl
  · rw [if_neg hb]
    have e : ∀ c, Km347.cDoes c (.cStart t p n) = (Km347.centre0 t n, Km347.only 0) := fun c => by
      unfold badStart at hb
      simp only [Km347.cDoes, if_neg hb]
    cases o with
    | some a =>
      show ((rs, ([some a] : List (Option Km347.Centre)).set 0 (some (Km347.cDoes a (.cStart t p n)).1)), told (Km347.cDoes a (.cStart t p n)).2) = _
      rw [e, told_only']
      rfl
    | none =>
      show (if Km347.isStart (.cStart t p n) = true then (if (told (Km347.cDoes (Km347.centre0 ⟨[], []⟩ 1) (.cStart t p n)).2).headD 0 < 0 then (rs, [none]) else (rs, ([none] : List (Option Km347.Centre)).set 0 (some (Km347.cDoes (Km347.centre0 ⟨[], []⟩ 1) (.cStart t p n)).1)), told (Km347.cDoes (Km347.centre0 ⟨[], []⟩ 1) (.cStart t p n)).2) else ((rs, [none]), [])) = _
      rw [e, told_only']
      rfl
theorem st1_does {rs : List (Option Km347.Reader)} {o : Option Km347.Centre} {x : Km347.Call} (hx : Km347.isStart x = false) (h : (step1 (rs, [o]) 0 x).2 ≠ []) :
    ∃ c, o = some c ∧ step1 (rs, [o]) 0 x = ((rs, [some (Km347.cDoes c x).1]), told (Km347.cDoes c x).2) := by
  unfold step1 at h ⊢
  rw [if_neg (by omega)] at h ⊢
  cases o with
  | some a => exact ⟨a, rfl, rfl⟩
  | none =>
    have h : (if Km347.isStart x = true then _ else (((rs, [none]) : Km347Neutral.S), ([] : List Int))).2 ≠ [] := h
    rw [hx, if_neg Bool.false_ne_true] at h
    exact absurd rfl h
theorem nats_cast {l : Row} (h : ∀ x ∈ l, 0 ≤ x) : l = (nats l).map fun (n : Nat) => (n : Int) := by
  unfold nats
  rw [List.map_map]
  have e : ∀ x ∈ l, ((fun n : Nat => (n : Int)) ∘ Int.toNat) x = x := fun x hx => by
    have := h x hx
    show ((x.toNat : Nat) : Int) = x
    omega
  exact (List.map_congr_left e |>.trans (List.map_id' l)).symm
end Fb
namespace Fb
open PySem PySem.Spec PyProof.Rows L2
def top (i : Nat) : Stmt := PySem.Challenge.pw_farebest_s01_answers.main.body.getD i (.Pass ⟨0, 0, 0, 0⟩)
abbrev s_z52 : Stmt := top 9
abbrev s_z34 : Stmt := top 10
abbrev s_z25 : Stmt := top 11
abbrev s_z41 : Stmt := top 19
abbrev s_z31 : Stmt := top 20
abbrev s_z53 : Stmt := top 21
abbrev s_z14 : Stmt := top 22
abbrev s_z28 : Stmt := top 23
abbrev s_z19 : Stmt := top 24
abbrev s_z17 : Stmt := top 25
abbrev s_z40 : Stmt := top 26
abbrev s_z42 : Stmt := top 27
abbrev s_z46 : Stmt := top 34
abbrev s_z30 : Stmt := top 35
abbrev s_z29 : Stmt := top 36
abbrev s_z21 : Stmt := top 37
abbrev s_z15 : Stmt := top 38
abbrev s_z36 : Stmt := top 39
abbrev s_z38 : Stmt := top 40
abbrev s_z44 : Stmt := top 41
abbrev s_z33 : Stmt := top 42
abbrev s_z49 : Stmt := top 43
abbrev s_z32 : Stmt := top 44
abbrev s_z51 : Stmt := top 45
abbrev s_z50 : Stmt := top 46
abbrev s_z43 : Stmt := top 47
abbrev s_z24 : Stmt := inClass (top 55) 0
abbrev s_z26 : Stmt := inClass (top 55) 1
abbrev s_z22 : Stmt := inClass (top 55) 2
abbrev s_z16 : Stmt := inClass (top 55) 3
abbrev s_z18 : Stmt := inClass (top 60) 0
abbrev s_z37 : Stmt := top 61
abbrev s_z45 : Stmt := top 62
abbrev s_z47 : Stmt := top 63
abbrev s_z35 : Stmt := top 64
abbrev s_z23 : Stmt := inClass (top 66) 0
abbrev s_z12 : Stmt := inClass (top 66) 1
abbrev s_z9 : Stmt := inClass (top 66) 2
abbrev s_z6 : Stmt := inClass (top 66) 3
abbrev s_z2 : Stmt := inClass (top 66) 4
abbrev s_z10 : Stmt := inClass (top 66) 5
abbrev s_z13 : Stmt := inClass (top 66) 6
abbrev s_z5 : Stmt := inClass (top 66) 7
abbrev s_z1 : Stmt := inClass (top 66) 8
abbrev s_z3 : Stmt := inClass (top 66) 9
abbrev s_z11 : Stmt := inClass (top 66) 10
abbrev s_z20 : Stmt := inClass (top 66) 11
abbrev s_z27 : Stmt := inClass (top 66) 12
abbrev s_z39 : Stmt := inClass (top 67) 0
abbrev s_z0 : Stmt := inClass (top 67) 1
abbrev s_z4 : Stmt := inClass (top 67) 2
abbrev s_z7 : Stmt := top 68
abbrev s_z8 : Stmt := top 69
abbrev s_z54 : Stmt := top 70
abbrev s_z48 : Stmt := top 71
set_option genInjectivity false in
structure Ad where
  f_z52 : Addr
  d_z52 : FuncData
  f_z34 : Addr
  d_z34 : FuncData
  f_z25 : Addr
  d_z25 : FuncData
  f_z41 : Addr
  d_z41 : FuncData
  f_z31 : Addr
  d_z31 : FuncData
  f_z53 : Addr
  d_z53 : FuncData
  f_z14 : Addr
  d_z14 : FuncData
  f_z28 : Addr
  d_z28 : FuncData
  f_z19 : Addr
  d_z19 : FuncData
  f_z17 : Addr
  d_z17 : FuncData
  f_z40 : Addr
  d_z40 : FuncData
  f_z42 : Addr
  d_z42 : FuncData
  f_z46 : Addr
  d_z46 : FuncData
  f_z30 : Addr
  d_z30 : FuncData
  f_z29 : Addr
  d_z29 : FuncData
  f_z21 : Addr
  d_z21 : FuncData
  f_z15 : Addr
  d_z15 : FuncData
  f_z36 : Addr
  d_z36 : FuncData
  f_z38 : Addr
  d_z38 : FuncData
  f_z44 : Addr
  d_z44 : FuncData
  f_z33 : Addr
  d_z33 : FuncData
  f_z49 : Addr
  d_z49 : FuncData
  f_z32 : Addr
  d_z32 : FuncData
  f_z51 : Addr
  d_z51 : FuncData
  f_z50 : Addr
  d_z50 : FuncData
  f_z43 : Addr
  d_z43 : FuncData
  f_z24 : Addr
  d_z24 : FuncData
  f_z26 : Addr
  d_z26 : FuncData
  f_z22 : Addr
  d_z22 : FuncData
  f_z16 : Addr
  d_z16 : FuncData
  f_z18 : Addr
  d_z18 : FuncData
  f_z37 : Addr
  d_z37 : FuncData
  f_z45 : Addr
  d_z45 : FuncData
  f_z47 : Addr
  d_z47 : FuncData
  f_z35 : Addr
  d_z35 : FuncData
  f_z23 : Addr
  d_z23 : FuncData
  f_z12 : Addr
  d_z12 : FuncData
  f_z9 : Addr
  d_z9 : FuncData
  f_z6 : Addr
  d_z6 : FuncData
  f_z2 : Addr
  d_z2 : FuncData
  f_z10 : Addr
  d_z10 : FuncData
  f_z13 : Addr
  d_z13 : FuncData
  f_z5 : Addr
  d_z5 : FuncData
  f_z1 : Addr
  d_z1 : FuncData
  f_z3 : Addr
  d_z3 : FuncData
  f_z11 : Addr
  d_z11 : FuncData
  f_z20 : Addr
  d_z20 : FuncData
  f_z27 : Addr
  d_z27 : FuncData
  f_z39 : Addr
  d_z39 : FuncData
  f_z0 : Addr
  d_z0 : FuncData
  f_z4 : Addr
  d_z4 : FuncData
  f_z7 : Addr
  d_z7 : FuncData
  f_z8 : Addr
  d_z8 : FuncData
  f_z54 : Addr
  d_z54 : FuncData
  f_z48 : Addr
  d_z48 : FuncData
  c_Reader : Addr
  c_Tariff : Addr
  c_Centre : Addr
  c_Line : Addr
  t_LENGTHS : Addr
structure Tx (K : PySem.W.Frag) (mg : Str → Option Value) (a : Ad) : Prop where
  g_NR_START : ∃ t, mg "NR_START" = some (.int (0) t)
  g_NR_TAP : ∃ t, mg "NR_TAP" = some (.int (1) t)
  g_NR_SEAL : ∃ t, mg "NR_SEAL" = some (.int (2) t)
  g_NC_START : ∃ t, mg "NC_START" = some (.int (4) t)
  g_NC_HEARD : ∃ t, mg "NC_HEARD" = some (.int (5) t)
  g_NC_LACKS : ∃ t, mg "NC_LACKS" = some (.int (6) t)
  g_NC_BILL : ∃ t, mg "NC_BILL" = some (.int (7) t)
  g_MINUTE_LIMIT : ∃ t, mg "MINUTE_LIMIT" = some (.int (2147483648) t)
  g_DAY_MINUTES : ∃ t, mg "DAY_MINUTES" = some (.int (1440) t)
  g_ALL_ZONES : ∃ t, mg "ALL_ZONES" = some (.int (255) t)
  g_MOST_READERS : ∃ t, mg "MOST_READERS" = some (.int (8) t)
  g_MOST_TAPS : ∃ t, mg "MOST_TAPS" = some (.int (8192) t)
  g_MOST_RIDES : ∃ t, mg "MOST_RIDES" = some (.int (32) t)
  g_TAP : ∃ t, mg "TAP" = some (.int (1) t)
  g_SEAL : ∃ t, mg "SEAL" = some (.int (2) t)
  g_ALL_ONES : ∃ t, mg "ALL_ONES" = some (.int (4294967295) t)
  g_POLYNOMIAL : ∃ t, mg "POLYNOMIAL" = some (.int (2197175160) t)
  g_CHECK_PLACE : ∃ t, mg "CHECK_PLACE" = some (.int (16) t)
  g_NOT_THERE : ∃ t, mg "NOT_THERE" = some (.int (-2) t)
  g_NOTHING_LACKS : ∃ t, mg "NOTHING_LACKS" = some (.int (-11) t)
  g_TOO_EARLY : ∃ t, mg "TOO_EARLY" = some (.int (-13) t)
  g_WRONG_VALUE : ∃ t, mg "WRONG_VALUE" = some (.int (-22) t)
  g_NO_ROOM : ∃ t, mg "NO_ROOM" = some (.int (-28) t)
  g_WRONG_MESSAGE : ∃ t, mg "WRONG_MESSAGE" = some (.int (-71) t)
  g_PRICE_LIMIT : ∃ t, mg "PRICE_LIMIT" = some (.int (16777216) t)
  g_MOST_PASSES : ∃ t, mg "MOST_PASSES" = some (.int (3) t)
  g_MOST_MINUTES : ∃ t, mg "MOST_MINUTES" = some (.int (1440) t)
  g_LENGTHS : mg "LENGTHS" = some (.ref a.t_LENGTHS)
  q_LENGTHS : KDict K a.t_LENGTHS [(0, 3), (1, 5), (2, 3), (3, 3), (6, 2), (7, 3), (8, 3)]
  n_len : mg "len" = none
  n_sum : mg "sum" = none
  n_range : mg "range" = none
  n_enumerate : mg "enumerate" = none
  n_min : mg "min" = none
  n_sorted : mg "sorted" = none
  F_z52 : Fun K "row_at" "row_at" s_z52 a.f_z52 a.d_z52
  b_z52 : Binds K a.d_z52 ["numbers", "place"] []
  m_z52 : mg "row_at" = some (.ref a.f_z52)
  F_z34 : Fun K "length_at" "length_at" s_z34 a.f_z34 a.d_z34
  b_z34 : Binds K a.d_z34 ["calls", "place"] []
  m_z34 : mg "length_at" = some (.ref a.f_z34)
  F_z25 : Fun K "split_calls" "split_calls" s_z25 a.f_z25 a.d_z25
  b_z25 : Binds K a.d_z25 ["calls"] []
  m_z25 : mg "split_calls" = some (.ref a.f_z25)
  F_z41 : Fun K "place_of" "place_of" s_z41 a.f_z41 a.d_z41
  b_z41 : Binds K a.d_z41 ["ride"] []
  m_z41 : mg "place_of" = some (.ref a.f_z41)
  F_z31 : Fun K "zone_count" "zone_count" s_z31 a.f_z31 a.d_z31
  b_z31 : Binds K a.d_z31 ["zones"] []
  m_z31 : mg "zone_count" = some (.ref a.f_z31)
  F_z53 : Fun K "covers" "covers" s_z53 a.f_z53 a.d_z53
  b_z53 : Binds K a.d_z53 ["minutes", "pass_zones", "bought", "minute", "zones"] []
  m_z53 : mg "covers" = some (.ref a.f_z53)
  F_z14 : Fun K "covered_from" "covered_from" s_z14 a.f_z14 a.d_z14
  b_z14 : Binds K a.d_z14 ["rides", "first", "minutes", "pass_zones"] []
  m_z14 : mg "covered_from" = some (.ref a.f_z14)
  F_z28 : Fun K "choices_at" "choices_at" s_z28 a.f_z28 a.d_z28
  b_z28 : Binds K a.d_z28 ["tariff", "rides", "ride"] []
  m_z28 : mg "choices_at" = some (.ref a.f_z28)
  F_z19 : Fun K "keep_better" "keep_better" s_z19 a.f_z19 a.d_z19
  b_z19 : Binds K a.d_z19 ["ways", "paid", "way"] []
  m_z19 : mg "keep_better" = some (.ref a.f_z19)
  F_z17 : Fun K "ways_behind" "ways_behind" s_z17 a.f_z17 a.d_z17
  b_z17 : Binds K a.d_z17 ["ways", "mark", "choices"] []
  m_z17 : mg "ways_behind" = some (.ref a.f_z17)
  F_z40 : Fun K "best_way" "best_way" s_z40 a.f_z40 a.d_z40
  b_z40 : Binds K a.d_z40 ["tariff", "rides"] []
  m_z40 : mg "best_way" = some (.ref a.f_z40)
  F_z42 : Fun K "how_paid" "how_paid" s_z42 a.f_z42 a.d_z42
  b_z42 : Binds K a.d_z42 ["how"] []
  m_z42 : mg "how_paid" = some (.ref a.f_z42)
  F_z46 : Fun K "crc_32c" "crc_32c" s_z46 a.f_z46 a.d_z46
  b_z46 : Binds K a.d_z46 ["data"] []
  m_z46 : mg "crc_32c" = some (.ref a.f_z46)
  F_z30 : Fun K "four_bytes" "four_bytes" s_z30 a.f_z30 a.d_z30
  b_z30 : Binds K a.d_z30 ["number"] []
  m_z30 : mg "four_bytes" = some (.ref a.f_z30)
  F_z29 : Fun K "with_check" "with_check" s_z29 a.f_z29 a.d_z29
  b_z29 : Binds K a.d_z29 ["data"] []
  m_z29 : mg "with_check" = some (.ref a.f_z29)
  F_z21 : Fun K "tap_message" "tap_message" s_z21 a.f_z21 a.d_z21
  b_z21 : Binds K a.d_z21 ["reader", "number", "card", "minute", "zones"] []
  m_z21 : mg "tap_message" = some (.ref a.f_z21)
  F_z15 : Fun K "seal_message" "seal_message" s_z15 a.f_z15 a.d_z15
  b_z15 : Binds K a.d_z15 ["reader", "number", "minute"] []
  m_z15 : mg "seal_message" = some (.ref a.f_z15)
  F_z36 : Fun K "number_at" "number_at" s_z36 a.f_z36 a.d_z36
  b_z36 : Binds K a.d_z36 ["message", "place"] []
  m_z36 : mg "number_at" = some (.ref a.f_z36)
  F_z38 : Fun K "reader_of" "reader_of" s_z38 a.f_z38 a.d_z38
  b_z38 : Binds K a.d_z38 ["message"] []
  m_z38 : mg "reader_of" = some (.ref a.f_z38)
  F_z44 : Fun K "zones_of" "zones_of" s_z44 a.f_z44 a.d_z44
  b_z44 : Binds K a.d_z44 ["message"] []
  m_z44 : mg "zones_of" = some (.ref a.f_z44)
  F_z33 : Fun K "number_of" "number_of" s_z33 a.f_z33 a.d_z33
  b_z33 : Binds K a.d_z33 ["message"] []
  m_z33 : mg "number_of" = some (.ref a.f_z33)
  F_z49 : Fun K "card_of" "card_of" s_z49 a.f_z49 a.d_z49
  b_z49 : Binds K a.d_z49 ["message"] []
  m_z49 : mg "card_of" = some (.ref a.f_z49)
  F_z32 : Fun K "minute_of" "minute_of" s_z32 a.f_z32 a.d_z32
  b_z32 : Binds K a.d_z32 ["message"] []
  m_z32 : mg "minute_of" = some (.ref a.f_z32)
  F_z51 : Fun K "is_tap" "is_tap" s_z51 a.f_z51 a.d_z51
  b_z51 : Binds K a.d_z51 ["message"] []
  m_z51 : mg "is_tap" = some (.ref a.f_z51)
  F_z50 : Fun K "is_seal" "is_seal" s_z50 a.f_z50 a.d_z50
  b_z50 : Binds K a.d_z50 ["message"] []
  m_z50 : mg "is_seal" = some (.ref a.f_z50)
  F_z43 : Fun K "is_right" "is_right" s_z43 a.f_z43 a.d_z43
  b_z43 : Binds K a.d_z43 ["message"] []
  m_z43 : mg "is_right" = some (.ref a.f_z43)
  F_z24 : Fun K "__init__" "Reader.__init__" s_z24 a.f_z24 a.d_z24
  b_z24 : Binds K a.d_z24 ["self", "me"] []
  F_z26 : Fun K "tap" "Reader.tap" s_z26 a.f_z26 a.d_z26
  b_z26 : Binds K a.d_z26 ["self", "card", "minute", "zones"] []
  h_z26 : Meth K a.c_Reader "tap" a.f_z26
  F_z22 : Fun K "seal" "Reader.seal" s_z22 a.f_z22 a.d_z22
  b_z22 : Binds K a.d_z22 ["self", "minute"] []
  h_z22 : Meth K a.c_Reader "seal" a.f_z22
  F_z16 : Fun K "again" "Reader.again" s_z16 a.f_z16 a.d_z16
  b_z16 : Binds K a.d_z16 ["self", "number"] []
  h_z16 : Meth K a.c_Reader "again" a.f_z16
  F_z18 : Fun K "__init__" "Tariff.__init__" s_z18 a.f_z18 a.d_z18
  b_z18 : Binds K a.d_z18 ["self", "single", "passes"] []
  F_z37 : Fun K "passes_in" "passes_in" s_z37 a.f_z37 a.d_z37
  b_z37 : Binds K a.d_z37 ["numbers"] []
  m_z37 : mg "passes_in" = some (.ref a.f_z37)
  F_z45 : Fun K "is_price" "is_price" s_z45 a.f_z45 a.d_z45
  b_z45 : Binds K a.d_z45 ["number"] []
  m_z45 : mg "is_price" = some (.ref a.f_z45)
  F_z47 : Fun K "is_pass" "is_pass" s_z47 a.f_z47 a.d_z47
  b_z47 : Binds K a.d_z47 ["price", "minutes", "zones"] []
  m_z47 : mg "is_pass" = some (.ref a.f_z47)
  F_z35 : Fun K "is_tariff" "is_tariff" s_z35 a.f_z35 a.d_z35
  b_z35 : Binds K a.d_z35 ["single", "passes"] []
  m_z35 : mg "is_tariff" = some (.ref a.f_z35)
  F_z23 : Fun K "__init__" "Centre.__init__" s_z23 a.f_z23 a.d_z23
  b_z23 : Binds K a.d_z23 ["self", "reader_count", "tariff"] []
  F_z12 : Fun K "heard" "Centre.heard" s_z12 a.f_z12 a.d_z12
  b_z12 : Binds K a.d_z12 ["self", "message"] []
  h_z12 : Meth K a.c_Centre "heard" a.f_z12
  F_z9 : Fun K "heard_tap" "Centre.heard_tap" s_z9 a.f_z9 a.d_z9
  b_z9 : Binds K a.d_z9 ["self", "message"] []
  h_z9 : Meth K a.c_Centre "heard_tap" a.f_z9
  F_z6 : Fun K "keep_ride" "Centre.keep_ride" s_z6 a.f_z6 a.d_z6
  b_z6 : Binds K a.d_z6 ["self", "card", "ride"] []
  h_z6 : Meth K a.c_Centre "keep_ride" a.f_z6
  F_z2 : Fun K "heard_seal" "Centre.heard_seal" s_z2 a.f_z2 a.d_z2
  b_z2 : Binds K a.d_z2 ["self", "message"] []
  h_z2 : Meth K a.c_Centre "heard_seal" a.f_z2
  F_z10 : Fun K "has_gap" "Centre.has_gap" s_z10 a.f_z10 a.d_z10
  b_z10 : Binds K a.d_z10 ["self", "reader"] []
  h_z10 : Meth K a.c_Centre "has_gap" a.f_z10
  F_z13 : Fun K "lacks" "Centre.lacks" s_z13 a.f_z13 a.d_z13
  b_z13 : Binds K a.d_z13 ["self", "reader"] []
  h_z13 : Meth K a.c_Centre "lacks" a.f_z13
  F_z5 : Fun K "is_closed" "Centre.is_closed" s_z5 a.f_z5 a.d_z5
  b_z5 : Binds K a.d_z5 ["self", "day"] []
  h_z5 : Meth K a.c_Centre "is_closed" a.f_z5
  F_z1 : Fun K "ride_count" "Centre.ride_count" s_z1 a.f_z1 a.d_z1
  b_z1 : Binds K a.d_z1 ["self", "card", "day"] []
  h_z1 : Meth K a.c_Centre "ride_count" a.f_z1
  F_z3 : Fun K "refusal_of" "Centre.refusal_of" s_z3 a.f_z3 a.d_z3
  b_z3 : Binds K a.d_z3 ["self", "card", "day"] []
  h_z3 : Meth K a.c_Centre "refusal_of" a.f_z3
  F_z11 : Fun K "way_of" "Centre.way_of" s_z11 a.f_z11 a.d_z11
  b_z11 : Binds K a.d_z11 ["self", "card", "day"] []
  h_z11 : Meth K a.c_Centre "way_of" a.f_z11
  F_z20 : Fun K "bill" "Centre.bill" s_z20 a.f_z20 a.d_z20
  b_z20 : Binds K a.d_z20 ["self", "card", "day"] []
  h_z20 : Meth K a.c_Centre "bill" a.f_z20
  F_z27 : Fun K "how" "Centre.how" s_z27 a.f_z27 a.d_z27
  b_z27 : Binds K a.d_z27 ["self", "card", "day"] []
  h_z27 : Meth K a.c_Centre "how" a.f_z27
  F_z39 : Fun K "__init__" "Line.__init__" s_z39 a.f_z39 a.d_z39
  b_z39 : Binds K a.d_z39 ["self"] []
  F_z0 : Fun K "start_reader" "Line.start_reader" s_z0 a.f_z0 a.d_z0
  b_z0 : Binds K a.d_z0 ["self", "which", "me"] []
  h_z0 : Meth K a.c_Line "start_reader" a.f_z0
  F_z4 : Fun K "start_centre" "Line.start_centre" s_z4 a.f_z4 a.d_z4
  b_z4 : Binds K a.d_z4 ["self", "reader_count", "single", "passes"] []
  h_z4 : Meth K a.c_Line "start_centre" a.f_z4
  F_z7 : Fun K "answer_of_reader" "answer_of_reader" s_z7 a.f_z7 a.d_z7
  b_z7 : Binds K a.d_z7 ["reader", "call"] []
  m_z7 : mg "answer_of_reader" = some (.ref a.f_z7)
  F_z8 : Fun K "answer_of_centre" "answer_of_centre" s_z8 a.f_z8 a.d_z8
  b_z8 : Binds K a.d_z8 ["centre", "call"] []
  m_z8 : mg "answer_of_centre" = some (.ref a.f_z8)
  F_z54 : Fun K "answer" "answer" s_z54 a.f_z54 a.d_z54
  b_z54 : Binds K a.d_z54 ["line", "call"] []
  m_z54 : mg "answer" = some (.ref a.f_z54)
  F_z48 : Fun K "answers" "answers" s_z48 a.f_z48 a.d_z48
  b_z48 : Binds K a.d_z48 ["calls"] []
  m_z48 : mg "answers" = some (.ref a.f_z48)
  cl_Reader : Cls K a.c_Reader
  m_Reader : mg "Reader" = some (.ref a.c_Reader)
  k_Reader : Mk K a.c_Reader a.f_z24
  na_Reader_me : NoAttr K a.c_Reader "me"
  na_Reader_taps : NoAttr K a.c_Reader "taps"
  na_Reader_greatest : NoAttr K a.c_Reader "greatest"
  cl_Tariff : Cls K a.c_Tariff
  m_Tariff : mg "Tariff" = some (.ref a.c_Tariff)
  k_Tariff : Mk K a.c_Tariff a.f_z18
  na_Tariff_single : NoAttr K a.c_Tariff "single"
  na_Tariff_passes : NoAttr K a.c_Tariff "passes"
  cl_Centre : Cls K a.c_Centre
  m_Centre : mg "Centre" = some (.ref a.c_Centre)
  k_Centre : Mk K a.c_Centre a.f_z23
  na_Centre_reader_count : NoAttr K a.c_Centre "reader_count"
  na_Centre_tariff : NoAttr K a.c_Centre "tariff"
  na_Centre_taps : NoAttr K a.c_Centre "taps"
  na_Centre_seals : NoAttr K a.c_Centre "seals"
  na_Centre_unheard : NoAttr K a.c_Centre "unheard"
  na_Centre_rides : NoAttr K a.c_Centre "rides"
  na_Centre_ways : NoAttr K a.c_Centre "ways"
  cl_Line : Cls K a.c_Line
  m_Line : mg "Line" = some (.ref a.c_Line)
  k_Line : Mk K a.c_Line a.f_z39
  na_Line_readers : NoAttr K a.c_Line "readers"
  na_Line_centre : NoAttr K a.c_Line "centre"
theorem sc_z52 : FnScope ["numbers", "place", "first"] ["numbers", "place"] (defScope s_z52) := ⟨rfl, rfl, rfl, by decide +kernel, rfl, by decide +kernel, by decide +kernel⟩
theorem sc_z34 : FnScope ["calls", "place", "single_count", "passes_count"] ["calls", "place"] (defScope s_z34) := ⟨rfl, rfl, rfl, by decide +kernel, rfl, by decide +kernel, by decide +kernel⟩
theorem sc_z25 : FnScope ["calls", "parts", "place", "length"] ["calls"] (defScope s_z25) := ⟨rfl, rfl, rfl, by decide +kernel, rfl, by decide +kernel, by decide +kernel⟩
theorem sc_z41 : FnScope ["ride"] ["ride"] (defScope s_z41) := ⟨rfl, rfl, rfl, by decide +kernel, rfl, by decide +kernel, by decide +kernel⟩
theorem sc_z31 : FnScope ["zones", "k"] ["zones"] (defScope s_z31) := ⟨rfl, rfl, rfl, by decide +kernel, rfl, by decide +kernel, by decide +kernel⟩
theorem sc_z53 : FnScope ["minutes", "pass_zones", "bought", "minute", "zones"] ["minutes", "pass_zones", "bought", "minute", "zones"] (defScope s_z53) := ⟨rfl, rfl, rfl, by decide +kernel, rfl, by decide +kernel, by decide +kernel⟩
theorem sc_z14 : FnScope ["rides", "first", "minutes", "pass_zones", "bought", "found", "k"] ["rides", "first", "minutes", "pass_zones"] (defScope s_z14) := ⟨rfl, rfl, rfl, by decide +kernel, rfl, by decide +kernel, by decide +kernel⟩
theorem sc_z28 : FnScope ["tariff", "rides", "ride", "mark", "choices", "k", "one", "covered"] ["tariff", "rides", "ride"] (defScope s_z28) := ⟨rfl, rfl, rfl, by decide +kernel, rfl, by decide +kernel, by decide +kernel⟩
theorem sc_z19 : FnScope ["ways", "paid", "way"] ["ways", "paid", "way"] (defScope s_z19) := ⟨rfl, rfl, rfl, by decide +kernel, rfl, by decide +kernel, by decide +kernel⟩
theorem sc_z17 : FnScope ["ways", "mark", "choices", "behind", "paid", "way", "chosen", "price", "covered", "fresh"] ["ways", "mark", "choices"] (defScope s_z17) := ⟨rfl, rfl, rfl, by decide +kernel, rfl, by decide +kernel, by decide +kernel⟩
theorem sc_z40 : FnScope ["tariff", "rides", "ways", "ride"] ["tariff", "rides"] (defScope s_z40) := ⟨rfl, rfl, rfl, by decide +kernel, rfl, by decide +kernel, by decide +kernel⟩
theorem sc_z42 : FnScope ["how", "ride"] ["how"] (defScope s_z42) := ⟨rfl, rfl, rfl, by decide +kernel, rfl, by decide +kernel, by decide +kernel⟩
theorem sc_z46 : FnScope ["data", "rest", "byte", "bit"] ["data"] (defScope s_z46) := ⟨rfl, rfl, rfl, by decide +kernel, rfl, by decide +kernel, by decide +kernel⟩
theorem sc_z30 : FnScope ["number"] ["number"] (defScope s_z30) := ⟨rfl, rfl, rfl, by decide +kernel, rfl, by decide +kernel, by decide +kernel⟩
theorem sc_z29 : FnScope ["data"] ["data"] (defScope s_z29) := ⟨rfl, rfl, rfl, by decide +kernel, rfl, by decide +kernel, by decide +kernel⟩
theorem sc_z21 : FnScope ["reader", "number", "card", "minute", "zones"] ["reader", "number", "card", "minute", "zones"] (defScope s_z21) := ⟨rfl, rfl, rfl, by decide +kernel, rfl, by decide +kernel, by decide +kernel⟩
theorem sc_z15 : FnScope ["reader", "number", "minute"] ["reader", "number", "minute"] (defScope s_z15) := ⟨rfl, rfl, rfl, by decide +kernel, rfl, by decide +kernel, by decide +kernel⟩
theorem sc_z36 : FnScope ["message", "place", "high"] ["message", "place"] (defScope s_z36) := ⟨rfl, rfl, rfl, by decide +kernel, rfl, by decide +kernel, by decide +kernel⟩
theorem sc_z38 : FnScope ["message"] ["message"] (defScope s_z38) := ⟨rfl, rfl, rfl, by decide +kernel, rfl, by decide +kernel, by decide +kernel⟩
theorem sc_z44 : FnScope ["message"] ["message"] (defScope s_z44) := ⟨rfl, rfl, rfl, by decide +kernel, rfl, by decide +kernel, by decide +kernel⟩
theorem sc_z33 : FnScope ["message"] ["message"] (defScope s_z33) := ⟨rfl, rfl, rfl, by decide +kernel, rfl, by decide +kernel, by decide +kernel⟩
theorem sc_z49 : FnScope ["message"] ["message"] (defScope s_z49) := ⟨rfl, rfl, rfl, by decide +kernel, rfl, by decide +kernel, by decide +kernel⟩
theorem sc_z32 : FnScope ["message"] ["message"] (defScope s_z32) := ⟨rfl, rfl, rfl, by decide +kernel, rfl, by decide +kernel, by decide +kernel⟩
theorem sc_z51 : FnScope ["message"] ["message"] (defScope s_z51) := ⟨rfl, rfl, rfl, by decide +kernel, rfl, by decide +kernel, by decide +kernel⟩
theorem sc_z50 : FnScope ["message"] ["message"] (defScope s_z50) := ⟨rfl, rfl, rfl, by decide +kernel, rfl, by decide +kernel, by decide +kernel⟩
theorem sc_z43 : FnScope ["message"] ["message"] (defScope s_z43) := ⟨rfl, rfl, rfl, by decide +kernel, rfl, by decide +kernel, by decide +kernel⟩
theorem sc_z24 : FnScope ["self", "me"] ["self", "me"] (defScope s_z24) := ⟨rfl, rfl, rfl, by decide +kernel, rfl, by decide +kernel, by decide +kernel⟩
theorem sc_z26 : FnScope ["self", "card", "minute", "zones"] ["self", "card", "minute", "zones"] (defScope s_z26) := ⟨rfl, rfl, rfl, by decide +kernel, rfl, by decide +kernel, by decide +kernel⟩
theorem sc_z22 : FnScope ["self", "minute"] ["self", "minute"] (defScope s_z22) := ⟨rfl, rfl, rfl, by decide +kernel, rfl, by decide +kernel, by decide +kernel⟩
theorem sc_z16 : FnScope ["self", "number", "made"] ["self", "number"] (defScope s_z16) := ⟨rfl, rfl, rfl, by decide +kernel, rfl, by decide +kernel, by decide +kernel⟩
theorem sc_z18 : FnScope ["self", "single", "passes"] ["self", "single", "passes"] (defScope s_z18) := ⟨rfl, rfl, rfl, by decide +kernel, rfl, by decide +kernel, by decide +kernel⟩
theorem sc_z37 : FnScope ["numbers", "k"] ["numbers"] (defScope s_z37) := ⟨rfl, rfl, rfl, by decide +kernel, rfl, by decide +kernel, by decide +kernel⟩
theorem sc_z45 : FnScope ["number"] ["number"] (defScope s_z45) := ⟨rfl, rfl, rfl, by decide +kernel, rfl, by decide +kernel, by decide +kernel⟩
theorem sc_z47 : FnScope ["price", "minutes", "zones"] ["price", "minutes", "zones"] (defScope s_z47) := ⟨rfl, rfl, rfl, by decide +kernel, rfl, by decide +kernel, by decide +kernel⟩
theorem sc_z35 : FnScope ["single", "passes", "price", "minutes", "zones"] ["single", "passes"] (defScope s_z35) := ⟨rfl, rfl, rfl, by decide +kernel, rfl, by decide +kernel, by decide +kernel⟩
theorem sc_z23 : FnScope ["self", "reader_count", "tariff"] ["self", "reader_count", "tariff"] (defScope s_z23) := ⟨rfl, rfl, rfl, by decide +kernel, rfl, by decide +kernel, by decide +kernel⟩
theorem sc_z12 : FnScope ["self", "message"] ["self", "message"] (defScope s_z12) := ⟨rfl, rfl, rfl, by decide +kernel, rfl, by decide +kernel, by decide +kernel⟩
theorem sc_z9 : FnScope ["self", "message", "reader", "number"] ["self", "message"] (defScope s_z9) := ⟨rfl, rfl, rfl, by decide +kernel, rfl, by decide +kernel, by decide +kernel⟩
theorem sc_z6 : FnScope ["self", "card", "ride", "key"] ["self", "card", "ride"] (defScope s_z6) := ⟨rfl, rfl, rfl, by decide +kernel, rfl, by decide +kernel, by decide +kernel⟩
theorem sc_z2 : FnScope ["self", "message", "reader", "seal"] ["self", "message"] (defScope s_z2) := ⟨rfl, rfl, rfl, by decide +kernel, rfl, by decide +kernel, by decide +kernel⟩
theorem sc_z10 : FnScope ["self", "reader"] ["self", "reader"] (defScope s_z10) := ⟨rfl, rfl, rfl, by decide +kernel, rfl, by decide +kernel, by decide +kernel⟩
theorem sc_z13 : FnScope ["self", "reader"] ["self", "reader"] (defScope s_z13) := ⟨rfl, rfl, rfl, by decide +kernel, rfl, by decide +kernel, by decide +kernel⟩
theorem sc_z5 : FnScope ["self", "day", "end", "reader"] ["self", "day"] (defScope s_z5) := ⟨rfl, rfl, rfl, by decide +kernel, rfl, by decide +kernel, by decide +kernel⟩
theorem sc_z1 : FnScope ["self", "card", "day"] ["self", "card", "day"] (defScope s_z1) := ⟨rfl, rfl, rfl, by decide +kernel, rfl, by decide +kernel, by decide +kernel⟩
theorem sc_z3 : FnScope ["self", "card", "day"] ["self", "card", "day"] (defScope s_z3) := ⟨rfl, rfl, rfl, by decide +kernel, rfl, by decide +kernel, by decide +kernel⟩
theorem sc_z11 : FnScope ["self", "card", "day", "key", "rides", "ride"] ["self", "card", "day"] (defScope s_z11) := ⟨rfl, rfl, rfl, by decide +kernel, rfl, by decide +kernel, by decide +kernel⟩
theorem sc_z20 : FnScope ["self", "card", "day", "refusal", "closed"] ["self", "card", "day"] (defScope s_z20) := ⟨rfl, rfl, rfl, by decide +kernel, rfl, by decide +kernel, by decide +kernel⟩
theorem sc_z27 : FnScope ["self", "card", "day", "refusal"] ["self", "card", "day"] (defScope s_z27) := ⟨rfl, rfl, rfl, by decide +kernel, rfl, by decide +kernel, by decide +kernel⟩
theorem sc_z39 : FnScope ["self"] ["self"] (defScope s_z39) := ⟨rfl, rfl, rfl, by decide +kernel, rfl, by decide +kernel, by decide +kernel⟩
theorem sc_z0 : FnScope ["self", "which", "me"] ["self", "which", "me"] (defScope s_z0) := ⟨rfl, rfl, rfl, by decide +kernel, rfl, by decide +kernel, by decide +kernel⟩
theorem sc_z4 : FnScope ["self", "reader_count", "single", "passes"] ["self", "reader_count", "single", "passes"] (defScope s_z4) := ⟨rfl, rfl, rfl, by decide +kernel, rfl, by decide +kernel, by decide +kernel⟩
theorem sc_z7 : FnScope ["reader", "call"] ["reader", "call"] (defScope s_z7) := ⟨rfl, rfl, rfl, by decide +kernel, rfl, by decide +kernel, by decide +kernel⟩
theorem sc_z8 : FnScope ["centre", "call"] ["centre", "call"] (defScope s_z8) := ⟨rfl, rfl, rfl, by decide +kernel, rfl, by decide +kernel, by decide +kernel⟩
theorem sc_z54 : FnScope ["line", "call", "single", "passes"] ["line", "call"] (defScope s_z54) := ⟨rfl, rfl, rfl, by decide +kernel, rfl, by decide +kernel, by decide +kernel⟩
theorem sc_z48 : FnScope ["calls", "line", "given", "call", "numbers"] ["calls"] (defScope s_z48) := ⟨rfl, rfl, rfl, by decide +kernel, rfl, by decide +kernel, by decide +kernel⟩
def fs_Reader (v0 v1 v2 : V) : List (Str × V) := [("me", v0), ("taps", v1), ("greatest", v2)]
theorem lk_Reader_me {v0 v1 v2 : V} : (fs_Reader v0 v1 v2).lookup ("me" : Str) = some v0 := by
  unfold fs_Reader
  rw [lk_eq]
theorem lk_Reader_taps {v0 v1 v2 : V} : (fs_Reader v0 v1 v2).lookup ("taps" : Str) = some v1 := by
  unfold fs_Reader
  rw [lk_ne (by decide +kernel), lk_eq]
theorem lk_Reader_greatest {v0 v1 v2 : V} : (fs_Reader v0 v1 v2).lookup ("greatest" : Str) = some v2 := by
  unfold fs_Reader
  rw [lk_ne (by decide +kernel), lk_ne (by decide +kernel), lk_eq]
theorem pt_Reader_greatest {v0 v1 v2 y : V} : putF "greatest" y (fs_Reader v0 v1 v2) = fs_Reader v0 v1 y := by
  unfold fs_Reader
  rw [putF_ne (by decide +kernel), putF_ne (by decide +kernel), putF_eq]
theorem no_Reader {v0 v1 v2 : V} {m : Str} (h0 : ¬ m = "me") (h1 : ¬ m = "taps") (h2 : ¬ m = "greatest") : (fs_Reader v0 v1 v2).lookup m = none := by
  unfold fs_Reader
  rw [lk_ne h0, lk_ne h1, lk_ne h2, List.lookup_nil]
theorem ini_Reader {v0 v1 v2 : V} : putF "greatest" v2 (putF "taps" v1 (putF "me" v0 [])) = fs_Reader v0 v1 v2 := by
  unfold fs_Reader
  repeat (first | rw [putF_nil] | rw [putF_ne (by decide +kernel)])
theorem nm_z26 {v0 v1 v2 : V} : (fs_Reader v0 v1 v2).lookup ("tap" : Str) = none := no_Reader (by decide +kernel) (by decide +kernel) (by decide +kernel)
theorem nm_z22 {v0 v1 v2 : V} : (fs_Reader v0 v1 v2).lookup ("seal" : Str) = none := no_Reader (by decide +kernel) (by decide +kernel) (by decide +kernel)
theorem nm_z16 {v0 v1 v2 : V} : (fs_Reader v0 v1 v2).lookup ("again" : Str) = none := no_Reader (by decide +kernel) (by decide +kernel) (by decide +kernel)
def fs_Tariff (v0 v1 : V) : List (Str × V) := [("single", v0), ("passes", v1)]
theorem lk_Tariff_single {v0 v1 : V} : (fs_Tariff v0 v1).lookup ("single" : Str) = some v0 := by
  unfold fs_Tariff
  rw [lk_eq]
theorem lk_Tariff_passes {v0 v1 : V} : (fs_Tariff v0 v1).lookup ("passes" : Str) = some v1 := by
  unfold fs_Tariff
  rw [lk_ne (by decide +kernel), lk_eq]
theorem ini_Tariff {v0 v1 : V} : putF "passes" v1 (putF "single" v0 []) = fs_Tariff v0 v1 := by
  unfold fs_Tariff
  repeat (first | rw [putF_nil] | rw [putF_ne (by decide +kernel)])
def fs_Centre (v0 v1 v2 v3 v4 v5 v6 : V) : List (Str × V) := [("reader_count", v0), ("tariff", v1), ("taps", v2), ("seals", v3), ("unheard", v4), ("rides", v5), ("ways", v6)]
theorem lk_Centre_reader_count {v0 v1 v2 v3 v4 v5 v6 : V} : (fs_Centre v0 v1 v2 v3 v4 v5 v6).lookup ("reader_count" : Str) = some v0 := by
  unfold fs_Centre
  rw [lk_eq]
theorem lk_Centre_tariff {v0 v1 v2 v3 v4 v5 v6 : V} : (fs_Centre v0 v1 v2 v3 v4 v5 v6).lookup ("tariff" : Str) = some v1 := by
  unfold fs_Centre
  rw [lk_ne (by decide +kernel), lk_eq]
theorem lk_Centre_taps {v0 v1 v2 v3 v4 v5 v6 : V} : (fs_Centre v0 v1 v2 v3 v4 v5 v6).lookup ("taps" : Str) = some v2 := by
  unfold fs_Centre
  rw [lk_ne (by decide +kernel), lk_ne (by decide +kernel), lk_eq]
theorem lk_Centre_seals {v0 v1 v2 v3 v4 v5 v6 : V} : (fs_Centre v0 v1 v2 v3 v4 v5 v6).lookup ("seals" : Str) = some v3 := by
  unfold fs_Centre
  rw [lk_ne (by decide +kernel), lk_ne (by decide +kernel), lk_ne (by decide +kernel), lk_eq]
theorem lk_Centre_unheard {v0 v1 v2 v3 v4 v5 v6 : V} : (fs_Centre v0 v1 v2 v3 v4 v5 v6).lookup ("unheard" : Str) = some v4 := by
  unfold fs_Centre
  rw [lk_ne (by decide +kernel), lk_ne (by decide +kernel), lk_ne (by decide +kernel), lk_ne (by decide +kernel), lk_eq]
theorem lk_Centre_rides {v0 v1 v2 v3 v4 v5 v6 : V} : (fs_Centre v0 v1 v2 v3 v4 v5 v6).lookup ("rides" : Str) = some v5 := by
  unfold fs_Centre
  rw [lk_ne (by decide +kernel), lk_ne (by decide +kernel), lk_ne (by decide +kernel), lk_ne (by decide +kernel), lk_ne (by decide +kernel), lk_eq]
theorem lk_Centre_ways {v0 v1 v2 v3 v4 v5 v6 : V} : (fs_Centre v0 v1 v2 v3 v4 v5 v6).lookup ("ways" : Str) = some v6 := by
  unfold fs_Centre
  rw [lk_ne (by decide +kernel), lk_ne (by decide +kernel), lk_ne (by decide +kernel), lk_ne (by decide +kernel), lk_ne (by decide +kernel), lk_ne (by decide +kernel), lk_eq]
theorem no_Centre {v0 v1 v2 v3 v4 v5 v6 : V} {m : Str} (h0 : ¬ m = "reader_count") (h1 : ¬ m = "tariff") (h2 : ¬ m = "taps") (h3 : ¬ m = "seals") (h4 : ¬ m = "unheard") (h5 : ¬ m = "rides") (h6 : ¬ m = "ways") : (fs_Centre v0 v1 v2 v3 v4 v5 v6).lookup m = none := by
  unfold fs_Centre
  rw [lk_ne h0, lk_ne h1, lk_ne h2, lk_ne h3, lk_ne h4, lk_ne h5, lk_ne h6, List.lookup_nil]
theorem nm_z12 {v0 v1 v2 v3 v4 v5 v6 : V} : (fs_Centre v0 v1 v2 v3 v4 v5 v6).lookup ("heard" : Str) = none := no_Centre (by decide +kernel) (by decide +kernel) (by decide +kernel) (by decide +kernel) (by decide +kernel) (by decide +kernel) (by decide +kernel)
theorem nm_z9 {v0 v1 v2 v3 v4 v5 v6 : V} : (fs_Centre v0 v1 v2 v3 v4 v5 v6).lookup ("heard_tap" : Str) = none := no_Centre (by decide +kernel) (by decide +kernel) (by decide +kernel) (by decide +kernel) (by decide +kernel) (by decide +kernel) (by decide +kernel)
theorem nm_z6 {v0 v1 v2 v3 v4 v5 v6 : V} : (fs_Centre v0 v1 v2 v3 v4 v5 v6).lookup ("keep_ride" : Str) = none := no_Centre (by decide +kernel) (by decide +kernel) (by decide +kernel) (by decide +kernel) (by decide +kernel) (by decide +kernel) (by decide +kernel)
theorem nm_z2 {v0 v1 v2 v3 v4 v5 v6 : V} : (fs_Centre v0 v1 v2 v3 v4 v5 v6).lookup ("heard_seal" : Str) = none := no_Centre (by decide +kernel) (by decide +kernel) (by decide +kernel) (by decide +kernel) (by decide +kernel) (by decide +kernel) (by decide +kernel)
theorem nm_z10 {v0 v1 v2 v3 v4 v5 v6 : V} : (fs_Centre v0 v1 v2 v3 v4 v5 v6).lookup ("has_gap" : Str) = none := no_Centre (by decide +kernel) (by decide +kernel) (by decide +kernel) (by decide +kernel) (by decide +kernel) (by decide +kernel) (by decide +kernel)
theorem nm_z13 {v0 v1 v2 v3 v4 v5 v6 : V} : (fs_Centre v0 v1 v2 v3 v4 v5 v6).lookup ("lacks" : Str) = none := no_Centre (by decide +kernel) (by decide +kernel) (by decide +kernel) (by decide +kernel) (by decide +kernel) (by decide +kernel) (by decide +kernel)
theorem nm_z5 {v0 v1 v2 v3 v4 v5 v6 : V} : (fs_Centre v0 v1 v2 v3 v4 v5 v6).lookup ("is_closed" : Str) = none := no_Centre (by decide +kernel) (by decide +kernel) (by decide +kernel) (by decide +kernel) (by decide +kernel) (by decide +kernel) (by decide +kernel)
theorem nm_z1 {v0 v1 v2 v3 v4 v5 v6 : V} : (fs_Centre v0 v1 v2 v3 v4 v5 v6).lookup ("ride_count" : Str) = none := no_Centre (by decide +kernel) (by decide +kernel) (by decide +kernel) (by decide +kernel) (by decide +kernel) (by decide +kernel) (by decide +kernel)
theorem nm_z3 {v0 v1 v2 v3 v4 v5 v6 : V} : (fs_Centre v0 v1 v2 v3 v4 v5 v6).lookup ("refusal_of" : Str) = none := no_Centre (by decide +kernel) (by decide +kernel) (by decide +kernel) (by decide +kernel) (by decide +kernel) (by decide +kernel) (by decide +kernel)
theorem nm_z11 {v0 v1 v2 v3 v4 v5 v6 : V} : (fs_Centre v0 v1 v2 v3 v4 v5 v6).lookup ("way_of" : Str) = none := no_Centre (by decide +kernel) (by decide +kernel) (by decide +kernel) (by decide +kernel) (by decide +kernel) (by decide +kernel) (by decide +kernel)
theorem nm_z20 {v0 v1 v2 v3 v4 v5 v6 : V} : (fs_Centre v0 v1 v2 v3 v4 v5 v6).lookup ("bill" : Str) = none := no_Centre (by decide +kernel) (by decide +kernel) (by decide +kernel) (by decide +kernel) (by decide +kernel) (by decide +kernel) (by decide +kernel)
theorem nm_z27 {v0 v1 v2 v3 v4 v5 v6 : V} : (fs_Centre v0 v1 v2 v3 v4 v5 v6).lookup ("how" : Str) = none := no_Centre (by decide +kernel) (by decide +kernel) (by decide +kernel) (by decide +kernel) (by decide +kernel) (by decide +kernel) (by decide +kernel)
def fs_Line (v0 v1 : V) : List (Str × V) := [("readers", v0), ("centre", v1)]
theorem lk_Line_readers {v0 v1 : V} : (fs_Line v0 v1).lookup ("readers" : Str) = some v0 := by
  unfold fs_Line
  rw [lk_eq]
theorem lk_Line_centre {v0 v1 : V} : (fs_Line v0 v1).lookup ("centre" : Str) = some v1 := by
  unfold fs_Line
  rw [lk_ne (by decide +kernel), lk_eq]
theorem pt_Line_centre {v0 v1 y : V} : putF "centre" y (fs_Line v0 v1) = fs_Line v0 y := by
  unfold fs_Line
  rw [putF_ne (by decide +kernel), putF_eq]
theorem no_Line {v0 v1 : V} {m : Str} (h0 : ¬ m = "readers") (h1 : ¬ m = "centre") : (fs_Line v0 v1).lookup m = none := by
  unfold fs_Line
  rw [lk_ne h0, lk_ne h1, List.lookup_nil]
theorem ini_Line {v0 v1 : V} : putF "centre" v1 (putF "readers" v0 []) = fs_Line v0 v1 := by
  unfold fs_Line
  repeat (first | rw [putF_nil] | rw [putF_ne (by decide +kernel)])
theorem nm_z0 {v0 v1 : V} : (fs_Line v0 v1).lookup ("start_reader" : Str) = none := no_Line (by decide +kernel) (by decide +kernel)
theorem nm_z4 {v0 v1 : V} : (fs_Line v0 v1).lookup ("start_centre" : Str) = none := no_Line (by decide +kernel) (by decide +kernel)
section
variable {P : Program} {w : World} {K : PySem.W.Frag} {mg : Str → Option Value} {base : Heap}
def spCrc (K : PySem.W.Frag) : Sp := fun vs H Q _ => ∃ (a : Addr) (bs : List Nat), vs = [.ref a] ∧ SqL K H a (bs.map nv) ∧ Q (nv (Km347.crc bs)) H
theorem crc_bit1 {x : Nat} (h : x % 2 = 1) : Builtin.bitXor ((x : Int) / 2 ^ (1 : Int).toNat) 2197175160 = ((Km347.crcBit x : Nat) : Int) := by
  have e : (x : Int) / 2 ^ (1 : Int).toNat = ((x / 2 : Nat) : Int) := ishr x 1 1 rfl
  unfold Km347.crcBit
  rw [if_pos h, e]
  exact bxor (x / 2) 2197175160
theorem crc_bit0 {x : Nat} (h : ¬ x % 2 = 1) : (x : Int) / 2 ^ (1 : Int).toNat = ((Km347.crcBit x : Nat) : Int) := by
  have e : (x : Int) / 2 ^ (1 : Int).toNat = ((x / 2 : Nat) : Int) := ishr x 1 1 rfl
  unfold Km347.crcBit
  rw [if_neg h, e]
theorem ok_z46 {a : Ad} (T : Tx K mg a) : FnOk P w K mg base CX0 1 a.f_z46 a.d_z46 ["data"] (spCrc K) := by
  refine T.F_z46.ok sc_z46 (fun vs H Q E h => ?_) (fun cdv A outer s H vs Q E hr h => ?_)
  · obtain ⟨a, bs, rfl, _⟩ := h
    rfl
  · obtain ⟨d, bs, rfl, hS, k⟩ := h
    refine ⟨_, (pss_cons (ps_set (i := 1) sc_z46.nd rfl (Or.inl rfl) (pe_gint rfl T.g_ALL_ONES))
      (pss_cons (ps_for PassesOwn.never rfl (pi_list (pv 0)) (pg_name (i := 2) sc_z46.nd rfl (Or.inl rfl))
        (pss_cons (ps_set (i := 1) sc_z46.nd rfl (Or.inl rfl) (pe_op op_xor (pv 1) (pv 2)))
        (pss_one (ps_for PassesOwn.never rfl (pi_range1 rfl T.n_range (pa_cons pe_int pa_nil)) (pg_name (i := 3) sc_z46.nd rfl (Or.inl rfl))
          (pss_one (ps_if (pt_cmpR op_eq (pe_op op_and (pv 1) pe_int) pe_int (nomark _))
            (pss_one (ps_set (i := 1) sc_z46.nd rfl (Or.inl rfl) (pe_op op_xor (pe_op op_shr (pv 1) pe_int) (pe_gint rfl T.g_POLYNOMIAL))))
            (pss_one (ps_set (i := 1) sc_z46.nd rfl (Or.inl rfl) (pe_op op_shr (pv 1) pe_int)))))))))
      (pss_one (ps_ret (pe_op op_xor (pv 1) (pe_gint rfl T.g_ALL_ONES)))))), ?_⟩
    refine ⟨_, rfl, d, rfl, ⟨_, hS⟩, for_list (K := K) (a := d) (xs := bs.map nv) (fun i σ H' => ∃ v2 v3 : Option V, σ = [some (.ref d), some (nv ((bs.take i).foldl Km347.crcByte 0xFFFFFFFF)), v2, v3] ∧ H' = H)
      ⟨none, none, rfl, rfl⟩ (fun i σ H' _ ⟨_, _, _, e⟩ => by rw [e]; exact hS) ?_ ?_⟩
    · rintro i y σ H' hi ⟨v2, v3, rfl, rfl⟩
      obtain ⟨b, hb, rfl⟩ := map_get hi
      rw [take_snoc hb, List.foldl_append, List.foldl_cons, List.foldl_nil, bits8]
      generalize (bs.take i).foldl Km347.crcByte 0xFFFFFFFF = c
      refine ⟨_, rfl, _, rfl, _, _, rfl, rfl, 8, rfl, by decide, by decide, for_range (lo := 0) (n := 8) (fun j σ H'' => ∃ v3 : Option V, σ = [some (.ref d), some (nv (bits j (c ^^^ b))), some (nv b), v3] ∧ H'' = H')
        ⟨v3, congrArg (fun z => [some (V.ref d), some (V.int z), some (nv b), v3]) (bxor c b), rfl⟩ ?_ ?_⟩
      · rintro j σ H'' hj ⟨v3, rfl, rfl⟩
        have eb : bits (j + 1) (c ^^^ b) = Km347.crcBit (bits j (c ^^^ b)) := by rw [bits]
        rw [eb]
        generalize bits j (c ^^^ b) = x
        refine ⟨_, rfl, _, _, rfl, rfl, rfl, _, rfl, ?_⟩
        have e1 : Builtin.bitAnd (x : Int) 1 = ((x % 2 : Nat) : Int) := by
          rw [PyProof.Rows.bitAnd_m1]
          omega
        refine iteD (fun hx => ?_) (fun hx => ?_)
        · have hx := eqI_t hx
          refine ⟨_, rfl, _, _, rfl, rfl, (by show (0 : Int) ≤ 1; decide), _, _, rfl, rfl, ?_⟩
          exact ⟨_, congrArg (fun z => [some (V.ref d), some (V.int z), some (nv b), _]) (crc_bit1 (by omega)), rfl⟩
        · have hx := eqI_f hx
          refine ⟨_, rfl, _, _, rfl, rfl, (by show (0 : Int) ≤ 1; decide), ?_⟩
          exact ⟨_, congrArg (fun z => [some (V.ref d), some (V.int z), some (nv b), _]) (crc_bit0 (by omega)), rfl⟩
      · rintro σ H'' ⟨v3, rfl, rfl⟩
        exact ⟨_, _, rfl, rfl⟩
    · rintro σ H' ⟨v2, v3, rfl, rfl⟩
      rw [List.length_map, List.take_length]
      refine ⟨_, rfl, _, _, rfl, rfl, ?_⟩
      have e := bxor (bs.foldl Km347.crcByte 0xFFFFFFFF) 0xFFFFFFFF
      have k : Q (V.int ((bs.foldl Km347.crcByte 0xFFFFFFFF ^^^ 0xFFFFFFFF : Nat) : Int)) H' := k
      rw [← e] at k
      exact k
def New (H : Hp) (Q : VK) (xs : List V) : Prop := ∀ (H' : Hp) (p : Addr), Same H H' → H p = none → H' p = some (.lst xs) → Q (.ref p) H'
def spFour : Sp := fun vs H Q _ => ∃ n : Nat, vs = [nv n] ∧ New H Q ((Km347.le 4 n).map nv)
theorem byte_at (n k m : Nat) (j : Int) (hj : j = (k : Int)) (hm : m = 2 ^ k) : Builtin.bitAnd ((n : Int) / 2 ^ j.toNat) 255 = ((n / m % 256 : Nat) : Int) := by
  rw [ishr n k j hj, ← hm, ← and255]
  exact band (n / m) 255
theorem ok_z30 {a : Ad} (T : Tx K mg a) : FnOk P w K mg base CX0 1 a.f_z30 a.d_z30 ["number"] (spFour) := by
  refine T.F_z30.ok sc_z30 (fun vs H Q E h => ?_) (fun cdv A outer s H vs Q E hr h => ?_)
  · obtain ⟨n, rfl, _⟩ := h
    rfl
  · obtain ⟨n, rfl, k⟩ := h
    refine ⟨_, (pss_one (ps_ret (pe_lst (pa_cons (pe_op op_and (pv 0) pe_int) (pa_cons (pe_op op_and (pe_op op_shr (pv 0) pe_int) pe_int) (pa_cons (pe_op op_and (pe_op op_shr (pv 0) pe_int) pe_int) (pa_cons (pe_op op_and (pe_op op_shr (pv 0) pe_int) pe_int) pa_nil))))))), ?_⟩
    refine ⟨_, rfl, _, _, rfl, rfl, _, rfl, _, _, rfl, rfl, (by show (0 : Int) ≤ 8; decide), _, _, rfl, rfl, _, rfl, _, _, rfl, rfl, (by show (0 : Int) ≤ 16; decide), _, _, rfl, rfl, _, rfl, _, _, rfl, rfl, (by show (0 : Int) ≤ 24; decide), _, _, rfl, rfl, (by show 4 ≤ sizeLine; decide), fun p hp => ?_⟩
    refine k _ p (Same.new hp) hp ?_
    rw [upd_same, le4]
    have e0 : Builtin.bitAnd (n : Int) 255 = ((n % 256 : Nat) : Int) := by
      rw [← and255]
      exact band n 255
    have e1 := byte_at n 8 256 8 rfl rfl
    have e2 := byte_at n 16 65536 16 rfl rfl
    have e3 := byte_at n 24 16777216 24 rfl rfl
    show some (HO.lst [V.int _, V.int _, V.int _, V.int _]) = some (HO.lst [V.int _, V.int _, V.int _, V.int _])
    rw [← e0, ← e1, ← e2, ← e3]
def spChecked : Sp := fun vs H Q _ => ∃ (a : Addr) (bs : List Nat), vs = [.ref a] ∧ H a = some (.lst (bs.map nv)) ∧ bs.length ≤ 1000 ∧ New H Q ((Km347.checked bs).map nv)
theorem ok_z29 {a : Ad} (T : Tx K mg a) : FnOk P w K mg base CX0 2 a.f_z29 a.d_z29 ["data"] (spChecked) := by
  have G_z46 := ok_z46 (P := P) (w := w) (base := base) T
  have G_z30 := ok_z30 (P := P) (w := w) (base := base) T
  refine T.F_z29.ok sc_z29 (fun vs H Q E h => ?_) (fun cdv A outer s H vs Q E hr h => ?_)
  · obtain ⟨d, bs, rfl, _⟩ := h
    rfl
  · obtain ⟨d, bs, rfl, hd, hl, k⟩ := h
    refine ⟨_, (pss_one (ps_ret (pe_op op_cat (pv 0) (pe_call G_z30 (hr.mono (by decide)) rfl T.m_z30 T.F_z30.kp T.b_z30 .nil pass0 (pa_cons (pe_call G_z46 (hr.mono (by decide)) rfl T.m_z46 T.F_z46.kp T.b_z46 .nil pass0 (pa_cons (pv 0) pa_nil)) pa_nil))))), ?_⟩
    refine ⟨_, rfl, _, rfl, d, bs, rfl, SqL.of hd, Km347.crc bs, rfl, fun H1 p s1 n1 h1 => ?_⟩
    refine ⟨d, p, _, _, rfl, rfl, s1 _ _ hd, h1, ?_, fun q hq => ?_⟩
    · rw [List.length_map, List.length_map, le4]
      exact Nat.le_trans (Nat.add_le_add_right hl 4) (by show 1004 ≤ sizeLine; decide)
    · refine k _ q (s1.trans (Same.new hq)) (s1.free hq) ?_
      rw [upd_same, Km347.checked, List.map_append]
def spTapMsg : Sp := fun vs H Q _ => ∃ (x : Km347.Tap), vs = [nv x.reader, nv x.number, nv x.card, nv x.minute, nv x.zones] ∧ New H Q (x.bytes.map nv)
theorem ok_z21 {a : Ad} (T : Tx K mg a) : FnOk P w K mg base CX0 3 a.f_z21 a.d_z21 ["reader", "number", "card", "minute", "zones"] (spTapMsg) := by
  have G_z30 := ok_z30 (P := P) (w := w) (base := base) T
  have G_z29 := ok_z29 (P := P) (w := w) (base := base) T
  refine T.F_z21.ok sc_z21 (fun vs H Q E h => ?_) (fun cdv A outer s H vs Q E hr h => ?_)
  · obtain ⟨x, rfl, _⟩ := h
    rfl
  · obtain ⟨x, rfl, k⟩ := h
    refine ⟨_, (pss_one (ps_ret (pe_call G_z29 (hr.mono (by decide)) rfl T.m_z29 T.F_z29.kp T.b_z29 .nil pass0 (pa_cons (pe_op op_cat (pe_op op_cat (pe_op op_cat (pe_lst (pa_cons (pe_gint rfl T.g_TAP) (pa_cons (pv 0) (pa_cons (pv 4) (pa_cons pe_int pa_nil))))) (pe_call G_z30 (hr.mono (by decide)) rfl T.m_z30 T.F_z30.kp T.b_z30 .nil pass0 (pa_cons (pv 1) pa_nil))) (pe_call G_z30 (hr.mono (by decide)) rfl T.m_z30 T.F_z30.kp T.b_z30 .nil pass0 (pa_cons (pv 2) pa_nil))) (pe_call G_z30 (hr.mono (by decide)) rfl T.m_z30 T.F_z30.kp T.b_z30 .nil pass0 (pa_cons (pv 3) pa_nil))) pa_nil)))), ?_⟩
    refine ⟨_, rfl, _, rfl, (by show 4 ≤ sizeLine; decide), fun p0 n0 => ⟨_, rfl, x.number, rfl, fun H1 p1 s1 n1 h1 => ?_⟩⟩
    refine ⟨p0, p1, _, _, rfl, rfl, s1 _ _ upd_same, h1, (by rw [le4]; show 8 ≤ sizeLine; decide), fun p2 n2 => ⟨_, rfl, x.card, rfl, fun H2 p3 s2 n3 h3 => ?_⟩⟩
    refine ⟨p2, p3, _, _, rfl, rfl, s2 _ _ upd_same, h3, (by rw [le4, le4]; show 12 ≤ sizeLine; decide), fun p4 n4 => ⟨_, rfl, x.minute, rfl, fun H3 p5 s3 n5 h5 => ?_⟩⟩
    refine ⟨p4, p5, _, _, rfl, rfl, s3 _ _ upd_same, h5, (by rw [le4, le4, le4]; show 16 ≤ sizeLine; decide), fun p6 n6 => ?_⟩
    have sa := (((((Same.new n0).trans s1).trans (Same.new n2)).trans s2).trans (Same.new n4)).trans s3
    refine ⟨p6, [1, x.reader, x.zones, 0] ++ (Km347.le 4 x.number ++ (Km347.le 4 x.card ++ Km347.le 4 x.minute)), rfl, ?_, (by rw [le4, le4, le4]; show 16 ≤ 1000; decide), fun H4 p7 s4 n7 h7 => ?_⟩
    · rw [upd_same, List.map_append, List.map_append, List.map_append, List.append_assoc, List.append_assoc]
      rfl
    · exact k H4 p7 (sa.trans ((Same.new n6).trans s4)) (sa.free ((Same.new n6).free n7)) h7
def spSealMsg : Sp := fun vs H Q _ => ∃ (x : Km347.Seal), vs = [nv x.reader, nv x.many, nv x.minute] ∧ New H Q (x.bytes.map nv)
theorem ok_z15 {a : Ad} (T : Tx K mg a) : FnOk P w K mg base CX0 3 a.f_z15 a.d_z15 ["reader", "number", "minute"] (spSealMsg) := by
  have G_z30 := ok_z30 (P := P) (w := w) (base := base) T
  have G_z29 := ok_z29 (P := P) (w := w) (base := base) T
  refine T.F_z15.ok sc_z15 (fun vs H Q E h => ?_) (fun cdv A outer s H vs Q E hr h => ?_)
  · obtain ⟨x, rfl, _⟩ := h
    rfl
  · obtain ⟨x, rfl, k⟩ := h
    refine ⟨_, (pss_one (ps_ret (pe_call G_z29 (hr.mono (by decide)) rfl T.m_z29 T.F_z29.kp T.b_z29 .nil pass0 (pa_cons (pe_op op_cat (pe_op op_cat (pe_op op_cat (pe_lst (pa_cons (pe_gint rfl T.g_SEAL) (pa_cons (pv 0) (pa_cons pe_int (pa_cons pe_int pa_nil))))) (pe_call G_z30 (hr.mono (by decide)) rfl T.m_z30 T.F_z30.kp T.b_z30 .nil pass0 (pa_cons (pv 1) pa_nil))) (pe_call G_z30 (hr.mono (by decide)) rfl T.m_z30 T.F_z30.kp T.b_z30 .nil pass0 (pa_cons pe_int pa_nil))) (pe_call G_z30 (hr.mono (by decide)) rfl T.m_z30 T.F_z30.kp T.b_z30 .nil pass0 (pa_cons (pv 2) pa_nil))) pa_nil)))), ?_⟩
    refine ⟨_, rfl, (by show 4 ≤ sizeLine; decide), fun p0 n0 => ⟨_, rfl, x.many, rfl, fun H1 p1 s1 n1 h1 => ?_⟩⟩
    refine ⟨p0, p1, _, _, rfl, rfl, s1 _ _ upd_same, h1, (by rw [le4]; show 8 ≤ sizeLine; decide), fun p2 n2 => ⟨0, rfl, fun H2 p3 s2 n3 h3 => ?_⟩⟩
    refine ⟨p2, p3, _, _, rfl, rfl, s2 _ _ upd_same, h3, (by rw [le4, le4]; show 12 ≤ sizeLine; decide), fun p4 n4 => ⟨_, rfl, x.minute, rfl, fun H3 p5 s3 n5 h5 => ?_⟩⟩
    refine ⟨p4, p5, _, _, rfl, rfl, s3 _ _ upd_same, h5, (by rw [le4, le4, le4]; show 16 ≤ sizeLine; decide), fun p6 n6 => ?_⟩
    have sa := (((((Same.new n0).trans s1).trans (Same.new n2)).trans s2).trans (Same.new n4)).trans s3
    refine ⟨p6, [2, x.reader, 0, 0] ++ (Km347.le 4 x.many ++ (Km347.le 4 0 ++ Km347.le 4 x.minute)), rfl, ?_, (by rw [le4, le4, le4]; show 16 ≤ 1000; decide), fun H4 p7 s4 n7 h7 => ?_⟩
    · rw [upd_same, List.map_append, List.map_append, List.map_append, List.append_assoc, List.append_assoc]
      rfl
    · exact k H4 p7 (sa.trans ((Same.new n6).trans s4)) (sa.free ((Same.new n6).free n7)) h7
end
end Fb
namespace Fb
open PySem PySem.Spec PyProof.Rows L2
def Fr (F : List Addr) (H H' : Hp) : Prop := ∀ b o, H b = some o → b ∉ F → H' b = some o
theorem Fr.of_same {F : List Addr} {H H' : Hp} (s : Same H H') : Fr F H H' := fun b o e _ => s b o e
theorem Fr.trans {F : List Addr} {H H1 H2 : Hp} (a : Fr F H H1) (b : Fr F H1 H2) : Fr F H H2 := fun c o e n => b c o (a c o e n) n
theorem Fr.upd {F : List Addr} {H : Hp} {p : Addr} {o : HO} (h : p ∈ F) : Fr F H (upd H p o) := fun b u e n => by
  rw [upd_ne (fun q => n (by rw [q]; exact h))]
  exact e
theorem Fr.free {F : List Addr} {H H' : Hp} {q : Addr} (f : Fr F H H') (hF : ∀ b ∈ F, H' b ≠ none) (h : H' q = none) : H q = none := by
  cases z : H q with
  | none => rfl
  | some v =>
    have n : q ∉ F := fun m => hF q m h
    rw [f q v z n] at h
    cases h
theorem there2 {H : Hp} {p l : Addr} {o u : HO} (hp : H p = some o) (hl : H l = some u) : ∀ b ∈ [p, l], H b ≠ none := fun b hb => by
  rcases List.mem_cons.mp hb with e | e
  · rw [e, hp]
    simp
  · rw [List.mem_singleton.mp e, hl]
    simp
structure RdAt (C : Addr) (H : Hp) (p l : Addr) (r : Km347.Reader) : Prop where
  ob : ∃ dx, H p = some (.ins C dx (fs_Reader (nv r.me) (.ref l) (nv r.last)))
  ls : ∃ as : List Addr, H l = some (.lst (as.map V.ref)) ∧ as.length = r.taps.length ∧ ∀ (i : Nat) (x : Km347.Tap), r.taps[i]? = some x → ∃ q, as[i]? = some q ∧ H q = some (.tup [nv x.card, nv x.minute, nv x.zones])
  ok : ∀ (i : Nat) (x : Km347.Tap), r.taps[i]? = some x → x.reader = r.me ∧ x.number = i
  few : r.taps.length ≤ 8192
theorem RdAt.frame {C : Addr} {H H' : Hp} {p l : Addr} {r : Km347.Reader} {F : List Addr} (h : RdAt C H p l r) (hp : p ∉ F) (hl : l ∉ F) (ht : ∀ q xs, H q = some (.tup xs) → q ∉ F) (fr : Fr F H H') : RdAt C H' p l r := by
  obtain ⟨⟨dx, ob⟩, ⟨as, h1, h2, h3⟩, ok, few⟩ := h
  refine ⟨⟨dx, fr _ _ ob hp⟩, ⟨as, fr _ _ h1 hl, h2, fun i x e => ?_⟩, ok, few⟩
  obtain ⟨q, e1, e2⟩ := h3 i x e
  exact ⟨q, e1, fr _ _ e2 (ht _ _ e2)⟩
theorem RdAt.same {C : Addr} {H H' : Hp} {p l : Addr} {r : Km347.Reader} (h : RdAt C H p l r) (s : Same H H') : RdAt C H' p l r :=
  h.frame (F := []) (by simp) (by simp) (by simp) (Fr.of_same s)
theorem told_map (a : Km347.Ans) : (Km347Neutral.told a).map V.int = V.int a.value :: a.out.map nv := by
  unfold Km347Neutral.told Km347Neutral.nums
  rw [List.map_cons, List.map_map]
  rfl
theorem told_only (v : Int) : (Km347Neutral.told (Km347.only v)).map V.int = [V.int v] := by
  rw [told_map]
  rfl
theorem bytes_len (l : List Nat) : (Km347.checked l).length = l.length + 4 := by
  unfold Km347.checked
  rw [List.length_append, le4]
  rfl
theorem tap_len (x : Km347.Tap) : x.bytes.length = 20 := by
  unfold Km347.Tap.bytes
  rw [bytes_len, le4, le4, le4]
  rfl
theorem seal_len (x : Km347.Seal) : x.bytes.length = 20 := by
  unfold Km347.Seal.bytes
  rw [bytes_len, le4, le4, le4]
  rfl
section
variable {P : Program} {w : World} {K : PySem.W.Frag} {mg : Str → Option Value} {base : Heap}
def spReaderInit (a : Ad) : Sp := fun vs H Q _ => ∃ (p dx : Addr) (me : Nat), vs = [.ref p, nv me] ∧ H p = some (.ins a.c_Reader dx []) ∧
  ∀ (H' : Hp) (l : Addr), H l = none → RdAt a.c_Reader H' p l (Km347.reader0 me) → Fr [p] H H' → Q .non H'
theorem ok_z24 {a : Ad} (T : Tx K mg a) : FnOk P w K mg base CX0 1 a.f_z24 a.d_z24 ["self", "me"] (spReaderInit a) := by
  refine T.F_z24.ok sc_z24 (fun vs H Q E h => ?_) (fun cdv A outer s H vs Q E hr h => ?_)
  · obtain ⟨p, dx, me, rfl, _⟩ := h
    rfl
  · obtain ⟨p, dx, me, rfl, hp, k⟩ := h
    refine ⟨_, (pss_cons (ps_fld (pv 0) (pv 1) rfl)
      (pss_cons (ps_fld (pv 0) (pe_lst pa_nil) rfl)
      (pss_one (ps_fld (pv 0) pe_int rfl)))), ?_⟩
    refine ⟨_, rfl, _, rfl, p, _, dx, [], rfl, hp, T.cl_Reader, T.na_Reader_me, (by show 0 < 1000; decide), Nat.zero_le _, fun l hl => ?_⟩
    have npl : p ≠ l := ne_of_none upd_same hl
    refine ⟨_, rfl, p, _, dx, _, rfl, (by rw [upd_ne npl, upd_same]), T.cl_Reader, T.na_Reader_taps, (by rw [putF_nil]; show 1 < 1000; decide), ?_⟩
    refine ⟨_, rfl, p, _, dx, _, rfl, upd_same, T.cl_Reader, T.na_Reader_greatest, (by rw [putF_nil, putF_ne (by decide +kernel), putF_nil]; show 2 < 1000; decide), ?_⟩
    refine k _ l (by rw [upd_ne npl.symm] at hl; exact hl) ⟨⟨dx, ?_⟩, ⟨[], ?_, rfl, fun i x e => by simp [Km347.reader0] at e⟩, fun i x e => by simp [Km347.reader0] at e, by simp [Km347.reader0]⟩ ?_
    · rw [upd_same, ini_Reader]
      rfl
    · rw [upd_ne npl.symm, upd_ne npl.symm, upd_same]
      rfl
    · intro b o e n
      have nb : b ≠ p := by simpa using n
      have nl : b ≠ l := ne_of_none (H := upd H p (.ins a.c_Reader dx (putF "me" (nv me) []))) (by rw [upd_ne nb]; exact e) hl
      rw [upd_ne nb, upd_ne nb, upd_ne nl, upd_ne nb]
      exact e
def spAgain (a : Ad) : Sp := fun vs H Q _ => ∃ (p l : Addr) (r : Km347.Reader) (n : Nat), vs = [.ref p, nv n] ∧ RdAt a.c_Reader H p l r ∧ New H Q ((Km347Neutral.told (Km347.rDoes r (.rAgain n)).2).map V.int)
theorem ok_z16 {a : Ad} (T : Tx K mg a) : FnOk P w K mg base CX0 4 a.f_z16 a.d_z16 ["self", "number"] (spAgain a) := by
  have G_z21 := ok_z21 (P := P) (w := w) (base := base) T
  refine T.F_z16.ok sc_z16 (fun vs H Q E h => ?_) (fun cdv A outer s H vs Q E hr h => ?_)
  · obtain ⟨p, l, r, n, rfl, _⟩ := h
    rfl
  · obtain ⟨p, l, r, n, rfl, R, k⟩ := h
    obtain ⟨⟨dx, ob⟩, ⟨as, hl, hlen, hat⟩, ok, few⟩ := R
    refine ⟨_, (pss_cons (ps_if (pt_cmpR op_ge (pv 1) (pe_callB call_len_seq rfl T.n_len PySem.boot_len (pa_cons (pe_fld (pv 0) rfl) pa_nil)) (nomark _))
        (pss_one (ps_ret (pe_lst (pa_cons (pe_gint rfl T.g_NOT_THERE) pa_nil))))
        pss_nil)
      (pss_cons (ps_set (i := 2) sc_z16.nd rfl (Or.inl rfl) (pe_ix ix_list (pe_fld (pv 0) rfl) (pv 1) (fun _ _ => rfl)))
      (pss_one (ps_ret (pe_op op_cat (pe_lst (pa_cons (pv 1) pa_nil)) (pe_call G_z21 (hr.mono (by decide)) rfl T.m_z21 T.F_z21.kp T.b_z21 .nil pass0 (pa_cons (pe_fld (pv 0) rfl) (pa_cons (pv 1) (pa_cons (pe_ix ix_tup (pv 2) pe_int (fun _ _ => rfl)) (pa_cons (pe_ix ix_tup (pv 2) pe_int (fun _ _ => rfl)) (pa_cons (pe_ix ix_tup (pv 2) pe_int (fun _ _ => rfl)) pa_nil))))))))))), ?_⟩
    refine ⟨_, rfl, _, rfl, p, _, dx, _, _, rfl, ob, T.cl_Reader, T.na_Reader_taps, lk_Reader_taps, l, _, rfl, .inl (SqL.of hl), _, _, rfl, rfl, _, rfl, ?_⟩
    refine iteD (fun hc => ?_) (fun hc => ?_)
    · have hc := of_decide_eq_true hc
      have e : r.taps[n]? = none := List.getElem?_eq_none (by rw [List.length_map, hlen] at hc; omega)
      refine ⟨(by show 1 ≤ sizeLine; decide), fun q hq => k _ q (Same.new hq) hq ?_⟩
      rw [upd_same]
      rw [again_none e, told_only]
    · have hc := of_decide_eq_false hc
      rw [List.length_map, hlen] at hc
      have hn : n < r.taps.length := by omega
      obtain ⟨x, hx⟩ : ∃ x, r.taps[n]? = some x := ⟨_, List.getElem?_eq_getElem hn⟩
      obtain ⟨q, hq, hqt⟩ := hat n x hx
      obtain ⟨e1, e2⟩ := ok n x hx
      refine ⟨_, rfl, p, _, dx, _, _, rfl, ob, T.cl_Reader, T.na_Reader_taps, lk_Reader_taps, _, rfl, l, _, _, _, rfl, rfl, SqL.of hl, atI_nat (get_map hq), ?_⟩
      refine ⟨_, rfl, (by show 1 ≤ sizeLine; decide), fun p0 n0 => ?_⟩
      have s0 : Same H (upd H p0 (.lst [nv n])) := Same.new n0
      refine ⟨_, rfl, p, _, dx, _, _, rfl, s0 _ _ ob, T.cl_Reader, T.na_Reader_me, lk_Reader_me, _, rfl, _, rfl, q, _, _, _, rfl, rfl, SqT.of (s0 _ _ hqt), atI_nat (j := 0) rfl, _, rfl, q, _, _, _, rfl, rfl, SqT.of (s0 _ _ hqt), atI_nat (j := 1) rfl, _, rfl, q, _, _, _, rfl, rfl, SqT.of (s0 _ _ hqt), atI_nat (j := 2) rfl,
        x, (by rw [e1, e2]; rfl), fun H1 p1 s1 n1 h1 => ?_⟩
      refine ⟨p0, p1, _, _, rfl, rfl, s1 _ _ upd_same, h1, (by rw [List.length_map, tap_len]; show 21 ≤ sizeLine; decide), fun p2 n2 => ?_⟩
      refine k _ p2 (s0.trans (s1.trans (Same.new n2))) (s0.free (s1.free n2)) ?_
      rw [upd_same]
      rw [again_some hx, told_map]
      rfl
def spSeal (a : Ad) : Sp := fun vs H Q _ => ∃ (p l : Addr) (r : Km347.Reader) (m : Nat), vs = [.ref p, nv m] ∧ RdAt a.c_Reader H p l r ∧
  ∀ (H' : Hp) (q : Addr), RdAt a.c_Reader H' p l (Km347.rDoes r (.rSeal m)).1 → Fr [p, l] H H' → H q = none → H' q = some (.lst ((Km347Neutral.told (Km347.rDoes r (.rSeal m)).2).map V.int)) → Q (.ref q) H'
theorem ok_z22 {a : Ad} (T : Tx K mg a) : FnOk P w K mg base CX0 4 a.f_z22 a.d_z22 ["self", "minute"] (spSeal a) := by
  have G_z15 := ok_z15 (P := P) (w := w) (base := base) T
  refine T.F_z22.ok sc_z22 (fun vs H Q E h => ?_) (fun cdv A outer s H vs Q E hr h => ?_)
  · obtain ⟨p, l, r, m, rfl, _⟩ := h
    rfl
  · obtain ⟨p, l, r, m, rfl, R, k⟩ := h
    obtain ⟨⟨dx, ob⟩, ⟨as, hl, hlen, hat⟩, ok, few⟩ := id R
    refine ⟨_, (pss_cons (ps_if (pt_cmpR op_gt (pv 1) (pe_gint rfl T.g_MINUTE_LIMIT) (nomark _))
        (pss_one (ps_ret (pe_lst (pa_cons (pe_gint rfl T.g_WRONG_VALUE) pa_nil))))
        pss_nil)
      (pss_cons (ps_if (pt_cmpR op_lt (pv 1) (pe_fld (pv 0) rfl) (nomark _))
        (pss_one (ps_ret (pe_lst (pa_cons (pe_gint rfl T.g_TOO_EARLY) pa_nil))))
        pss_nil)
      (pss_cons (ps_fld (pv 0) (pv 1) rfl)
      (pss_one (ps_ret (pe_op op_cat (pe_lst (pa_cons (pe_callB call_len_seq rfl T.n_len PySem.boot_len (pa_cons (pe_fld (pv 0) rfl) pa_nil)) pa_nil)) (pe_call G_z15 (hr.mono (by decide)) rfl T.m_z15 T.F_z15.kp T.b_z15 .nil pass0 (pa_cons (pe_fld (pv 0) rfl) (pa_cons (pe_callB call_len_seq rfl T.n_len PySem.boot_len (pa_cons (pe_fld (pv 0) rfl) pa_nil)) (pa_cons (pv 1) pa_nil)))))))))), ?_⟩
    refine ⟨_, rfl, _, _, rfl, rfl, _, rfl, ?_⟩
    refine iteD (fun hc => ?_) (fun hc => ?_)
    · have hc : Km347.MINUTES < m := by
        have hc := of_decide_eq_true hc
        unfold Km347.MINUTES
        omega
      have e : Km347.rDoes r (.rSeal m) = (r, Km347.only (-22)) := seal_22 hc
      refine ⟨(by show 1 ≤ sizeLine; decide), fun q hq => k _ q ?_ (Fr.of_same (Same.new hq)) hq ?_⟩
      · rw [e]
        exact R.same (Same.new hq)
      · rw [upd_same, e, told_only]
    · have hc : ¬ Km347.MINUTES < m := by
        have hc := of_decide_eq_false hc
        unfold Km347.MINUTES
        omega
      refine ⟨_, rfl, _, rfl, p, _, dx, _, _, rfl, ob, T.cl_Reader, T.na_Reader_greatest, lk_Reader_greatest, _, _, rfl, rfl, _, rfl, ?_⟩
      refine iteD (fun hd => ?_) (fun hd => ?_)
      · have hd : m < r.last := by
          have hd := of_decide_eq_true hd
          omega
        have e : Km347.rDoes r (.rSeal m) = (r, Km347.only (-13)) := seal_13 hc hd
        refine ⟨(by show 1 ≤ sizeLine; decide), fun q hq => k _ q ?_ (Fr.of_same (Same.new hq)) hq ?_⟩
        · rw [e]
          exact R.same (Same.new hq)
        · rw [upd_same, e, told_only]
      · have hd : ¬ m < r.last := by
          have hd := of_decide_eq_false hd
          omega
        have e : Km347.rDoes r (.rSeal m) = ({ r with last := m }, { value := (r.taps.length : Int), out := (⟨r.me, r.taps.length, m⟩ : Km347.Seal).bytes }) := seal_ok hc hd
        refine ⟨_, rfl, _, rfl, p, _, dx, _, rfl, ob, T.cl_Reader, T.na_Reader_greatest, (by show 3 < 1000; decide), ?_⟩
        rw [pt_Reader_greatest]
        have npl : l ≠ p := ne_of hl ob (by intro z; cases z)
        have hl1 : (upd H p (.ins a.c_Reader dx (fs_Reader (nv r.me) (.ref l) (nv m)))) l = some (.lst (as.map V.ref)) := by
          rw [upd_ne npl]
          exact hl
        have ob1 : (upd H p (.ins a.c_Reader dx (fs_Reader (nv r.me) (.ref l) (nv m)))) p = some (.ins a.c_Reader dx (fs_Reader (nv r.me) (.ref l) (nv m))) := upd_same
        have f1 : Fr [p, l] H (upd H p (.ins a.c_Reader dx (fs_Reader (nv r.me) (.ref l) (nv m)))) := Fr.upd (by simp)
        have R1 : RdAt a.c_Reader (upd H p (.ins a.c_Reader dx (fs_Reader (nv r.me) (.ref l) (nv m)))) p l { r with last := m } := by
          refine ⟨⟨dx, ob1⟩, ⟨as, hl1, hlen, fun i x ex => ?_⟩, ok, few⟩
          obtain ⟨q, e1, e2⟩ := hat i x ex
          exact ⟨q, e1, by rw [upd_ne (ne_of e2 ob (by intro z; cases z))]; exact e2⟩
        generalize upd H p (.ins a.c_Reader dx (fs_Reader (nv r.me) (.ref l) (nv m))) = H1 at hl1 ob1 f1 R1 ⊢
        refine ⟨_, rfl, p, _, dx, _, _, rfl, ob1, T.cl_Reader, T.na_Reader_taps, lk_Reader_taps, l, _, rfl, .inl (SqL.of hl1), (by show 1 ≤ sizeLine; decide), fun p0 n0 => ?_⟩
        have s0 := Same.new (o := HO.lst [V.int ((as.map V.ref).length : Int)]) n0
        refine ⟨_, rfl, p, _, dx, _, _, rfl, s0 _ _ ob1, T.cl_Reader, T.na_Reader_me, lk_Reader_me, _, rfl, p, _, dx, _, _, rfl, s0 _ _ ob1, T.cl_Reader, T.na_Reader_taps, lk_Reader_taps, l, _, rfl, .inl (SqL.of (s0 _ _ hl1)), _, rfl,
          ⟨r.me, r.taps.length, m⟩, (by rw [List.length_map, hlen]; rfl), fun H2 p1 s1 n1 h1 => ?_⟩
        refine ⟨p0, p1, _, _, rfl, rfl, s1 _ _ upd_same, h1, (by rw [List.length_map (f := nv), seal_len]; show 21 ≤ sizeLine; decide), fun p2 n2 => ?_⟩
        have s2 := s0.trans (s1.trans (Same.new (o := HO.lst ([V.int ((as.map V.ref).length : Int)] ++ (Km347.Seal.bytes ⟨r.me, r.taps.length, m⟩).map nv)) n2))
        refine k _ p2 ?_ (f1.trans (Fr.of_same s2)) ?_ ?_
        · rw [e]
          exact R1.same s2
        · exact f1.free (there2 ob1 hl1) (s0.free (s1.free n2))
        · rw [upd_same, e, told_map, List.length_map, hlen]
          rfl
theorem ret_only {C : Addr} {H : Hp} {p l : Addr} {r : Km347.Reader} {v : Int} {d : Km347.Reader × Km347.Ans} {Q : VK} (R : RdAt C H p l r) (e : d = (r, Km347.only v))
    (k : ∀ (H' : Hp) (q : Addr), RdAt C H' p l d.1 → Fr [p, l] H H' → H q = none → H' q = some (.lst ((Km347Neutral.told d.2).map V.int)) → Q (.ref q) H') :
    [V.int v].length ≤ sizeLine ∧ ∀ q, H q = none → Q (.ref q) (upd H q (.lst [V.int v])) := by
  subst e
  exact ⟨(by show 1 ≤ sizeLine; decide), fun q hq => k _ q (R.same (Same.new hq)) (Fr.of_same (Same.new hq)) hq (by rw [upd_same, told_only])⟩
def spTap (a : Ad) : Sp := fun vs H Q _ => ∃ (p l : Addr) (r : Km347.Reader) (c m z : Nat), vs = [.ref p, nv c, nv m, nv z] ∧ RdAt a.c_Reader H p l r ∧
  ∀ (H' : Hp) (q : Addr), RdAt a.c_Reader H' p l (Km347.rDoes r (.rTap c m z)).1 → Fr [p, l] H H' → H q = none → H' q = some (.lst ((Km347Neutral.told (Km347.rDoes r (.rTap c m z)).2).map V.int)) → Q (.ref q) H'
theorem ok_z26 {a : Ad} (T : Tx K mg a) : FnOk P w K mg base CX0 5 a.f_z26 a.d_z26 ["self", "card", "minute", "zones"] (spTap a) := by
  have G_z16 := ok_z16 (P := P) (w := w) (base := base) T
  refine T.F_z26.ok sc_z26 (fun vs H Q E h => ?_) (fun cdv A outer s H vs Q E hr h => ?_)
  · obtain ⟨p, l, r, c, m, z, rfl, _⟩ := h
    rfl
  · obtain ⟨p, l, r, c, m, z, rfl, R, k⟩ := h
    obtain ⟨⟨dx, ob⟩, ⟨as, hl, hlen, hat⟩, ok, few⟩ := id R
    refine ⟨_, (pss_cons (ps_if (PW.pt (pw_or (pt_cmpR op_ge (pv 2) (pe_gint rfl T.g_MINUTE_LIMIT) (nomark _)) (pw_or1 (pt_not (pt_chain op_le op_le pe_int (pv 3) (pe_gint rfl T.g_ALL_ZONES))))))
        (pss_one (ps_ret (pe_lst (pa_cons (pe_gint rfl T.g_WRONG_VALUE) pa_nil))))
        pss_nil)
      (pss_cons (ps_if (pt_cmpR op_lt (pv 2) (pe_fld (pv 0) rfl) (nomark _))
        (pss_one (ps_ret (pe_lst (pa_cons (pe_gint rfl T.g_TOO_EARLY) pa_nil))))
        pss_nil)
      (pss_cons (ps_if (pt_cmpR op_ge (pe_callB call_len_seq rfl T.n_len PySem.boot_len (pa_cons (pe_fld (pv 0) rfl) pa_nil)) (pe_gint rfl T.g_MOST_TAPS) (nomark _))
        (pss_one (ps_ret (pe_lst (pa_cons (pe_gint rfl T.g_NO_ROOM) pa_nil))))
        pss_nil)
      (pss_cons (ps_expr (pe_bm PySem.F.plainAttrs_list PySem.F.slot_list_append PySem.F.type_list_append mt_append (pe_fld (pv 0) rfl) (pa_cons (pe_tup (pa_cons (pv 1) (pa_cons (pv 2) (pa_cons (pv 3) pa_nil)))) pa_nil)))
      (pss_cons (ps_fld (pv 0) (pv 2) rfl)
      (pss_one (ps_ret (pe_meth (pv 0) T.cl_Reader T.h_z16 G_z16 (hr.mono (by decide)) T.b_z16 .nil pass0 (pa_cons (pe_op op_sub (pe_callB call_len_seq rfl T.n_len PySem.boot_len (pa_cons (pe_fld (pv 0) rfl) pa_nil)) pe_int) pa_nil))))))))), ?_⟩
    have eM : Km347.MINUTES = 2147483648 := rfl
    refine ⟨_, rfl, _, _, rfl, rfl, _, rfl, iteD (fun h1 => iteT ?_) (fun h1 => ⟨_, rfl, _, _, rfl, rfl, _, rfl, iteD (fun h2 => ⟨_, _, rfl, rfl, _, rfl, iteD (fun h3 => ?_) (fun h3 => ?_)⟩) (fun h2 => ⟨_, rfl, iteT ?_⟩)⟩)⟩
    · have h1 := of_decide_eq_true h1
      exact ret_only R (tap_22 (.inl (by omega))) k
    · have h3 : ¬ (z : Int) ≤ 255 := by
        intro q
        rw [decide_eq_true q] at h3
        cases h3
      exact ret_only R (tap_22 (.inr (.inr (by omega)))) k
    · have h1 := of_decide_eq_false h1
      have h2 := of_decide_eq_true h2
      have h3 : (z : Int) ≤ 255 := by
        by_cases q : (z : Int) ≤ 255
        · exact q
        · rw [decide_eq_false q] at h3
          cases h3
      have g : ¬ (Km347.MINUTES ≤ m ∨ z = 0 ∨ 255 < z) := by omega
      refine ⟨_, rfl, _, rfl, p, _, dx, _, _, rfl, ob, T.cl_Reader, T.na_Reader_greatest, lk_Reader_greatest, _, _, rfl, rfl, _, rfl, iteD (fun h4 => ?_) (fun h4 => ?_)⟩
      · have h4 := of_decide_eq_true h4
        exact ret_only R (tap_13 g (by omega)) k
      have h4 := of_decide_eq_false h4
      refine ⟨_, rfl, p, _, dx, _, _, rfl, ob, T.cl_Reader, T.na_Reader_taps, lk_Reader_taps, l, _, rfl, .inl (SqL.of hl), _, _, rfl, rfl, _, rfl, iteD (fun h5 => ?_) (fun h5 => ?_)⟩
      · have h5 := of_decide_eq_true h5
        rw [List.length_map, hlen] at h5
        exact ret_only R (tap_28 g (by omega) (by show 8192 ≤ _; omega)) k
      have h5 := of_decide_eq_false h5
      rw [List.length_map, hlen] at h5
      have e := tap_ok (c := c) g (by omega) (show ¬ Km347.TAPS ≤ r.taps.length by show ¬ 8192 ≤ _; omega)
      refine ⟨_, rfl, p, _, dx, _, _, rfl, ob, T.cl_Reader, T.na_Reader_taps, lk_Reader_taps, .inl ⟨rfl, _, SqL.of hl⟩, _, rfl, _, rfl, _, rfl, (by show 3 ≤ sizeLine; decide), fun t ht => ?_⟩
      have s0 := Same.new (o := HO.tup [nv c, nv m, nv z]) ht
      refine ⟨l, _, _, rfl, rfl, s0 _ _ hl, (by rw [List.length_map, hlen]; exact Nat.lt_of_le_of_lt few (by decide)), ?_⟩
      have nlp : l ≠ p := ne_of hl ob (by intro q; cases q)
      have ntl : t ≠ l := fun q => by rw [q, hl] at ht; cases ht
      have ntp : t ≠ p := fun q => by rw [q, ob] at ht; cases ht
      refine ⟨_, rfl, _, rfl, p, _, dx, _, rfl, (by rw [upd_ne nlp.symm]; exact s0 _ _ ob), T.cl_Reader, T.na_Reader_greatest, (by show 3 < 1000; decide), ?_⟩
      rw [pt_Reader_greatest]
      have f1 : Fr [p, l] H (upd (upd (upd H t (.tup [nv c, nv m, nv z])) l (.lst (as.map V.ref ++ [.ref t]))) p (.ins a.c_Reader dx (fs_Reader (nv r.me) (.ref l) (nv m)))) := fun b o eb nb => by
        have n1 : b ≠ p := fun q => nb (by simp [q])
        have n2 : b ≠ l := fun q => nb (by simp [q])
        rw [upd_ne n1, upd_ne n2]
        exact s0 _ _ eb
      have R1 : RdAt a.c_Reader (upd (upd (upd H t (.tup [nv c, nv m, nv z])) l (.lst (as.map V.ref ++ [.ref t]))) p (.ins a.c_Reader dx (fs_Reader (nv r.me) (.ref l) (nv m)))) p l { r with taps := r.taps ++ [⟨r.me, r.taps.length, c, m, z⟩], last := m } := by
        refine ⟨⟨dx, upd_same⟩, ⟨as ++ [t], ?_, ?_, fun i x ex => ?_⟩, fun i x ex => ?_, ?_⟩
        · rw [upd_ne nlp, upd_same, List.map_append]
          rfl
        · show (as ++ [t]).length = (r.taps ++ [_]).length
          rw [List.length_append, List.length_append, hlen]
          rfl
        · rcases get_snoc ex with ⟨hi, ex⟩ | ⟨hi, ex⟩
          · obtain ⟨q, e1, e2⟩ := hat i x ex
            refine ⟨q, by rw [List.getElem?_append_left (by omega)]; exact e1, ?_⟩
            rw [upd_ne (ne_of e2 ob (by intro z; cases z)), upd_ne (ne_of e2 hl (by intro z; cases z))]
            exact s0 _ _ e2
          · refine ⟨t, by rw [List.getElem?_append_right (by omega), show i - as.length = 0 by omega]; rfl, ?_⟩
            rw [upd_ne ntp, upd_ne ntl, upd_same, ex]
        · rcases get_snoc ex with ⟨hi, ex⟩ | ⟨hi, ex⟩
          · exact ok i x ex
          · subst ex
            exact ⟨rfl, hi.symm⟩
        · show (r.taps ++ [_]).length ≤ 8192
          rw [List.length_append]
          show r.taps.length + 1 ≤ 8192
          omega
      generalize (upd (upd (upd H t (.tup [nv c, nv m, nv z])) l (.lst (as.map V.ref ++ [.ref t]))) p (.ins a.c_Reader dx (fs_Reader (nv r.me) (.ref l) (nv m)))) = H1 at f1 R1 ⊢
      obtain ⟨⟨dx1, ob1⟩, ⟨as1, hl1, hlen1, hat1⟩, ok1, few1⟩ := id R1
      refine ⟨_, rfl, p, dx1, _, rfl, ob1, nm_z16, _, rfl, p, _, dx1, _, _, rfl, ob1, T.cl_Reader, T.na_Reader_taps, lk_Reader_taps, l, _, rfl, .inl (SqL.of hl1), _, _, rfl, rfl, ?_⟩
      refine ⟨p, l, _, r.taps.length, ?_, R1, fun H2 q s2 n2 h2 => ?_⟩
      · have el : ((as1.map V.ref).length : Int) - 1 = (r.taps.length : Int) := by
          rw [List.length_map, hlen1]
          show ((r.taps ++ [_]).length : Int) - 1 = _
          rw [List.length_append]
          show ((r.taps.length + 1 : Nat) : Int) - 1 = _
          omega
        show V.ref p :: ([V.int (((as1.map V.ref).length : Int) - 1)] ++ []) = _
        rw [el]
        rfl
      · refine k H2 q ?_ (f1.trans (Fr.of_same s2)) (f1.free (there2 ob1 hl1) n2) ?_
        · rw [e]
          exact R1.same s2
        · rw [h2, e, again_some (x := ⟨r.me, r.taps.length, c, m, z⟩)]
          show (r.taps ++ [_])[r.taps.length]? = _
          rw [List.getElem?_append_right (Nat.le_refl _), Nat.sub_self]
          rfl
    · have h2 := of_decide_eq_false h2
      exact ret_only R (tap_22 (.inr (.inl (by omega)))) k
end
end Fb
namespace Fb
open PySem PySem.Spec PyProof.Rows L2
def passV (x : Km347.Pass) : List V := [nv x.price, nv x.minutes, nv x.zones]
def passAt (ns : List Nat) (i : Nat) : Km347.Pass := ⟨ns.getD (3 * i) 0, ns.getD (3 * i + 1) 0, ns.getD (3 * i + 2) 0⟩
def passesOf (ns : List Nat) : List Km347.Pass := (List.range (ns.length / 3)).map (passAt ns)
theorem getD_get {l : List Nat} {i : Nat} (h : i < l.length) : l[i]? = some (l.getD i 0) := by
  rw [List.getD_eq_getElem?_getD, List.getElem?_eq_getElem h]
  rfl
section
variable {P : Program} {w : World} {K : PySem.W.Frag} {mg : Str → Option Value} {base : Heap}
def spPassesIn (K : PySem.W.Frag) : Sp := fun vs H Q _ => ∃ (d : Addr) (ns : List Nat), vs = [.ref d] ∧ SqL K H d (ns.map nv) ∧ ns.length % 3 = 0 ∧ ns.length ≤ 31000 ∧
  ∀ (H' : Hp) (p : Addr) (as : List Addr), Same H H' → H p = none → H' p = some (.lst (as.map V.ref)) → TupsAt H' as ((passesOf ns).map passV) → Q (.ref p) H'
theorem ok_z37 {a : Ad} (T : Tx K mg a) : FnOk P w K mg base CX0 1 a.f_z37 a.d_z37 ["numbers"] (spPassesIn K) := by
  refine T.F_z37.ok sc_z37 (fun vs H Q E h => ?_) (fun cdv A outer s H vs Q E hr h => ?_)
  · obtain ⟨d, ns, rfl, _⟩ := h
    rfl
  · obtain ⟨d, ns, rfl, hS, h3, hl, k⟩ := h
    refine ⟨_, (pss_one (ps_ret (pe_lc rfl sc_z37.nd (pi_range3 rfl T.n_range (pa_cons pe_int (pa_cons (pe_callB call_len_seq rfl T.n_len PySem.boot_len (pa_cons (pv 0) pa_nil)) (pa_cons pe_int pa_nil)))) (blkOk_by (own := [("k", 1)]) (show blkC ["numbers", "k"] (defScope s_z37) _ [("k", 1)] = true by decide +kernel)) (fun _ _ _ _ _ => (pg_name (i := 1) sc_z37.nd rfl (Or.inl rfl))) (fun _ _ _ _ _ => pts_nil) (fun _ _ _ _ _ => (pe_tup (pa_cons (pe_ix (ix_listK (K := K) rfl) (pv 0) (pv 1) (fun _ _ => rfl)) (pa_cons (pe_ix (ix_listK (K := K) rfl) (pv 0) (pe_op op_add (pv 1) pe_int) (fun _ _ => rfl)) (pa_cons (pe_ix (ix_listK (K := K) rfl) (pv 0) (pe_op op_add (pv 1) pe_int) (fun _ _ => rfl)) pa_nil)))))))), ?_⟩
    have el : ((ns.map nv).length : Int) = 3 * ((ns.length / 3 : Nat) : Int) := by
      rw [List.length_map]
      omega
    refine ⟨_, rfl, d, _, rfl, .inl hS, 0, _, 3, ns.length / 3, rfl, rgc3 el (by omega), fun D hD => ?_⟩
    have s0 := Same.new (o := HO.lst []) hD
    refine lc_rangeC (fun i H' => ∃ as, H' D = some (.lst (as.map V.ref)) ∧ TupsAt H' as (((List.range i).map (passAt ns)).map passV) ∧ Same H H' ∧ as.length = i) ⟨[], upd_same, TupsAt.nil, s0, rfl⟩ ?_ ?_
    · rintro i H' hi ⟨as, hd, ta, s1, ha⟩
      have S1 := s1.seq hS
      refine ⟨rfl, _, rfl, _, rfl, d, _, _, _, rfl, rfl, S1, at_of (j := 3 * i) (by omega) (get_map (getD_get (by omega))), _, rfl, _, rfl, _, _, rfl, rfl, d, _, _, _, rfl, rfl, S1, at_of (j := 3 * i + 1) (by omega) (get_map (getD_get (by omega))),
        _, rfl, _, rfl, _, _, rfl, rfl, d, _, _, _, rfl, rfl, S1, at_of (j := 3 * i + 2) (by omega) (get_map (getD_get (by omega))), (by show 3 ≤ sizeLine; decide), fun t ht => ?_⟩
      have s2 := Same.new (o := HO.tup (passV (passAt ns i))) ht
      have ntD : t ≠ D := fun q => by rw [q, hd] at ht; cases ht
      refine ⟨as.map V.ref, s2 _ _ hd, (by rw [List.length_map, ha]; exact Nat.lt_of_lt_of_le hi (Nat.le_trans (show ns.length / 3 ≤ 31000 by omega) (by decide))), as ++ [t], ?_, ?_, ?_, ?_⟩
      · rw [upd_same, List.map_append]
        rfl
      · rw [List.range_succ, List.map_append, List.map_append]
        refine TupsAt.snoc (ta.keep fun q xs e => ?_) ?_
        · rw [upd_ne (ne_of e hd (by intro z; cases z))]
          exact s2 _ _ e
        · rw [upd_ne ntD, upd_same]
          rfl
      · intro b o e
        rw [upd_ne (ne_of_none e hD)]
        exact s2 _ _ (s1 _ _ e)
      · rw [List.length_append, ha]
        rfl
    · rintro H' ⟨as, hd, ta, s1, ha⟩
      exact k H' D as s1 hD hd ta
def spIsPrice : Sp := fun vs H Q _ => ∃ n : Nat, vs = [nv n] ∧ Q (.bl (decide (n < 2 ^ 24))) H
theorem ok_z45 {a : Ad} (T : Tx K mg a) : FnOk P w K mg base CX0 1 a.f_z45 a.d_z45 ["number"] (spIsPrice) := by
  refine T.F_z45.ok sc_z45 (fun vs H Q E h => ?_) (fun cdv A outer s H vs Q E hr h => ?_)
  · obtain ⟨n, rfl, _⟩ := h
    rfl
  · obtain ⟨n, rfl, k⟩ := h
    refine ⟨_, (pss_one (ps_ret (pe_cmpR op_lt (pv 0) (pe_gint rfl T.g_PRICE_LIMIT) (nomark _)))), ?_⟩
    refine ⟨_, rfl, _, _, rfl, rfl, ?_⟩
    have e : decide ((n : Int) < 16777216) = decide (n < 2 ^ 24) := decide_eq_decide.mpr (by omega)
    show Q (.bl (decide ((n : Int) < 16777216))) H
    rw [e]
    exact k
def spIsPass : Sp := fun vs H Q _ => ∃ x : Km347.Pass, vs = passV x ∧ Q (.bl (Km347.okPass x)) H
theorem ok_z47 {a : Ad} (T : Tx K mg a) : FnOk P w K mg base CX0 2 a.f_z47 a.d_z47 ["price", "minutes", "zones"] (spIsPass) := by
  have G_z45 := ok_z45 (P := P) (w := w) (base := base) T
  refine T.F_z47.ok sc_z47 (fun vs H Q E h => ?_) (fun cdv A outer s H vs Q E hr h => ?_)
  · obtain ⟨x, rfl, _⟩ := h
    rfl
  · obtain ⟨x, rfl, k⟩ := h
    refine ⟨_, (pss_one (ps_ret (pe_and (pe_call G_z45 (hr.mono (by decide)) rfl T.m_z45 T.F_z45.kp T.b_z45 .nil pass0 (pa_cons (pv 0) pa_nil)) (pe_and (pe_chain op_le op_le pe_int (pv 1) (pe_gint rfl T.g_MOST_MINUTES)) (pe_one (pe_cmpR op_le (pv 2) (pe_gint rfl T.g_ALL_ZONES) (nomark _))))))), ?_⟩
    unfold Km347.okPass at k
    refine ⟨_, rfl, x.price, rfl, _, rfl, iteD (fun h1 => ?_) (fun h1 => ?_)⟩
    · rw [h1, Bool.true_and] at k
      refine ⟨_, rfl, _, _, rfl, rfl, _, rfl, iteD (fun h2 => ?_) (fun h2 => ?_)⟩
      · have h2 := of_decide_eq_true h2
        rw [show decide (1 ≤ x.minutes) = true from decide_eq_true (by omega), Bool.true_and] at k
        refine ⟨_, _, rfl, rfl, _, rfl, iteD (fun h3 => ?_) (fun h3 => ?_)⟩
        · have h3 := of_decide_eq_true h3
          rw [show decide (x.minutes ≤ Km347.DAY) = true from decide_eq_true (by show x.minutes ≤ 1440; omega), Bool.true_and] at k
          refine ⟨_, rfl, _, _, rfl, rfl, ?_⟩
          have e : decide ((x.zones : Int) ≤ 255) = decide (x.zones < 256) := decide_eq_decide.mpr (by omega)
          show Q (.bl (decide ((x.zones : Int) ≤ 255))) H
          rw [e]
          exact k
        · have h3 := of_decide_eq_false h3
          rw [show decide (x.minutes ≤ Km347.DAY) = false from decide_eq_false (by show ¬ x.minutes ≤ 1440; omega), Bool.false_and] at k
          exact k
      · have h2 := of_decide_eq_false h2
        rw [show decide (1 ≤ x.minutes) = false from decide_eq_false (by omega), Bool.false_and] at k
        exact ⟨_, rfl, iteF k⟩
    · rw [h1, Bool.false_and] at k
      exact k
def spIsTariff (K : PySem.W.Frag) : Sp := fun vs H Q _ => ∃ (ls lp : Addr) (ss : List Nat) (as : List Addr) (ps : List Km347.Pass), vs = [.ref ls, .ref lp] ∧ SqL K H ls (ss.map nv) ∧ SqL K H lp (as.map V.ref) ∧ TupsAt H as (ps.map passV) ∧
  ∀ b : Bool, (b = true ↔ (ps.length ≤ 3 ∧ (∀ x ∈ ss, x < 2 ^ 24) ∧ ∀ x ∈ ps, Km347.okPass x = true)) → Q (.bl b) H
theorem ok_z35 {a : Ad} (T : Tx K mg a) : FnOk P w K mg base CX0 3 a.f_z35 a.d_z35 ["single", "passes"] (spIsTariff K) := by
  have G_z47 := ok_z47 (P := P) (w := w) (base := base) T
  have G_z45 := ok_z45 (P := P) (w := w) (base := base) T
  refine T.F_z35.ok sc_z35 (fun vs H Q E h => ?_) (fun cdv A outer s H vs Q E hr h => ?_)
  · obtain ⟨ls, lp, ss, as, ps, rfl, _⟩ := h
    rfl
  · obtain ⟨ls, lp, ss, as, ps, rfl, hs, hp, ta, k⟩ := h
    refine ⟨_, (pss_cons (ps_if (pt_cmpR op_gt (pe_callB call_len_seq rfl T.n_len PySem.boot_len (pa_cons (pv 1) pa_nil)) (pe_gint rfl T.g_MOST_PASSES) (nomark _))
        (pss_one (ps_ret pe_bl))
        pss_nil)
      (pss_cons (ps_for PassesOwn.never rfl (pi_list (pv 0)) (pg_name (i := 2) sc_z35.nd rfl (Or.inl rfl))
        (pss_one (ps_if (pt_not (pt_val (pe_call G_z45 (hr.mono (by decide)) rfl T.m_z45 T.F_z45.kp T.b_z45 .nil pass0 (pa_cons (pv 2) pa_nil))))
          (pss_one (ps_ret pe_bl))
          pss_nil)))
      (pss_cons (ps_for PassesOwn.never rfl (pi_list (pv 1)) (pg_tup rfl (pgs_cons (pg_name (i := 2) sc_z35.nd rfl (Or.inl rfl)) (pgs_cons (pg_name (i := 3) sc_z35.nd rfl (Or.inl rfl)) (pgs_cons (pg_name (i := 4) sc_z35.nd rfl (Or.inl rfl)) pgs_nil))))
        (pss_one (ps_if (pt_not (pt_val (pe_call G_z47 (hr.mono (by decide)) rfl T.m_z47 T.F_z47.kp T.b_z47 .nil pass0 (pa_cons (pv 2) (pa_cons (pv 3) (pa_cons (pv 4) pa_nil))))))
          (pss_one (ps_ret pe_bl))
          pss_nil)))
      (pss_one (ps_ret pe_bl))))), ?_⟩
    have lenp : as.length = ps.length := by
      rw [ta.1, List.length_map]
    refine ⟨_, rfl, lp, _, rfl, .inl hp, _, _, rfl, rfl, _, rfl, iteD (fun h1 => ?_) (fun h1 => ?_)⟩
    · have h1 := of_decide_eq_true h1
      rw [List.length_map, lenp] at h1
      exact k false ⟨fun q => (by cases q), fun q => by omega⟩
    have h1 := of_decide_eq_false h1
    rw [List.length_map, lenp] at h1
    refine ⟨_, rfl, ls, rfl, ⟨_, hs⟩, for_list (K := K) (a := ls) (xs := ss.map nv) (fun i σ H' => ∃ v2 v3 v4 : Option V, σ = [some (.ref ls), some (.ref lp), v2, v3, v4] ∧ H' = H ∧ ∀ x ∈ ss.take i, x < 2 ^ 24)
      ⟨none, none, none, rfl, rfl, by simp⟩ (fun i σ H' _ ⟨_, _, _, _, e, _⟩ => by rw [e]; exact hs) ?_ ?_⟩
    · rintro i y σ H' hi ⟨v2, v3, v4, rfl, rfl, al⟩
      obtain ⟨n, hn, rfl⟩ := map_get hi
      refine ⟨_, rfl, n, rfl, _, rfl, iteD (fun h2 => ?_) (fun h2 => ?_)⟩
      · have h2 : ¬ n < 2 ^ 24 := by
          intro q
          rw [decide_eq_true q] at h2
          cases h2
        exact k false ⟨fun q => (by cases q), fun q => absurd (q.2.1 n (List.mem_of_getElem? hn)) h2⟩
      · have h2 : n < 2 ^ 24 := by
          by_cases q : n < 2 ^ 24
          · exact q
          · rw [decide_eq_false q] at h2
            cases h2
        refine ⟨_, _, _, rfl, rfl, fun x hx => ?_⟩
        rw [take_snoc hn] at hx
        rcases List.mem_append.mp hx with q | q
        · exact al x q
        · rw [List.mem_singleton.mp q]
          exact h2
    · rintro σ H' ⟨v2, v3, v4, rfl, rfl, al⟩
      rw [List.length_map, List.take_length] at al
      refine ⟨_, rfl, lp, rfl, ⟨_, hp⟩, for_list (K := K) (a := lp) (xs := as.map V.ref) (fun i σ H'' => ∃ v2 v3 v4 : Option V, σ = [some (.ref ls), some (.ref lp), v2, v3, v4] ∧ H'' = H' ∧ ∀ x ∈ ps.take i, Km347.okPass x = true)
        ⟨v2, v3, v4, rfl, rfl, by simp⟩ (fun i σ H' _ ⟨_, _, _, _, e, _⟩ => by rw [e]; exact hp) ?_ ?_⟩
      · rintro i y σ H'' hi ⟨v2, v3, v4, rfl, rfl, al2⟩
        obtain ⟨q, hq, rfl⟩ := map_get hi
        have hi2 : i < ps.length := by
          rw [← lenp]
          exact (List.getElem?_eq_some_iff.mp hq).1
        obtain ⟨x, hx⟩ : ∃ x, ps[i]? = some x := ⟨_, List.getElem?_eq_getElem hi2⟩
        obtain ⟨q2, hq2, ht⟩ := ta.2 i (passV x) (get_map hx)
        rw [hq] at hq2
        cases hq2
        refine ⟨q, _, rfl, SqT.of ht, rfl, _, _, rfl, _, _, rfl, _, _, rfl, rfl, ?_⟩
        refine ⟨_, rfl, _, rfl, _, rfl, x, rfl, _, rfl, iteD (fun h2 => ?_) (fun h2 => ?_)⟩
        · have h2 : Km347.okPass x = false := by
            cases e : Km347.okPass x with
            | false => rfl
            | true =>
              rw [e] at h2
              cases h2
          exact k false ⟨fun z => (by cases z), fun z => by rw [z.2.2 x (List.mem_of_getElem? hx)] at h2; cases h2⟩
        · have h2 : Km347.okPass x = true := by
            cases e : Km347.okPass x with
            | true => rfl
            | false =>
              rw [e] at h2
              cases h2
          refine ⟨_, _, _, rfl, rfl, fun y hy => ?_⟩
          rw [take_snoc hx] at hy
          rcases List.mem_append.mp hy with z | z
          · exact al2 y z
          · rw [List.mem_singleton.mp z]
            exact h2
      · rintro σ H'' ⟨v2, v3, v4, rfl, rfl, al2⟩
        rw [List.length_map, lenp, List.take_length] at al2
        exact k true ⟨fun _ => ⟨by omega, al, al2⟩, fun _ => rfl⟩
end
end Fb
namespace Fb
open PySem PySem.Spec PyProof.Rows L2
def ListsAt (H : Hp) (as : List Addr) (rows : List (List V)) : Prop := as.length = rows.length ∧ ∀ (i : Nat) (x : List V), rows[i]? = some x → ∃ q, as[i]? = some q ∧ H q = some (.lst x)
theorem ListsAt.nil {H : Hp} : ListsAt H [] [] := ⟨rfl, fun i x e => by simp at e⟩
theorem ListsAt.snoc {H H' : Hp} {as : List Addr} {rows : List (List V)} {t : Addr} {x : List V} (h : ListsAt H as rows) (k : ∀ q ∈ as, ∀ o, H q = some o → H' q = some o) (ht : H' t = some (.lst x)) : ListsAt H' (as ++ [t]) (rows ++ [x]) := by
  refine ⟨by rw [List.length_append, List.length_append, h.1]; rfl, fun i y e => ?_⟩
  rcases Fb.get_snoc e with ⟨hi, e⟩ | ⟨hi, e⟩
  · obtain ⟨q, e1, e2⟩ := h.2 i y e
    exact ⟨q, by rw [List.getElem?_append_left (by rw [h.1]; exact hi)]; exact e1, k q (List.mem_of_getElem? e1) _ e2⟩
  · subst e
    exact ⟨t, by rw [List.getElem?_append_right (by rw [h.1]; omega), show i - as.length = 0 by rw [h.1]; omega]; rfl, ht⟩
theorem cut_mid (l : List V) (a b : Nat) (h : a + b ≤ l.length) : cutV l (some (a : Int)) (some ((a : Int) + (b : Int))) = (l.drop a).take b := by
  unfold cutV
  have e : ((a : Int) + (b : Int)) = ((a + b : Nat) : Int) := by omega
  rw [e, HT.sIx_nat, HT.sIx_nat, Nat.min_eq_left h, Nat.min_eq_left (show a ≤ l.length by omega)]
  congr 1
  omega
theorem put_take {cs : List Km347Neutral.Call} {i : Nat} {c : Km347Neutral.Call} (h : cs[i]? = some c) : PyFlat.put cs = PyFlat.put (cs.take i) ++ (PyFlat.put1 c ++ PyFlat.put (cs.drop (i + 1))) ∧ PyFlat.put (cs.take (i + 1)) = PyFlat.put (cs.take i) ++ PyFlat.put1 c := by
  induction cs generalizing i with
  | nil => simp at h
  | cons d cs ih =>
    cases i with
    | zero =>
      have e : d = c := Option.some.inj h
      subst e
      refine ⟨rfl, ?_⟩
      show PyFlat.put1 d ++ PyFlat.put [] = PyFlat.put [] ++ PyFlat.put1 d
      unfold PyFlat.put
      rw [List.append_nil, List.nil_append]
    | succ i =>
      obtain ⟨e1, e2⟩ := ih (i := i) h
      constructor
      · show PyFlat.put1 d ++ PyFlat.put cs = (PyFlat.put1 d ++ PyFlat.put (cs.take i)) ++ (PyFlat.put1 c ++ PyFlat.put (cs.drop (i + 1)))
        rw [e1, List.append_assoc]
      · show PyFlat.put1 d ++ PyFlat.put (cs.take (i + 1)) = (PyFlat.put1 d ++ PyFlat.put (cs.take i)) ++ PyFlat.put1 c
        rw [e2, List.append_assoc]
theorem form_pos {c : Km347Neutral.Call} (h : Form c) : 1 ≤ (PyFlat.put1 c).length := by
  cases h <;> simp [PyFlat.put1, PyFlat.putRows, PyFlat.putRow]
theorem put_len : ∀ {cs : List Km347Neutral.Call}, (∀ c ∈ cs, Form c) → cs.length ≤ (PyFlat.put cs).length
  | [], _ => Nat.zero_le _
  | c :: cs, h => by
    have h1 := form_pos (h c (List.mem_cons_self ..))
    have h2 := put_len (cs := cs) fun d hd => h d (List.mem_cons_of_mem _ hd)
    show cs.length + 1 ≤ (PyFlat.put1 c ++ PyFlat.put cs).length
    rw [List.length_append]
    omega
section
variable {P : Program} {w : World} {K : PySem.W.Frag} {mg : Str → Option Value} {base : Heap}
def spLengthAt (K : PySem.W.Frag) : Sp := fun vs H Q _ => ∃ (d : Addr) (l rest : List Int) (n : Nat) (c : Km347Neutral.Call), vs = [.ref d, nv n] ∧ SqL K H d (l.map V.int) ∧ l.drop n = PyFlat.put1 c ++ rest ∧ Form c ∧ Q (nv (PyFlat.put1 c).length) H
theorem drop_at {l xs rest : List Int} {n j : Nat} {v : Int} (h : l.drop n = xs ++ rest) (hj : xs[j]? = some v) : (l.map V.int)[n + j]? = some (.int v) := by
  refine get_map (f := V.int) ?_
  rw [← List.getElem?_drop, h, List.getElem?_append_left (List.getElem?_eq_some_iff.mp hj).1]
  exact hj
theorem drop_at0 {l xs rest : List Int} {n : Nat} {v : Int} (h : l.drop n = v :: xs ++ rest) : atI (l.map V.int) (n : Int) = some (.int v) := atI_nat (drop_at (j := 0) (xs := v :: xs) h rfl)
theorem put_c4 (n : Int) (ss ps : Row) : PyFlat.put1 [[4, n], ss, ps] = [4, n, (ss.length : Int)] ++ (ss ++ ((ps.length : Int) :: ps)) := by
  simp [PyFlat.put1, PyFlat.putRows, PyFlat.putRow]
theorem put_c5 (l : Row) : PyFlat.put1 [[5], l] = 5 :: (l.length : Int) :: l := by
  simp [PyFlat.put1, PyFlat.putRows, PyFlat.putRow]
theorem put_p (r : Row) : PyFlat.put1 [r] = r := by
  simp [PyFlat.put1, PyFlat.putRows]
theorem ok_z34 {a : Ad} (T : Tx K mg a) : FnOk P w K mg base CX0 1 a.f_z34 a.d_z34 ["calls", "place"] (spLengthAt K) := by
  refine T.F_z34.ok sc_z34 (fun vs H Q E h => ?_) (fun cdv A outer s H vs Q E hr h => ?_)
  · obtain ⟨d, l, rest, n, c, rfl, _⟩ := h
    rfl
  · obtain ⟨d, l, rest, n, c, rfl, hS, hd, hf, k⟩ := h
    refine ⟨_, (pss_cons (ps_if (pt_cmpR op_eq (pe_ix ix_list (pv 0) (pv 1) (fun _ _ => rfl)) (pe_gint rfl T.g_NC_START) (nomark _))
        (pss_cons (ps_set (i := 2) sc_z34.nd rfl (Or.inl rfl) (pe_ix ix_list (pv 0) (pe_op op_add (pv 1) pe_int) (fun _ _ => rfl)))
        (pss_cons (ps_set (i := 3) sc_z34.nd rfl (Or.inl rfl) (pe_ix ix_list (pv 0) (pe_op op_add (pe_op op_add (pv 1) pe_int) (pv 2)) (fun _ _ => rfl)))
        (pss_one (ps_ret (pe_op op_add (pe_op op_add pe_int (pv 2)) (pv 3))))))
        pss_nil)
      (pss_cons (ps_if (pt_cmpR op_eq (pe_ix ix_list (pv 0) (pv 1) (fun _ _ => rfl)) (pe_gint rfl T.g_NC_HEARD) (nomark _))
        (pss_one (ps_ret (pe_op op_add pe_int (pe_ix ix_list (pv 0) (pe_op op_add (pv 1) pe_int) (fun _ _ => rfl)))))
        pss_nil)
      (pss_one (ps_ret (pe_kget rfl T.g_LENGTHS T.q_LENGTHS (pe_ix ix_list (pv 0) (pv 1) (fun _ _ => rfl)) (fun _ _ => rfl)))))), ?_⟩
    have alt : (∃ (p m : Int) (r : Row), p ≠ 4 ∧ p ≠ 5 ∧ l.drop n = p :: r ++ rest ∧ valV (kvI [(0, 3), (1, 5), (2, 3), (3, 3), (6, 2), (7, 3), (8, 3)]) (Sum.inl p) = some (V.int m) ∧ Q (.int m) H) ∨ (∃ r, c = [[5], r]) ∨ ∃ m ss ps, c = [[4, m], ss, ps] := by
      cases hf with
      | rStart a b =>
        rw [put_p] at hd k
        exact .inl ⟨0, 3, _, by decide, by decide, hd, rfl, k⟩
      | rTap a b e f =>
        rw [put_p] at hd k
        exact .inl ⟨1, 5, _, by decide, by decide, hd, rfl, k⟩
      | rSeal a b =>
        rw [put_p] at hd k
        exact .inl ⟨2, 3, _, by decide, by decide, hd, rfl, k⟩
      | rAgain a b =>
        rw [put_p] at hd k
        exact .inl ⟨3, 3, _, by decide, by decide, hd, rfl, k⟩
      | cLacks a =>
        rw [put_p] at hd k
        exact .inl ⟨6, 2, _, by decide, by decide, hd, rfl, k⟩
      | cBill a b =>
        rw [put_p] at hd k
        exact .inl ⟨7, 3, _, by decide, by decide, hd, rfl, k⟩
      | cHow a b =>
        rw [put_p] at hd k
        exact .inl ⟨8, 3, _, by decide, by decide, hd, rfl, k⟩
      | cHeard r => exact .inr (.inl ⟨r, rfl⟩)
      | cStart m ss ps => exact .inr (.inr ⟨m, ss, ps, rfl⟩)
    rcases alt with ⟨p, m, r, n4, n5, e, ev, q⟩ | ⟨r, rfl⟩ | ⟨m, ss, ps, rfl⟩
    · exact ⟨_, rfl, _, rfl, d, _, _, _, rfl, rfl, hS, drop_at0 e, rfl, _, rfl, iteD (fun z => absurd (eqI_t z) n4) fun _ => ⟨_, rfl, _, rfl, d, _, _, _, rfl, rfl, hS, drop_at0 e, rfl, _, rfl, iteD (fun z => absurd (eqI_t z) n5) fun _ =>
        ⟨_, rfl, _, rfl, d, _, _, _, rfl, rfl, hS, drop_at0 e, p, _, rfl, ev, q⟩⟩⟩
    · rw [put_c5] at hd k
      refine ⟨_, rfl, _, rfl, d, _, _, _, rfl, rfl, hS, drop_at0 hd, rfl, _, rfl, iteD (fun z => absurd (eqI_t z) (by decide)) fun _ => ⟨_, rfl, _, rfl, d, _, _, _, rfl, rfl, hS, drop_at0 hd, rfl, _, rfl, iteT ?_⟩⟩
      refine ⟨_, rfl, _, rfl, _, _, rfl, rfl, d, _, _, _, rfl, rfl, hS, at_of (j := n + 1) (by omega) (drop_at (j := 1) (v := (r.length : Int)) hd rfl), _, _, rfl, rfl, ?_⟩
      have e : (2 : Int) + (r.length : Int) = (((5 :: (r.length : Int) :: r : List Int).length : Nat) : Int) := by
        rw [List.length_cons, List.length_cons]
        omega
      show Q (.int ((2 : Int) + (r.length : Int))) H
      rw [e]
      exact k
    · rw [put_c4] at hd k
      rw [List.append_assoc] at hd
      have a2 : (l.map V.int)[n + 2]? = some (.int (ss.length : Int)) := drop_at (j := 2) hd rfl
      have a3 : (l.map V.int)[n + (3 + ss.length)]? = some (.int (ps.length : Int)) := by
        rw [← List.append_assoc] at hd
        refine drop_at (j := 3 + ss.length) hd ?_
        rw [List.getElem?_append_right (by simp), show 3 + ss.length - ([4, m, (ss.length : Int)] : List Int).length = ss.length by simp, List.getElem?_append_right (Nat.le_refl _), Nat.sub_self]
        rfl
      refine ⟨_, rfl, _, rfl, d, _, _, _, rfl, rfl, hS, drop_at0 hd, rfl, _, rfl, iteT ?_⟩
      refine ⟨_, rfl, _, rfl, _, _, rfl, rfl, d, _, _, _, rfl, rfl, hS, at_of (j := n + 2) (by omega) a2, ?_⟩
      refine ⟨_, rfl, _, rfl, _, _, rfl, rfl, _, rfl, _, _, rfl, rfl, d, _, _, _, rfl, rfl, hS, at_of (j := n + (3 + ss.length)) (by omega) a3, ?_⟩
      refine ⟨_, rfl, _, _, rfl, rfl, _, rfl, _, _, rfl, rfl, ?_⟩
      have e : (4 : Int) + (ss.length : Int) + (ps.length : Int) = ((([4, m, (ss.length : Int)] ++ (ss ++ ((ps.length : Int) :: ps)) : List Int).length : Nat) : Int) := by
        simp only [List.length_append, List.length_cons, List.length_nil]
        omega
      show Q (.int ((4 : Int) + (ss.length : Int) + (ps.length : Int))) H
      rw [e]
      exact k
def spSplit (K : PySem.W.Frag) : Sp := fun vs H Q _ => ∃ (d : Addr) (cs : List Km347Neutral.Call), vs = [.ref d] ∧ SqL K H d ((PyFlat.put cs).map V.int) ∧ (∀ c ∈ cs, Form c) ∧ (PyFlat.put cs).length ≤ 31000 ∧
  ∀ (H' : Hp) (p : Addr) (as : List Addr), Same H H' → H p = none → p ∉ as → (∀ q ∈ as, H q = none) → H' p = some (.lst (as.map V.ref)) → ListsAt H' as (cs.map fun c => (PyFlat.put1 c).map V.int) → Q (.ref p) H'
theorem ok_z25 {a : Ad} (T : Tx K mg a) : FnOk P w K mg base CX0 2 a.f_z25 a.d_z25 ["calls"] (spSplit K) := by
  have G_z34 := ok_z34 (P := P) (w := w) (base := base) T
  refine T.F_z25.ok sc_z25 (fun vs H Q E h => ?_) (fun cdv A outer s H vs Q E hr h => ?_)
  · obtain ⟨d, cs, rfl, _⟩ := h
    rfl
  · obtain ⟨d, cs, rfl, hS, hf, hl, k⟩ := h
    refine ⟨_, (pss_cons (ps_set (i := 1) sc_z25.nd rfl (Or.inl rfl) (pe_lst pa_nil))
      (pss_cons (ps_set (i := 2) sc_z25.nd rfl (Or.inl rfl) pe_int)
      (pss_cons (ps_while PassesOwn.never (pt_cmpR op_lt (pv 2) (pe_callB call_len_seq rfl T.n_len PySem.boot_len (pa_cons (pv 0) pa_nil)) (nomark _))
        (pss_cons (ps_set (i := 3) sc_z25.nd rfl (Or.inl rfl) (pe_call G_z34 (hr.mono (by decide)) rfl T.m_z34 T.F_z34.kp T.b_z34 .nil pass0 (pa_cons (pv 0) (pa_cons (pv 2) pa_nil))))
        (pss_cons (ps_expr (pe_bm PySem.F.plainAttrs_list PySem.F.slot_list_append PySem.F.type_list_append mt_append (pv 1) (pa_cons (pe_slice sl_list (pv 0) (po_some (pv 2)) (po_some (pe_op op_add (pv 2) (pv 3)))) pa_nil)))
        (pss_one (ps_set (i := 2) sc_z25.nd rfl (Or.inl rfl) (pe_op op_add (pv 2) (pv 3)))))))
      (pss_one (ps_ret (pv 1)))))), ?_⟩
    refine ⟨Nat.zero_le _, fun p hp => ?_⟩
    refine while_by (fun σ H' => ∃ (i : Nat) (v3 : Option V) (as : List Addr), i ≤ cs.length ∧ σ = [some (.ref d), some (.ref p), some (nv (PyFlat.put (cs.take i)).length), v3] ∧ Same H H' ∧ H' p = some (.lst (as.map V.ref)) ∧ p ∉ as ∧ (∀ q ∈ as, H q = none) ∧ ListsAt H' as ((cs.take i).map fun c => (PyFlat.put1 c).map V.int))
      (fun σ _ => match σ with
        | [_, _, some (.int z), _] => (PyFlat.put cs).length - z.toNat
        | _ => 0) ⟨0, none, [], Nat.zero_le _, rfl, Same.new hp, upd_same, by simp, by simp, ListsAt.nil⟩ ?_ ?_
    · rintro σ H' ⟨i, v3, as, hi, rfl, s1, hp', npa, fra, la⟩
      have S1 := s1.seq hS
      refine ⟨_, rfl, _, rfl, d, _, rfl, .inl S1, _, _, rfl, rfl, _, rfl, iteD (fun hc => ?_) (fun hc => ?_)⟩
      · have hc := of_decide_eq_true hc
        rw [List.length_map] at hc
        have hi2 : i < cs.length := by
          by_cases q : i < cs.length
          · exact q
          · rw [show i = cs.length by omega, List.take_length] at hc
            omega
        obtain ⟨c, hc2⟩ : ∃ c, cs[i]? = some c := ⟨_, List.getElem?_eq_getElem hi2⟩
        obtain ⟨e1, e2⟩ := put_take hc2
        have ed : (PyFlat.put cs).drop (PyFlat.put (cs.take i)).length = PyFlat.put1 c ++ PyFlat.put (cs.drop (i + 1)) := by
          rw [e1, List.drop_left]
        refine ⟨_, rfl, _, rfl, d, PyFlat.put cs, _, (PyFlat.put (cs.take i)).length, c, rfl, S1, ed, hf c (List.mem_of_getElem? hc2), ?_⟩
        have hfp := form_pos (hf c (List.mem_of_getElem? hc2))
        have hlen : (PyFlat.put (cs.take i)).length + (PyFlat.put1 c).length ≤ (PyFlat.put cs).length := by
          rw [e1, List.length_append, List.length_append]
          omega
        refine ⟨_, rfl, .inl ⟨rfl, _, SqL.of hp'⟩, _, rfl, _, rfl, _, rfl, _, rfl, _, rfl, _, _, rfl, rfl, _, rfl, d, _, rfl, S1, fun t ht => ?_⟩
        have ntp : t ≠ p := fun q => by rw [q, hp'] at ht; cases ht
        have s2 := Same.new (o := HO.lst (cutV ((PyFlat.put cs).map V.int) (some ((PyFlat.put (cs.take i)).length : Int)) (some (((PyFlat.put (cs.take i)).length : Int) + ((PyFlat.put1 c).length : Int))))) ht
        have ecut : cutV ((PyFlat.put cs).map V.int) (some ((PyFlat.put (cs.take i)).length : Int)) (some (((PyFlat.put (cs.take i)).length : Int) + ((PyFlat.put1 c).length : Int))) = (PyFlat.put1 c).map V.int := by
          rw [cut_mid _ _ _ (by rw [List.length_map]; exact hlen), ← List.map_drop, ed, ← List.map_take, List.take_left]
        refine ⟨p, _, _, rfl, rfl, s2 _ _ hp', (by rw [List.length_map, la.1, List.length_map, List.length_take]; exact Nat.lt_of_le_of_lt (Nat.le_trans (Nat.min_le_left _ _) (Nat.le_trans hi (put_len hf))) (Nat.lt_of_le_of_lt hl (by decide))), ?_⟩
        refine ⟨_, rfl, _, rfl, _, _, rfl, rfl, ⟨i + 1, some (nv (PyFlat.put1 c).length), as ++ [t], hi2, ?_, ?_, ?_, ?_, ?_, ?_⟩, ?_⟩
        · rw [e2, List.length_append]
          show [some (V.ref d), some (V.ref p), some (V.int (((PyFlat.put (cs.take i)).length : Int) + ((PyFlat.put1 c).length : Int))), _] = [some (V.ref d), some (V.ref p), some (V.int (((PyFlat.put (cs.take i)).length + (PyFlat.put1 c).length : Nat) : Int)), _]
          rw [Int.natCast_add]
        · intro b o e
          rw [upd_ne (ne_of_none e hp)]
          exact s2 _ _ (s1 _ _ e)
        · rw [upd_same, List.map_append]
          rfl
        · intro q
          rcases List.mem_append.mp q with z | z
          · exact npa z
          · exact ntp (List.mem_singleton.mp z).symm
        · intro q hq
          rcases List.mem_append.mp hq with z | z
          · exact fra q z
          · rw [List.mem_singleton.mp z]
            exact s1.free ht
        · rw [take_snoc hc2, List.map_append]
          refine la.snoc (fun q hq o e => ?_) ?_
          · rw [upd_ne (fun z => npa (by rw [← z]; exact hq))]
            exact s2 _ _ e
          · rw [upd_ne ntp, upd_same, ecut]
        · show (PyFlat.put cs).length - (((PyFlat.put (cs.take i)).length : Int) + ((PyFlat.put1 c).length : Int)).toNat < (PyFlat.put cs).length - (((PyFlat.put (cs.take i)).length : Nat) : Int).toNat
          omega
      · have hc := of_decide_eq_false hc
        rw [List.length_map] at hc
        have hi2 : i = cs.length := by
          by_cases q : i < cs.length
          · exfalso
            obtain ⟨c, hc2⟩ : ∃ c, cs[i]? = some c := ⟨_, List.getElem?_eq_getElem q⟩
            have hfp := form_pos (hf c (List.mem_of_getElem? hc2))
            have e1 := congrArg List.length (put_take hc2).1
            rw [List.length_append, List.length_append] at e1
            omega
          · omega
        subst hi2
        rw [List.take_length] at la
        exact ⟨_, rfl, k H' p as s1 hp npa fra hp' la⟩
    · rintro σ H' Q1 Q2 hq ⟨v, ev, v2, ev2, d2, ys, ed, hy, i, j, ei, ej, z, ez, q⟩
      exact ⟨v, ev, v2, ev2, d2, ys, ed, hy, i, j, ei, ej, z, ez, hq _ _ q⟩
end
end Fb
set_option maxHeartbeats 1000000
namespace Fb
open Km347
def pl (k : Nat) : Nat := 2 * (31 - k)
def B (k : Nat) : Nat := 2 ^ pl k
theorem B_pos (k : Nat) : 0 < B k := Nat.two_pow_pos _
theorem pl_inj {i j : Nat} (hi : i ≤ 31) (hj : j ≤ 31) (h : pl i = pl j) : i = j := by
  unfold pl at h
  omega
theorem B_step {i j : Nat} (h : i < j) (hj : j ≤ 31) : 4 * B j ≤ B i := by
  unfold B pl
  have e : 2 * (31 - i) = 2 * (31 - j) + 2 + 2 * (j - i - 1) := by omega
  rw [e, Nat.pow_add, Nat.pow_add]
  have := Nat.two_pow_pos (2 * (j - i - 1))
  calc 4 * 2 ^ (2 * (31 - j)) = 2 ^ (2 * (31 - j)) * 2 ^ 2 * 1 := by omega
    _ ≤ 2 ^ (2 * (31 - j)) * 2 ^ 2 * 2 ^ (2 * (j - i - 1)) := Nat.mul_le_mul_left _ this
def om : List Nat → Nat
  | [] => 0
  | k :: l => B k ||| om l
theorem om_bit (p : Nat) : ∀ l : List Nat, (om l).testBit p = l.any fun k => decide (pl k = p)
  | [] => by simp [om]
  | k :: l => by
    rw [om, Nat.testBit_or, om_bit p l, List.any_cons]
    unfold B
    rw [Nat.testBit_two_pow]
theorem om_mem {l : List Nat} {j : Nat} (hl : ∀ k ∈ l, k ≤ 31) (hj : j ≤ 31) : (om l).testBit (pl j) = decide (j ∈ l) := by
  rw [om_bit]
  by_cases h : j ∈ l
  · rw [decide_eq_true h, List.any_eq_true]
    exact ⟨j, h, decide_eq_true rfl⟩
  · rw [decide_eq_false h, List.any_eq_false]
    intro k hk q
    have e := of_decide_eq_true q
    rw [pl_inj (hl k hk) hj e] at hk
    exact h hk
theorem om_append (l m : List Nat) : om (l ++ m) = om l ||| om m := by
  refine Nat.eq_of_testBit_eq fun p => ?_
  rw [Nat.testBit_or, om_bit, om_bit, om_bit, List.any_append]
theorem om_one (k : Nat) : om [k] = B k := by
  rw [om, om, Nat.or_zero]
def without (c p : Nat) : Nat := c ^^^ (c &&& p)
theorem without_bit (c p i : Nat) : (without c p).testBit i = (c.testBit i && !p.testBit i) := by
  unfold without
  rw [Nat.testBit_xor, Nat.testBit_and]
  cases c.testBit i <;> cases p.testBit i <;> rfl
theorem without_om (l : List Nat) (p : Nat) : without (om l) p = om (l.filter fun k => !p.testBit (pl k)) := by
  refine Nat.eq_of_testBit_eq fun i => ?_
  rw [without_bit, om_bit, om_bit]
  induction l with
  | nil => rfl
  | cons k l ih =>
    rw [List.any_cons, List.filter_cons]
    by_cases e : pl k = i
    · subst e
      rw [decide_eq_true rfl, Bool.true_or, Bool.true_and]
      cases hp : p.testBit (pl k) with
      | true =>
        rw [if_neg (by simp), ← ih, hp]
        simp
      | false =>
        rw [if_pos (by rfl), List.any_cons, decide_eq_true rfl, Bool.true_or]
        rfl
    · rw [decide_eq_false e, Bool.false_or, ih]
      by_cases hp : (!p.testBit (pl k)) = true
      · rw [if_pos hp, List.any_cons, decide_eq_false e, Bool.false_or]
      · rw [if_neg hp]
theorem mark_in (m i : Nat) : (m &&& B i = B i) ↔ m.testBit (pl i) = true := by
  constructor
  · intro h
    have e : (m &&& B i).testBit (pl i) = (B i).testBit (pl i) := by rw [h]
    unfold B at e
    rw [Nat.testBit_and, Nat.testBit_two_pow, decide_eq_true rfl, Bool.and_true] at e
    exact e
  · intro h
    refine Nat.eq_of_testBit_eq fun p => ?_
    unfold B
    rw [Nat.testBit_and, Nat.testBit_two_pow]
    by_cases e : pl i = p
    · rw [← e, h]
      rfl
    · rw [decide_eq_false e, Bool.and_false]
def sumB {α : Type} : List (Nat × α) → Nat
  | [] => 0
  | z :: l => B z.1 + sumB l
def enc : List (Nat × Nat) → Nat
  | [] => 0
  | z :: l => z.2 * B z.1 + enc l
theorem enc_append : ∀ l m : List (Nat × Nat), enc (l ++ m) = enc l + enc m
  | [], m => by simp [enc]
  | z :: l, m => by
    rw [List.cons_append, enc, enc, enc_append l m]
    omega
theorem enc_same {α : Type} (k : Nat) : ∀ l : List (Nat × α), enc (l.map fun z => (z.1, k)) = k * sumB l
  | [] => by simp [enc, sumB]
  | z :: l => by
    rw [List.map_cons, enc, sumB, enc_same k l, Nat.mul_add]
theorem sumB_split {α : Type} (p : Nat × α → Bool) : ∀ l : List (Nat × α), sumB l = sumB (l.filter p) + sumB (l.filter fun z => !p z)
  | [] => by simp [sumB]
  | z :: l => by
    have ih := sumB_split p l
    rw [List.filter_cons, List.filter_cons]
    cases hp : p z with
    | true =>
      simp only [if_true, Bool.not_true, Bool.false_eq_true, if_false, sumB]
      omega
    | false =>
      simp only [Bool.false_eq_true, if_false, Bool.not_false, if_true, sumB]
      omega
def Up {α : Type} (i : Nat) (l : List (Nat × α)) : Prop := l.Pairwise (fun a b => a.1 < b.1) ∧ ∀ z ∈ l, i ≤ z.1 ∧ z.1 ≤ 31
theorem Up.tail {α : Type} {i : Nat} {z : Nat × α} {l : List (Nat × α)} (h : Up i (z :: l)) : Up (z.1 + 1) l := by
  obtain ⟨h1, h2⟩ := h
  rw [List.pairwise_cons] at h1
  exact ⟨h1.2, fun y hy => ⟨h1.1 y hy, (h2 y (List.mem_cons_of_mem _ hy)).2⟩⟩
theorem Up.filter {α : Type} {i : Nat} {l : List (Nat × α)} (h : Up i l) (p : Nat × α → Bool) : Up i (l.filter p) :=
  ⟨List.Pairwise.sublist List.filter_sublist h.1, fun z hz => h.2 z (List.mem_filter.mp hz).1⟩
theorem sumB_lt {α : Type} : ∀ {l : List (Nat × α)} {i : Nat}, Up (i + 1) l → 3 * sumB l < B i
  | [], i, _ => by
    rw [sumB]
    exact B_pos i
  | z :: l, i, h => by
    have ih := sumB_lt (i := z.1) h.tail
    have hz := h.2 z (List.mem_cons_self ..)
    have := B_step (i := i) (j := z.1) (by omega) hz.2
    rw [sumB]
    omega
theorem om_sum {α : Type} : ∀ {l : List (Nat × α)} {i : Nat}, Up i l → om (l.map (·.1)) = sumB l
  | [], i, _ => rfl
  | z :: l, i, h => by
    have ih := om_sum h.tail
    have hlt := sumB_lt (i := z.1) h.tail
    rw [List.map_cons, om, sumB, ih]
    unfold B at hlt ⊢
    have e := Nat.two_pow_add_eq_or_of_lt (i := pl z.1) (b := sumB l) (by omega) 1
    rw [Nat.mul_one] at e
    exact e.symm
theorem B4 (k : Nat) : B k = 4 ^ (31 - k) := by
  unfold B pl
  rw [Nat.pow_mul]
theorem dig_add {x k a b : Nat} (h0 : x / 4 ^ a % 4 = 0) (hk : k ≤ 3) : (k * 4 ^ a + x) / 4 ^ b % 4 = if b = a then k else x / 4 ^ b % 4 := by
  have pa : 0 < 4 ^ a := Nat.pow_pos (by decide)
  by_cases e : b = a
  · subst e
    rw [if_pos rfl, Nat.add_comm, Nat.add_mul_div_right _ _ pa]
    omega
  · rw [if_neg e]
    by_cases hlt : a < b
    · have hb : 4 ^ b = 4 ^ (a + 1) * 4 ^ (b - (a + 1)) := by
        rw [← Nat.pow_add]
        congr 1
        omega
      rw [hb, ← Nat.div_div_eq_div_mul, ← Nat.div_div_eq_div_mul]
      have e2 : (k * 4 ^ a + x) / 4 ^ (a + 1) = x / 4 ^ (a + 1) := by
        rw [Nat.pow_succ, ← Nat.div_div_eq_div_mul, ← Nat.div_div_eq_div_mul, Nat.add_comm, Nat.add_mul_div_right _ _ pa]
        omega
      rw [e2]
    · have hb : 4 ^ a = 4 ^ b * (4 * 4 ^ (a - b - 1)) := by
        rw [← Nat.pow_succ', ← Nat.pow_add]
        congr 1
        omega
      have pb : 0 < 4 ^ b := Nat.pow_pos (by decide)
      have e2 : k * 4 ^ a + x = x + (k * (4 * 4 ^ (a - b - 1))) * 4 ^ b := by
        rw [hb, Nat.add_comm, Nat.mul_comm (4 ^ b), Nat.mul_assoc k]
      rw [e2, Nat.add_mul_div_right _ _ pb, show k * (4 * 4 ^ (a - b - 1)) = 4 * (k * 4 ^ (a - b - 1)) by rw [← Nat.mul_assoc, ← Nat.mul_assoc, Nat.mul_comm k 4], Nat.add_mul_mod_self_left]
def digOf (D : List (Nat × Nat)) (i : Nat) : Nat := ((D.find? fun x => x.1 == i).map Prod.snd).getD 0
theorem dig_enc : ∀ {D : List (Nat × Nat)} {i : Nat}, (D.map (·.1)).Nodup → (∀ z ∈ D, z.1 ≤ 31 ∧ z.2 ≤ 3) → i ≤ 31 → enc D / B i % 4 = digOf D i
  | [], i, _, _, _ => by
    simp [enc, digOf]
  | z :: D, i, hn, hd, hi => by
    rw [List.map_cons, List.nodup_cons] at hn
    have ih := fun j (hj : j ≤ 31) => dig_enc (D := D) (i := j) hn.2 (fun y hy => hd y (List.mem_cons_of_mem _ hy)) hj
    obtain ⟨hz1, hz2⟩ := hd z (List.mem_cons_self ..)
    have h0 : enc D / B z.1 % 4 = 0 := by
      rw [ih z.1 hz1]
      unfold digOf
      have : D.find? (fun x => x.1 == z.1) = none := by
        rw [List.find?_eq_none]
        intro y hy q
        exact hn.1 (List.mem_map.mpr ⟨y, hy, by simpa using q⟩)
      rw [this]
      rfl
    rw [enc, B4, B4]
    rw [B4] at h0
    rw [dig_add h0 hz2]
    unfold digOf
    rw [List.find?_cons]
    by_cases e : z.1 = i
    · rw [e, if_pos rfl, beq_self_eq_true]
      rfl
    · rw [if_neg (by omega), show (z.1 == i) = false from beq_eq_false_iff_ne.mpr e]
      have := ih i hi
      rw [B4] at this
      exact this
end Fb
set_option maxHeartbeats 1000000
namespace Fb
open Km347
def le2 (a b : Nat × Nat) : Prop := a.1 < b.1 ∨ (a.1 = b.1 ∧ a.2 ≤ b.2)
theorem le2_refl (a : Nat × Nat) : le2 a a := .inr ⟨rfl, Nat.le_refl _⟩
theorem le2_trans {a b c : Nat × Nat} (h1 : le2 a b) (h2 : le2 b c) : le2 a c := by
  unfold le2 at *
  omega
theorem le2_anti {a b : Nat × Nat} (h1 : le2 a b) (h2 : le2 b a) : a = b := by
  unfold le2 at *
  exact Prod.ext (by omega) (by omega)
def pls (a b : Nat × Nat) : Nat × Nat := (a.1 + b.1, a.2 + b.2)
theorem pls_l {a b : Nat × Nat} (c : Nat × Nat) (h : le2 a b) : le2 (pls a c) (pls b c) := by
  unfold le2 pls at *
  dsimp only
  omega
theorem pls_r {a b : Nat × Nat} (c : Nat × Nat) (h : le2 a b) : le2 (pls c a) (pls c b) := by
  unfold le2 pls at *
  dsimp only
  omega
theorem pls_assoc (a b c : Nat × Nat) : pls (pls a b) c = pls a (pls b c) := by
  unfold pls
  exact Prod.ext (by dsimp only; omega) (by dsimp only; omega)
def vw (w : Way) : Nat × Nat := (w.1, enc w.2)
theorem first_mem : ∀ (l : List Way) (a : Way), first l a ∈ a :: l
  | [], a => List.mem_cons_self ..
  | b :: l, a => by
    rw [first]
    have h := first_mem l (if b.1 < a.1 then b else a)
    rcases List.mem_cons.mp h with e | e
    · rw [e]
      by_cases q : b.1 < a.1
      · rw [if_pos q]
        simp
      · rw [if_neg q]
        simp
    · simp [e]
theorem first_le : ∀ (l : List Way) (a : Way), (a :: l).Pairwise (fun x y => enc x.2 < enc y.2) → ∀ x ∈ a :: l, le2 (vw (first l a)) (vw x)
  | [], a, _, x, hx => by
    rw [List.mem_singleton.mp hx]
    exact le2_refl _
  | b :: l, a, hp, x, hx => by
    rw [List.pairwise_cons, List.pairwise_cons] at hp
    obtain ⟨h1, h2, h3⟩ := hp
    rw [first]
    by_cases q : b.1 < a.1
    · rw [if_pos q]
      have ih := first_le l b (List.pairwise_cons.mpr ⟨h2, h3⟩)
      rcases List.mem_cons.mp hx with e | e
      · rw [e]
        exact le2_trans (ih b (List.mem_cons_self ..)) (.inl q)
      · exact ih x e
    · rw [if_neg q]
      have ih := first_le l a (List.pairwise_cons.mpr ⟨fun y hy => h1 y (List.mem_cons_of_mem _ hy), h3⟩)
      rcases List.mem_cons.mp hx with e | e
      · rw [e]
        exact ih a (List.mem_cons_self ..)
      · rcases List.mem_cons.mp e with e | e
        · rw [e]
          refine le2_trans (ih a (List.mem_cons_self ..)) ?_
          have := h1 b (List.mem_cons_self ..)
          unfold le2 vw
          dsimp only
          omega
        · exact ih x (List.mem_cons_of_mem _ e)
theorem mem_zipR {α : Type} {l : List α} {x : Nat × α} : x ∈ (List.range l.length).zip l ↔ l[x.1]? = some x.2 := by
  rw [List.mem_iff_getElem?]
  constructor
  · rintro ⟨k, hk⟩
    obtain ⟨h1, h2⟩ := List.getElem?_zip_eq_some.mp hk
    have e : k = x.1 := by
      rw [List.getElem?_eq_some_iff] at h1
      obtain ⟨_, h1⟩ := h1
      rw [List.getElem_range] at h1
      exact h1
    rw [← e]
    exact h2
  · intro h
    refine ⟨x.1, List.getElem?_zip_eq_some.mpr ⟨?_, h⟩⟩
    have hl := (List.getElem?_eq_some_iff.mp h).1
    rw [List.getElem?_eq_some_iff]
    exact ⟨by rw [List.length_range]; exact hl, List.getElem_range _⟩
theorem zipR_lt {α : Type} (l : List α) : ((List.range l.length).zip l).Pairwise (fun a b => a.1 < b.1) := by
  have h : (((List.range l.length).zip l).map (·.1)).Pairwise (· < ·) := by
    rw [List.map_fst_zip (by simp)]
    exact List.pairwise_lt_range
  exact List.pairwise_map.mp h
def wa (t : Tariff) (n i : Nat) (r : Ride) (l : List (Nat × Ride)) : Way := (t.alone r + (way t n l).1, (i, 0) :: (way t n l).2)
def wp (t : Tariff) (n i : Nat) (r : Ride) (l : List (Nat × Ride)) (x : Nat × Pass) : Way :=
  (x.2.price + (way t n (l.filter fun z => !(x.2.covers r.minute z.2))).1, (i, x.1 + 1) :: ((l.filter fun z => x.2.covers r.minute z.2).map fun z => (z.1, x.1 + 1)) ++ (way t n (l.filter fun z => !(x.2.covers r.minute z.2))).2)
def wps (t : Tariff) (n i : Nat) (r : Ride) (l : List (Nat × Ride)) : List Way := ((List.range t.passes.length).zip t.passes).filterMap fun x => if x.2.covers r.minute r = true then some (wp t n i r l x) else none
theorem way_cons (t : Tariff) (n i : Nat) (r : Ride) (l : List (Nat × Ride)) : way t (n + 1) ((i, r) :: l) = first (wps t n i r l) (wa t n i r l) := by
  rw [way]
  rfl
theorem way_nil (t : Tariff) (n : Nat) : way t n [] = (0, []) := by
  cases n <;> simp [way]
theorem mem_wps {t : Tariff} {n i : Nat} {r : Ride} {l : List (Nat × Ride)} {w : Way} : w ∈ wps t n i r l ↔ ∃ k p, t.passes[k]? = some p ∧ p.covers r.minute r = true ∧ w = wp t n i r l (k, p) := by
  unfold wps
  rw [List.mem_filterMap]
  constructor
  · rintro ⟨x, hx, h⟩
    by_cases c : x.2.covers r.minute r = true
    · rw [if_pos c] at h
      exact ⟨x.1, x.2, mem_zipR.mp hx, c, (Option.some.inj h).symm⟩
    · rw [if_neg c] at h
      cases h
  · rintro ⟨k, p, hk, c, rfl⟩
    exact ⟨(k, p), mem_zipR.mpr hk, by rw [if_pos c]⟩
theorem way_fuel (t : Tariff) : ∀ (n m : Nat) (l : List (Nat × Ride)), l.length ≤ n → l.length ≤ m → way t n l = way t m l
  | n, m, [], _, _ => by rw [way_nil, way_nil]
  | 0, m, _ :: _, h, _ => by simp at h
  | n + 1, 0, _ :: _, _, h => by simp at h
  | n + 1, m + 1, (i, r) :: l, h1, h2 => by
    have h1 : l.length ≤ n := by simpa using h1
    have h2 : l.length ≤ m := by simpa using h2
    have ea : wa t n i r l = wa t m i r l := by
      unfold wa
      rw [way_fuel t n m l h1 h2]
    have ep : ∀ x, wp t n i r l x = wp t m i r l x := fun x => by
      unfold wp
      have hf := List.length_filter_le (fun z : Nat × Ride => !(x.2.covers r.minute z.2)) l
      rw [way_fuel t n m _ (Nat.le_trans hf h1) (Nat.le_trans hf h2)]
    have es : wps t n i r l = wps t m i r l := by
      unfold wps
      congr 1
      funext x
      rw [ep x]
    rw [way_cons, way_cons, ea, es]
theorem enc_wa (t : Tariff) (n i : Nat) (r : Ride) (l : List (Nat × Ride)) : vw (wa t n i r l) = pls (t.alone r, 0) (vw (way t n l)) := by
  unfold vw wa pls
  rw [enc]
  simp
theorem enc_wp (t : Tariff) (n i : Nat) (r : Ride) (l : List (Nat × Ride)) (x : Nat × Pass) : vw (wp t n i r l x) = pls (x.2.price, (x.1 + 1) * (B i + sumB (l.filter fun z => x.2.covers r.minute z.2))) (vw (way t n (l.filter fun z => !(x.2.covers r.minute z.2)))) := by
  unfold vw wp pls
  rw [List.cons_append, enc, enc_append, enc_same, Nat.mul_add]
  refine Prod.ext rfl ?_
  dsimp only
  omega
theorem enc_le (t : Tariff) (hp : t.passes.length ≤ 3) : ∀ (n : Nat) (l : List (Nat × Ride)), enc (way t n l).2 ≤ 3 * sumB l
  | 0, l => by
    rw [way]
    exact Nat.zero_le _
  | n + 1, [] => by
    rw [way_nil]
    exact Nat.zero_le _
  | n + 1, (i, r) :: l => by
    rw [way_cons, sumB]
    rcases List.mem_cons.mp (first_mem (wps t n i r l) (wa t n i r l)) with e | e
    · rw [e]
      have h1 := congrArg Prod.snd (enc_wa t n i r l)
      have h2 := enc_le t hp n l
      unfold vw pls at h1
      dsimp only at h1 ⊢
      omega
    · obtain ⟨k, p, hk, _, e⟩ := mem_wps.mp e
      rw [e]
      have hk3 : k < t.passes.length := (List.getElem?_eq_some_iff.mp hk).1
      have h1 := congrArg Prod.snd (enc_wp t n i r l (k, p))
      have h2 := enc_le t hp n (l.filter fun z => !(p.covers r.minute z.2))
      have h3 := sumB_split (fun z : Nat × Ride => p.covers r.minute z.2) l
      unfold vw pls at h1
      dsimp only at h1 ⊢
      have h4 : (k + 1) * (B i + sumB (l.filter fun z => p.covers r.minute z.2)) ≤ 3 * (B i + sumB (l.filter fun z => p.covers r.minute z.2)) := Nat.mul_le_mul_right _ (by omega)
      omega
theorem first_way {t : Tariff} (hp : t.passes.length ≤ 3) {n i : Nat} {r : Ride} {l : List (Nat × Ride)} (hl : Up (i + 1) l) : (wa t n i r l :: wps t n i r l).Pairwise (fun x y => enc x.2 < enc y.2) := by
  have hB := sumB_lt hl
  have lo : ∀ x : Nat × Pass, (x.1 + 1) * B i ≤ enc (wp t n i r l x).2 := fun x => by
    have h1 := congrArg Prod.snd (enc_wp t n i r l x)
    unfold vw pls at h1
    dsimp only at h1
    rw [h1, Nat.mul_add]
    omega
  have hi : ∀ x : Nat × Pass, x.1 + 1 ≤ 3 → enc (wp t n i r l x).2 < (x.1 + 2) * B i := fun x hx => by
    have h1 := congrArg Prod.snd (enc_wp t n i r l x)
    have h2 := enc_le t hp n (l.filter fun z => !(x.2.covers r.minute z.2))
    have h3 := sumB_split (fun z : Nat × Ride => x.2.covers r.minute z.2) l
    unfold vw pls at h1
    dsimp only at h1
    have h4 : (x.1 + 1) * sumB (l.filter fun z => x.2.covers r.minute z.2) ≤ 3 * sumB (l.filter fun z => x.2.covers r.minute z.2) := Nat.mul_le_mul_right _ hx
    rw [h1, Nat.mul_add, show (x.1 + 2) * B i = (x.1 + 1) * B i + B i by rw [show x.1 + 2 = (x.1 + 1) + 1 by omega, Nat.add_mul (x.1 + 1) 1, Nat.one_mul]]
    omega
  rw [List.pairwise_cons]
  constructor
  · intro w hw
    obtain ⟨k, p, hk, _, rfl⟩ := mem_wps.mp hw
    have h1 := congrArg Prod.snd (enc_wa t n i r l)
    have h2 := enc_le t hp n l
    have h3 := lo (k, p)
    unfold vw pls at h1
    dsimp only at h1 h3
    have h4 : 1 * B i ≤ (k + 1) * B i := Nat.mul_le_mul_right _ (by omega)
    omega
  · unfold wps
    rw [List.pairwise_filterMap]
    refine List.Pairwise.imp_of_mem ?_ (zipR_lt t.passes)
    intro a b ha hb hab x hx y hy
    by_cases ca : a.2.covers r.minute r = true
    · by_cases cb : b.2.covers r.minute r = true
      · rw [if_pos ca] at hx
        rw [if_pos cb] at hy
        cases hx
        cases hy
        have hb3 : b.1 < t.passes.length := (List.getElem?_eq_some_iff.mp (mem_zipR.mp hb)).1
        have h1 := hi a (by omega)
        have h2 := lo b
        have h3 : (a.1 + 2) * B i ≤ (b.1 + 1) * B i := Nat.mul_le_mul_right _ (by omega)
        omega
      · rw [if_neg cb] at hy
        cases hy
    · rw [if_neg ca] at hx
      cases hx
def ov (t : Tariff) (l : List (Nat × Ride)) : Nat × Nat := vw (way t l.length l)
theorem ov_fuel {t : Tariff} {n : Nat} {l : List (Nat × Ride)} (h : l.length ≤ n) : vw (way t n l) = ov t l := by
  unfold ov
  rw [way_fuel t n l.length l h (Nat.le_refl _)]
theorem ov_rec {t : Tariff} (hp : t.passes.length ≤ 3) {i : Nat} {r : Ride} {l : List (Nat × Ride)} (hl : Up (i + 1) l) :
    le2 (ov t ((i, r) :: l)) (pls (t.alone r, 0) (ov t l)) ∧
    (∀ k p, t.passes[k]? = some p → p.covers r.minute r = true → le2 (ov t ((i, r) :: l)) (pls (p.price, (k + 1) * (B i + sumB (l.filter fun z => p.covers r.minute z.2))) (ov t (l.filter fun z => !(p.covers r.minute z.2))))) ∧
    (ov t ((i, r) :: l) = pls (t.alone r, 0) (ov t l) ∨ ∃ k p, t.passes[k]? = some p ∧ p.covers r.minute r = true ∧ ov t ((i, r) :: l) = pls (p.price, (k + 1) * (B i + sumB (l.filter fun z => p.covers r.minute z.2))) (ov t (l.filter fun z => !(p.covers r.minute z.2)))) := by
  have e : ov t ((i, r) :: l) = vw (first (wps t l.length i r l) (wa t l.length i r l)) := by
    unfold ov
    rw [List.length_cons, way_cons]
  have F := first_le _ _ (first_way (t := t) hp (n := l.length) (r := r) hl)
  have va : vw (wa t l.length i r l) = pls (t.alone r, 0) (ov t l) := enc_wa t l.length i r l
  have vp : ∀ k p, vw (wp t l.length i r l (k, p)) = pls (p.price, (k + 1) * (B i + sumB (l.filter fun z => p.covers r.minute z.2))) (ov t (l.filter fun z => !(p.covers r.minute z.2))) := fun k p => by
    rw [enc_wp, ov_fuel (List.length_filter_le _ _)]
  rw [e]
  refine ⟨?_, fun k p hk c => ?_, ?_⟩
  · rw [← va]
    exact F _ (List.mem_cons_self ..)
  · rw [← vp]
    exact F _ (List.mem_cons_of_mem _ (mem_wps.mpr ⟨k, p, hk, c, rfl⟩))
  · rcases List.mem_cons.mp (first_mem (wps t l.length i r l) (wa t l.length i r l)) with q | q
    · rw [q]
      exact .inl va
    · obtain ⟨k, p, hk, c, q⟩ := mem_wps.mp q
      rw [q]
      exact .inr ⟨k, p, hk, c, vp k p⟩
end Fb
set_option maxHeartbeats 1000000
namespace Fb
open Km347
def en : Nat → List Ride → List (Nat × Ride)
  | _, [] => []
  | i, r :: l => (i, r) :: en (i + 1) l
theorem en_zip : ∀ (l : List Ride) (i : Nat), en i l = (List.range' i l.length).zip l
  | [], i => by simp [en]
  | r :: l, i => by
    rw [en, en_zip l (i + 1), List.length_cons, List.range'_succ, List.zip_cons_cons]
theorem en_zero (l : List Ride) : en 0 l = (List.range l.length).zip l := by
  rw [en_zip, List.range_eq_range']
theorem mem_en : ∀ {l : List Ride} {i : Nat} {z : Nat × Ride}, z ∈ en i l ↔ ∃ k, z.1 = i + k ∧ l[k]? = some z.2
  | [], i, z => by simp [en]
  | r :: l, i, z => by
    rw [en, List.mem_cons, mem_en (l := l)]
    constructor
    · rintro (e | ⟨k, h1, h2⟩)
      · rw [e]
        exact ⟨0, rfl, rfl⟩
      · exact ⟨k + 1, by omega, h2⟩
    · rintro ⟨k, h1, h2⟩
      cases k with
      | zero => exact .inl (Prod.ext h1 (Option.some.inj h2).symm)
      | succ k => exact .inr ⟨k, by omega, h2⟩
theorem en_up : ∀ {l : List Ride} {i : Nat}, i + l.length ≤ 32 → Up i (en i l)
  | [], i, _ => ⟨.nil, fun z hz => by simp [en] at hz⟩
  | r :: l, i, h => by
    rw [List.length_cons] at h
    obtain ⟨h1, h2⟩ := en_up (l := l) (i := i + 1) (by omega)
    rw [en]
    refine ⟨List.pairwise_cons.mpr ⟨fun z hz => ?_, h1⟩, fun z hz => ?_⟩
    · have := (h2 z hz).1
      show i < z.1
      omega
    · rcases List.mem_cons.mp hz with e | e
      · rw [e]
        exact ⟨Nat.le_refl _, by show i ≤ 31; omega⟩
      · have := h2 z e
        omega
def U (rs : List Ride) (i m : Nat) : List (Nat × Ride) := (en i (rs.drop i)).filter fun z => !m.testBit (pl z.1)
theorem U_end {rs : List Ride} {i m : Nat} (h : rs.length ≤ i) : U rs i m = [] := by
  unfold U
  rw [List.drop_eq_nil_of_le h]
  rfl
theorem drop_cons {rs : List Ride} {i : Nat} {r : Ride} (h : rs[i]? = some r) : rs.drop i = r :: rs.drop (i + 1) := by
  obtain ⟨h1, h2⟩ := List.getElem?_eq_some_iff.mp h
  rw [List.drop_eq_getElem_cons h1, h2]
theorem U_paid {rs : List Ride} {i m : Nat} {r : Ride} (h : rs[i]? = some r) (hm : m.testBit (pl i) = true) : U rs i m = U rs (i + 1) m := by
  unfold U
  rw [drop_cons h, en, List.filter_cons, if_neg (by rw [hm]; simp)]
theorem U_un {rs : List Ride} {i m : Nat} {r : Ride} (h : rs[i]? = some r) (hm : m.testBit (pl i) = false) : U rs i m = (i, r) :: U rs (i + 1) m := by
  unfold U
  rw [drop_cons h, en, List.filter_cons, if_pos (by rw [hm]; rfl)]
theorem U_up {rs : List Ride} {i m : Nat} (hn : rs.length ≤ 32) (hi : i ≤ 32) : Up i (U rs i m) := by
  unfold U
  refine (en_up ?_).filter _
  rw [List.length_drop]
  omega
def cvL (rs : List Ride) (i : Nat) (p : Pass) (b : Nat) : List Nat := ((en i (rs.drop i)).filter fun z => p.covers b z.2).map (·.1)
theorem mem_cvL {rs : List Ride} {i j b : Nat} {p : Pass} : j ∈ cvL rs i p b ↔ i ≤ j ∧ ∃ r, rs[j]? = some r ∧ p.covers b r = true := by
  unfold cvL
  rw [List.mem_map]
  constructor
  · rintro ⟨z, hz, rfl⟩
    obtain ⟨h1, h2⟩ := List.mem_filter.mp hz
    obtain ⟨k, e1, e2⟩ := mem_en.mp h1
    rw [List.getElem?_drop] at e2
    exact ⟨by omega, z.2, by rw [e1]; exact e2, h2⟩
  · rintro ⟨hij, r, h1, h2⟩
    refine ⟨(j, r), List.mem_filter.mpr ⟨mem_en.mpr ⟨j - i, by show j = i + (j - i); omega, ?_⟩, h2⟩, rfl⟩
    rw [List.getElem?_drop, show i + (j - i) = j by omega]
    exact h1
theorem cvL_le {rs : List Ride} {i b : Nat} {p : Pass} (hn : rs.length ≤ 32) : ∀ k ∈ cvL rs i p b, k ≤ 31 := fun k hk => by
  obtain ⟨_, r, h, _⟩ := mem_cvL.mp hk
  have := (List.getElem?_eq_some_iff.mp h).1
  omega
theorem U_alone {rs : List Ride} {i m : Nat} (hn : rs.length ≤ 32) (hi : i < rs.length) : U rs (i + 1) (m ||| B i) = U rs (i + 1) m := by
  unfold U
  refine List.filter_congr fun z hz => ?_
  obtain ⟨k, e1, e2⟩ := mem_en.mp hz
  rw [List.getElem?_drop] at e2
  have hl := (List.getElem?_eq_some_iff.mp e2).1
  have ne : ¬ pl i = pl z.1 := fun q => by
    have := pl_inj (by omega) (by omega) q
    omega
  unfold B
  rw [Nat.testBit_or, Nat.testBit_two_pow, decide_eq_false ne, Bool.or_false]
theorem U_pass {rs : List Ride} {i m b : Nat} {p : Pass} (hn : rs.length ≤ 32) : U rs (i + 1) (m ||| om (cvL rs i p b)) = (U rs (i + 1) m).filter fun z => !(p.covers b z.2) := by
  unfold U
  rw [List.filter_filter]
  refine List.filter_congr fun z hz => ?_
  obtain ⟨k, e1, e2⟩ := mem_en.mp hz
  rw [List.getElem?_drop] at e2
  have hl := (List.getElem?_eq_some_iff.mp e2).1
  rw [Nat.testBit_or, om_mem (cvL_le hn) (by omega)]
  have e3 : rs[z.1]? = some z.2 := by
    rw [e1]
    exact e2
  have e : decide (z.1 ∈ cvL rs i p b) = p.covers b z.2 := by
    by_cases c : p.covers b z.2 = true
    · rw [c]
      exact decide_eq_true (mem_cvL.mpr ⟨by omega, z.2, e3, c⟩)
    · rw [Bool.not_eq_true] at c
      rw [c]
      refine decide_eq_false fun q => ?_
      obtain ⟨_, r, h1, h2⟩ := mem_cvL.mp q
      rw [e3] at h1
      cases h1
      rw [c] at h2
      cases h2
  rw [e]
  cases m.testBit (pl z.1) <;> cases p.covers b z.2 <;> rfl
theorem fresh_eq {rs : List Ride} {i m : Nat} {p : Pass} {r : Ride} {b : Nat} (hn : rs.length ≤ 32) (h : rs[i]? = some r) (hm : m.testBit (pl i) = false) (hc : p.covers b r = true) :
    without (om (cvL rs i p b)) m = B i + sumB ((U rs (i + 1) m).filter fun z => p.covers b z.2) := by
  have hi := (List.getElem?_eq_some_iff.mp h).1
  have e : (cvL rs i p b).filter (fun k => !m.testBit (pl k)) = ((i, r) :: (U rs (i + 1) m).filter fun z => p.covers b z.2).map (·.1) := by
    unfold cvL U
    rw [drop_cons h, en, List.filter_cons, if_pos hc, List.map_cons, List.filter_cons, if_pos (by show (!m.testBit (pl i)) = true; rw [hm]; rfl), List.map_cons]
    rw [List.filter_map, List.filter_filter, List.filter_filter]
    congr 2
    refine List.filter_congr fun z _ => ?_
    exact Bool.and_comm _ _
  rw [without_om, e]
  have up : Up i ((i, r) :: (U rs (i + 1) m).filter fun z => p.covers b z.2) := by
    obtain ⟨h1, h2⟩ := (U_up (rs := rs) (i := i + 1) (m := m) hn (by omega)).filter fun z => p.covers b z.2
    refine ⟨List.pairwise_cons.mpr ⟨fun z hz => ?_, h1⟩, fun z hz => ?_⟩
    · have := (h2 z hz).1
      show i < z.1
      omega
    · rcases List.mem_cons.mp hz with q | q
      · rw [q]
        exact ⟨Nat.le_refl _, by show i ≤ 31; omega⟩
      · have := h2 z q
        omega
  rw [om_sum up, sumB]
abbrev Ch := Nat × Nat × Nat
def chs (t : Tariff) (rs : List Ride) (i : Nat) (r : Ride) : List Ch :=
  (0, t.alone r, B i) :: ((List.range t.passes.length).zip t.passes).filterMap fun x => if x.2.covers r.minute r = true then some (x.1 + 1, x.2.price, om (cvL rs i x.2 r.minute)) else none
def Vv (t : Tariff) (rs : List Ride) (i m : Nat) : Nat × Nat := ov t (U rs i m)
theorem V_end {t : Tariff} {rs : List Ride} {i m : Nat} (h : rs.length ≤ i) : Vv t rs i m = (0, 0) := by
  unfold Vv ov
  rw [U_end h, way_nil]
  rfl
theorem V_paid {t : Tariff} {rs : List Ride} {i m : Nat} {r : Ride} (h : rs[i]? = some r) (hm : m.testBit (pl i) = true) : Vv t rs i m = Vv t rs (i + 1) m := by
  unfold Vv
  rw [U_paid h hm]
abbrev En := Nat × Nat × Nat
def cand (c : Ch) (e : En) : En := (e.1 ||| c.2.2, e.2.1 + c.2.1, e.2.2 + c.1 * without c.2.2 e.1)
theorem mem_chs {t : Tariff} {rs : List Ride} {i : Nat} {r : Ride} {c : Ch} : c ∈ chs t rs i r ↔ c = (0, t.alone r, B i) ∨ ∃ k p, t.passes[k]? = some p ∧ p.covers r.minute r = true ∧ c = (k + 1, p.price, om (cvL rs i p r.minute)) := by
  unfold chs
  rw [List.mem_cons, List.mem_filterMap]
  refine or_congr Iff.rfl ⟨?_, ?_⟩
  · rintro ⟨x, hx, h⟩
    by_cases q : x.2.covers r.minute r = true
    · rw [if_pos q] at h
      exact ⟨x.1, x.2, mem_zipR.mp hx, q, (Option.some.inj h).symm⟩
    · rw [if_neg q] at h
      cases h
  · rintro ⟨k, p, hk, q, rfl⟩
    exact ⟨(k, p), mem_zipR.mpr hk, by rw [if_pos q]⟩
theorem V_rec {t : Tariff} {rs : List Ride} {i m : Nat} {r : Ride} (hn : rs.length ≤ 32) (hp : t.passes.length ≤ 3) (h : rs[i]? = some r) (hm : m.testBit (pl i) = false) :
    (∀ c ∈ chs t rs i r, le2 (Vv t rs i m) (pls (c.2.1, c.1 * without c.2.2 m) (Vv t rs (i + 1) (m ||| c.2.2)))) ∧ ∃ c ∈ chs t rs i r, Vv t rs i m = pls (c.2.1, c.1 * without c.2.2 m) (Vv t rs (i + 1) (m ||| c.2.2)) := by
  have hi := (List.getElem?_eq_some_iff.mp h).1
  obtain ⟨h1, h2, h3⟩ := ov_rec (t := t) hp (i := i) (r := r) (l := U rs (i + 1) m) (U_up hn (by omega))
  have e : Vv t rs i m = ov t ((i, r) :: U rs (i + 1) m) := by
    unfold Vv
    rw [U_un h hm]
  have ea : pls (t.alone r, 0 * without (B i) m) (Vv t rs (i + 1) (m ||| B i)) = pls (t.alone r, 0) (ov t (U rs (i + 1) m)) := by
    unfold Vv
    rw [U_alone hn hi, Nat.zero_mul]
  have ep : ∀ k (p : Pass), p.covers r.minute r = true → pls (p.price, (k + 1) * without (om (cvL rs i p r.minute)) m) (Vv t rs (i + 1) (m ||| om (cvL rs i p r.minute))) =
      pls (p.price, (k + 1) * (B i + sumB ((U rs (i + 1) m).filter fun z => p.covers r.minute z.2))) (ov t ((U rs (i + 1) m).filter fun z => !(p.covers r.minute z.2))) := fun k p c => by
    unfold Vv
    rw [U_pass hn, fresh_eq hn h hm c]
  rw [e]
  constructor
  · intro c hc
    rcases mem_chs.mp hc with rfl | ⟨k, p, hk, q, rfl⟩
    · rw [ea]
      exact h1
    · rw [ep k p q]
      exact h2 k p hk q
  · rcases h3 with q | ⟨k, p, hk, c, q⟩
    · exact ⟨_, mem_chs.mpr (.inl rfl), by rw [ea]; exact q⟩
    · exact ⟨_, mem_chs.mpr (.inr ⟨k, p, hk, c, rfl⟩), by rw [ep k p c]; exact q⟩
def cands (cs : List Ch) (i : Nat) (e : En) : List En := if e.1.testBit (pl i) = true then [e] else cs.map fun c => cand c e
def Good (t : Tariff) (rs : List Ride) (tgt : Nat × Nat) (i : Nat) (L : List En) : Prop := (∀ e ∈ L, le2 tgt (pls e.2 (Vv t rs i e.1))) ∧ ∃ e ∈ L, pls e.2 (Vv t rs i e.1) = tgt
def Dom (S L : List En) : Prop := ∀ c ∈ S, ∃ b ∈ L, b.1 = c.1 ∧ le2 b.2 c.2
theorem good_step {t : Tariff} {rs : List Ride} {tgt : Nat × Nat} {i : Nat} {r : Ride} {L L' : List En} (hn : rs.length ≤ 32) (hp : t.passes.length ≤ 3) (h : rs[i]? = some r) (g : Good t rs tgt i L)
    (d : Dom (L.flatMap (cands (chs t rs i r) i)) L') (s : ∀ b ∈ L', b ∈ L.flatMap (cands (chs t rs i r) i)) : Good t rs tgt (i + 1) L' := by
  obtain ⟨g1, e, he, g2⟩ := g
  have low : ∀ b ∈ L', le2 tgt (pls b.2 (Vv t rs (i + 1) b.1)) := fun b hb => by
    obtain ⟨x, hx, hbx⟩ := List.mem_flatMap.mp (s b hb)
    unfold cands at hbx
    by_cases q : x.1.testBit (pl i) = true
    · rw [if_pos q] at hbx
      rw [List.mem_singleton.mp hbx, ← V_paid h q]
      exact g1 x hx
    · rw [if_neg q] at hbx
      rw [Bool.not_eq_true] at q
      obtain ⟨c, hc, rfl⟩ := List.mem_map.mp hbx
      refine le2_trans (g1 x hx) ?_
      have := pls_r x.2 ((V_rec hn hp h q).1 c hc)
      rw [← pls_assoc] at this
      exact this
  refine ⟨low, ?_⟩
  have fin : ∀ c ∈ cands (chs t rs i r) i e, pls c.2 (Vv t rs (i + 1) c.1) = tgt → ∃ b ∈ L', pls b.2 (Vv t rs (i + 1) b.1) = tgt := fun c hc q => by
    obtain ⟨b, hb, e1, e2⟩ := d c (List.mem_flatMap.mpr ⟨e, he, hc⟩)
    refine ⟨b, hb, le2_anti ?_ (low b hb)⟩
    rw [← q, ← e1]
    exact pls_l _ e2
  unfold cands at fin
  by_cases q : e.1.testBit (pl i) = true
  · rw [if_pos q] at fin
    exact fin e (List.mem_singleton.mpr rfl) (by rw [← V_paid h q]; exact g2)
  · rw [if_neg q] at fin
    rw [Bool.not_eq_true] at q
    obtain ⟨c, hc, hv⟩ := (V_rec hn hp h q).2
    refine fin (cand c e) (List.mem_map.mpr ⟨c, hc, rfl⟩) ?_
    rw [← g2, hv, ← pls_assoc]
    rfl
theorem good_end {t : Tariff} {rs : List Ride} {tgt : Nat × Nat} {L : List En} (g : Good t rs tgt rs.length L) : (∀ e ∈ L, le2 tgt e.2) ∧ ∃ e ∈ L, e.2 = tgt := by
  have e0 : ∀ e : En, pls e.2 (Vv t rs rs.length e.1) = e.2 := fun e => by
    rw [V_end (Nat.le_refl _)]
    rfl
  obtain ⟨g1, e, he, g2⟩ := g
  exact ⟨fun x hx => by have := g1 x hx; rw [e0] at this; exact this, e, he, by rw [← g2, e0]⟩
def tgtOf (t : Tariff) (rs : List Ride) : Nat × Nat := (t.cost rs, enc (t.way rs).2)
theorem good_start (t : Tariff) (rs : List Ride) : Good t rs (tgtOf t rs) 0 [(0, 0, 0)] := by
  have e : pls (0, 0) (Vv t rs 0 0) = tgtOf t rs := by
    unfold Vv ov U tgtOf Tariff.cost Tariff.way
    have ef : (en 0 (rs.drop 0)).filter (fun z => !(0 : Nat).testBit (pl z.1)) = (List.range rs.length).zip rs := by
      rw [List.drop_zero, en_zero]
      refine List.filter_eq_self.mpr fun z _ => ?_
      simp
    rw [ef, show ((List.range rs.length).zip rs).length = rs.length by simp]
    unfold pls vw
    simp
  exact ⟨fun x hx => by rw [List.mem_singleton.mp hx, e]; exact le2_refl _, _, List.mem_singleton.mpr rfl, e⟩
end Fb
set_option maxHeartbeats 1000000
namespace Fb
open Km347
theorem way_perm (t : Tariff) : ∀ (n : Nat) (l : List (Nat × Ride)), l.length ≤ n → ((way t n l).2.map (·.1)).Perm (l.map (·.1))
  | n, [], _ => by
    rw [way_nil]
    exact .refl _
  | 0, _ :: _, h => by simp at h
  | n + 1, (i, r) :: l, h => by
    have h : l.length ≤ n := by simpa using h
    rw [way_cons]
    rcases List.mem_cons.mp (first_mem (wps t n i r l) (wa t n i r l)) with e | e
    · rw [e]
      exact (way_perm t n l h).cons i
    · obtain ⟨k, p, _, _, e⟩ := mem_wps.mp e
      rw [e]
      have hf := List.length_filter_le (fun z : Nat × Ride => !(p.covers r.minute z.2)) l
      have ih := way_perm t n (l.filter fun z => !(p.covers r.minute z.2)) (Nat.le_trans hf h)
      unfold wp
      show (i :: ((((l.filter fun z => p.covers r.minute z.2).map fun z => (z.1, k + 1)) ++ (way t n (l.filter fun z => !(p.covers r.minute z.2))).2).map (·.1))).Perm (i :: l.map (·.1))
      refine List.Perm.cons i ?_
      rw [List.map_append, List.map_map]
      refine (List.Perm.append_left _ ih).trans ?_
      have q := (List.filter_append_perm (fun z : Nat × Ride => p.covers r.minute z.2) l).map (·.1)
      rw [List.map_append] at q
      exact q
theorem way_dig (t : Tariff) (hp : t.passes.length ≤ 3) : ∀ (n : Nat) (l : List (Nat × Ride)), ∀ z ∈ (way t n l).2, z.2 ≤ 3
  | n, [], z, hz => by
    rw [way_nil] at hz
    cases hz
  | 0, _ :: _, z, hz => by
    rw [way] at hz
    cases hz
  | n + 1, (i, r) :: l, z, hz => by
    rw [way_cons] at hz
    rcases List.mem_cons.mp (first_mem (wps t n i r l) (wa t n i r l)) with e | e
    · rw [e] at hz
      rcases List.mem_cons.mp hz with q | q
      · rw [q]
        exact Nat.zero_le _
      · exact way_dig t hp n l z q
    · obtain ⟨k, p, hk, _, e⟩ := mem_wps.mp e
      rw [e] at hz
      have hk3 : k < t.passes.length := (List.getElem?_eq_some_iff.mp hk).1
      rcases List.mem_cons.mp hz with q | q
      · rw [q]
        show k + 1 ≤ 3
        omega
      · rcases List.mem_append.mp q with q | q
        · obtain ⟨y, _, rfl⟩ := List.mem_map.mp q
          show k + 1 ≤ 3
          omega
        · exact way_dig t hp n _ z q
theorem how_list {t : Tariff} {rs : List Ride} (hn : rs.length ≤ 32) (hp : t.passes.length ≤ 3) :
    (List.range 32).map (fun k => enc (t.way rs).2 / 2 ^ pl k % 4) = (t.hows rs ++ List.replicate RIDES 0).take RIDES := by
  have hz : ((List.range rs.length).zip rs).length = rs.length := by simp
  have perm : ((t.way rs).2.map (·.1)).Perm (List.range rs.length) := by
    have h := way_perm t rs.length ((List.range rs.length).zip rs) (by rw [hz]; exact Nat.le_refl _)
    rw [List.map_fst_zip (by simp)] at h
    exact h
  have nd : ((t.way rs).2.map (·.1)).Nodup := perm.nodup_iff.mpr List.nodup_range
  have small : ∀ z ∈ (t.way rs).2, z.1 ≤ 31 ∧ z.2 ≤ 3 := fun z hz => by
    have h := perm.mem_iff.mp (List.mem_map.mpr ⟨z, hz, rfl⟩)
    rw [List.mem_range] at h
    exact ⟨by omega, way_dig t hp _ _ z hz⟩
  have dig : ∀ k, k < 32 → enc (t.way rs).2 / 2 ^ pl k % 4 = digOf (t.way rs).2 k := fun k hk => dig_enc nd small (by omega)
  have out : ∀ k, rs.length ≤ k → digOf (t.way rs).2 k = 0 := fun k hk => by
    unfold digOf
    have : (t.way rs).2.find? (fun x => x.1 == k) = none := by
      rw [List.find?_eq_none]
      intro y hy q
      have h := perm.mem_iff.mp (List.mem_map.mpr ⟨y, hy, rfl⟩)
      rw [List.mem_range] at h
      have e : y.1 = k := by simpa using q
      omega
    rw [this]
    rfl
  refine List.ext_getElem? fun k => ?_
  unfold RIDES
  by_cases hk : k < 32
  · rw [List.getElem?_take_of_lt hk, List.getElem?_map, List.getElem?_range hk]
    by_cases hk2 : k < rs.length
    · rw [List.getElem?_append_left (by unfold Tariff.hows; simpa using hk2)]
      unfold Tariff.hows
      rw [List.getElem?_map, List.getElem?_range hk2]
      show some (enc (t.way rs).2 / 2 ^ pl k % 4) = some (digOf (t.way rs).2 k)
      rw [dig k hk]
    · have hl : (t.hows rs).length = rs.length := by
        unfold Tariff.hows
        simp
      rw [List.getElem?_append_right (by rw [hl]; omega), List.getElem?_replicate, if_pos (by rw [hl]; omega)]
      show some (enc (t.way rs).2 / 2 ^ pl k % 4) = some 0
      rw [dig k hk, out k (by omega)]
  · rw [List.getElem?_eq_none (by simp; omega), List.getElem?_eq_none (by simp; omega)]
def lt2 (a b : Nat × Nat) : Bool := decide (a.1 < b.1 ∨ (a.1 = b.1 ∧ a.2 < b.2))
def look (L : List En) (m : Nat) : Option (Nat × Nat) := (L.find? fun e => decide (e.1 = m)).map (·.2)
def putE (L : List En) (c : En) : List En := if L.any (fun e => decide (e.1 = c.1)) = true then L.map (fun e => if e.1 = c.1 then c else e) else L ++ [c]
def kb (L : List En) (c : En) : List En := match look L c.1 with
  | none => putE L c
  | some w => if lt2 c.2 w = true then putE L c else L
theorem look_mem {L : List En} {m : Nat} {w : Nat × Nat} (h : look L m = some w) : (m, w) ∈ L := by
  unfold look at h
  cases q : L.find? (fun e => decide (e.1 = m)) with
  | none =>
    rw [q] at h
    cases h
  | some e =>
    rw [q] at h
    have h : e.2 = w := Option.some.inj h
    have e1 : e.1 = m := by
      have z := List.find?_some q
      simpa using z
    have e2 := List.mem_of_find?_eq_some q
    rw [← h, ← e1]
    exact e2
theorem look_none {L : List En} {m : Nat} (h : look L m = none) : ∀ e ∈ L, e.1 ≠ m := fun e he q => by
  unfold look at h
  have h := Option.map_eq_none_iff.mp h
  rw [List.find?_eq_none] at h
  exact h e he (decide_eq_true q)
theorem nodup_val {L : List En} (hn : (L.map (·.1)).Nodup) {a b : En} (ha : a ∈ L) (hb : b ∈ L) (e : a.1 = b.1) : a = b := by
  induction L with
  | nil => cases ha
  | cons x L ih =>
    rw [List.map_cons, List.nodup_cons] at hn
    rcases List.mem_cons.mp ha with p | p <;> rcases List.mem_cons.mp hb with q | q
    · rw [p, q]
    · exact absurd (List.mem_map.mpr ⟨b, q, by rw [← e, p]⟩) hn.1
    · exact absurd (List.mem_map.mpr ⟨a, p, by rw [e, q]⟩) hn.1
    · exact ih hn.2 p q
theorem putE_mem {L : List En} {c b : En} (h : b ∈ putE L c) : b ∈ L ∨ b = c := by
  unfold putE at h
  by_cases q : L.any (fun e => decide (e.1 = c.1)) = true
  · rw [if_pos q] at h
    obtain ⟨e, he, rfl⟩ := List.mem_map.mp h
    by_cases z : e.1 = c.1
    · rw [if_pos z]
      exact .inr rfl
    · rw [if_neg z]
      exact .inl he
  · rw [if_neg q] at h
    rcases List.mem_append.mp h with z | z
    · exact .inl z
    · exact .inr (List.mem_singleton.mp z)
theorem putE_has (L : List En) (c : En) : c ∈ putE L c := by
  unfold putE
  by_cases q : L.any (fun e => decide (e.1 = c.1)) = true
  · rw [if_pos q]
    obtain ⟨e, he, z⟩ := List.any_eq_true.mp q
    exact List.mem_map.mpr ⟨e, he, by rw [if_pos (of_decide_eq_true z)]⟩
  · rw [if_neg q]
    simp
theorem putE_keep {L : List En} {c b : En} (h : b ∈ L) (ne : b.1 ≠ c.1) : b ∈ putE L c := by
  unfold putE
  by_cases q : L.any (fun e => decide (e.1 = c.1)) = true
  · rw [if_pos q]
    exact List.mem_map.mpr ⟨b, h, by rw [if_neg ne]⟩
  · rw [if_neg q]
    exact List.mem_append_left _ h
theorem putE_nodup {L : List En} {c : En} (hn : (L.map (·.1)).Nodup) : ((putE L c).map (·.1)).Nodup := by
  unfold putE
  by_cases q : L.any (fun e => decide (e.1 = c.1)) = true
  · rw [if_pos q, List.map_map]
    have e : L.map ((·.1) ∘ fun e => if e.1 = c.1 then c else e) = L.map (·.1) := by
      refine List.map_congr_left fun x _ => ?_
      show (if x.1 = c.1 then c else x).1 = x.1
      by_cases z : x.1 = c.1
      · rw [if_pos z, z]
      · rw [if_neg z]
    rw [e]
    exact hn
  · rw [if_neg q, List.map_append]
    rw [List.nodup_append]
    refine ⟨hn, by simp, fun x hx y hy z => q ?_⟩
    obtain ⟨b, hb, rfl⟩ := List.mem_map.mp hx
    rw [List.map_cons, List.map_nil, List.mem_singleton] at hy
    exact List.any_eq_true.mpr ⟨b, hb, decide_eq_true (z.trans hy)⟩
theorem kb_mem {L : List En} {c b : En} (h : b ∈ kb L c) : b ∈ L ∨ b = c := by
  unfold kb at h
  cases q : look L c.1 with
  | none =>
    rw [q] at h
    exact putE_mem h
  | some w =>
    rw [q] at h
    have h : b ∈ if lt2 c.2 w = true then putE L c else L := h
    by_cases z : lt2 c.2 w = true
    · rw [if_pos z] at h
      exact putE_mem h
    · rw [if_neg z] at h
      exact .inl h
theorem kb_nodup {L : List En} {c : En} (hn : (L.map (·.1)).Nodup) : ((kb L c).map (·.1)).Nodup := by
  unfold kb
  cases q : look L c.1 with
  | none => exact putE_nodup hn
  | some w =>
    show ((if lt2 c.2 w = true then putE L c else L).map (·.1)).Nodup
    by_cases z : lt2 c.2 w = true
    · rw [if_pos z]
      exact putE_nodup hn
    · rw [if_neg z]
      exact hn
theorem kb_dom {S L : List En} {c : En} (hn : (L.map (·.1)).Nodup) (d : Dom S L) : Dom (S ++ [c]) (kb L c) := by
  have put : ∀ w, look L c.1 = some w → lt2 c.2 w = true → Dom (S ++ [c]) (putE L c) := fun w hw hl => by
    intro x hx
    rcases List.mem_append.mp hx with z | z
    · obtain ⟨b, hb, e1, e2⟩ := d x z
      by_cases ne : b.1 = c.1
      · refine ⟨c, putE_has L c, by rw [← e1, ne], ?_⟩
        have e : b = (c.1, w) := nodup_val hn hb (look_mem hw) ne
        rw [e] at e2
        have hl := of_decide_eq_true hl
        refine le2_trans ?_ e2
        unfold le2
        show c.2.1 < w.1 ∨ c.2.1 = w.1 ∧ c.2.2 ≤ w.2
        omega
      · exact ⟨b, putE_keep hb ne, e1, e2⟩
    · rw [List.mem_singleton.mp z]
      exact ⟨c, putE_has L c, rfl, le2_refl _⟩
  unfold kb
  cases q : look L c.1 with
  | none =>
    intro x hx
    show ∃ b ∈ putE L c, _
    rcases List.mem_append.mp hx with z | z
    · obtain ⟨b, hb, e1, e2⟩ := d x z
      exact ⟨b, putE_keep hb (look_none q b hb), e1, e2⟩
    · rw [List.mem_singleton.mp z]
      exact ⟨c, putE_has L c, rfl, le2_refl _⟩
  | some w =>
    show Dom (S ++ [c]) (if lt2 c.2 w = true then putE L c else L)
    by_cases z : lt2 c.2 w = true
    · rw [if_pos z]
      exact put w q z
    · rw [if_neg z]
      intro x hx
      rcases List.mem_append.mp hx with y | y
      · exact d x y
      · rw [List.mem_singleton.mp y]
        refine ⟨(c.1, w), look_mem q, rfl, ?_⟩
        rw [Bool.not_eq_true] at z
        have z := of_decide_eq_false z
        unfold le2
        show w.1 < c.2.1 ∨ w.1 = c.2.1 ∧ w.2 ≤ c.2.2
        omega
def tri (a b c : Nat) : Nat → Nat
  | 0 => a
  | 1 => b
  | _ => c
def keyP (t : Tariff) (rs : List Ride) (i : Nat) (T : Nat → Nat) (j : Nat) : Bool :=
  decide (j < i) || (List.range t.passes.length).any fun k => decide (j < T k) && inside (rs.getD j ⟨0, 0⟩).zones (t.passes.getD k ⟨0, 0, 0⟩).zones
def keyOf (t : Tariff) (rs : List Ride) (i : Nat) (T : Nat → Nat) : Nat := om ((List.range rs.length).filter (keyP t rs i T))
def KeyF (t : Tariff) (rs : List Ride) (i m : Nat) : Prop := ∃ a b c, a ≤ 32 ∧ b ≤ 32 ∧ c ≤ 32 ∧ m = keyOf t rs i (tri a b c)
def allKeys (t : Tariff) (rs : List Ride) (i : Nat) : List Nat := (List.range 33).flatMap fun a => (List.range 33).flatMap fun b => (List.range 33).map fun c => keyOf t rs i (tri a b c)
theorem sum_const {α : Type} (f : α → Nat) (k : Nat) : ∀ l : List α, (∀ x ∈ l, f x = k) → (l.map f).sum = l.length * k
  | [], _ => by simp
  | x :: l, h => by
    rw [List.map_cons, List.sum_cons, sum_const f k l fun y hy => h y (List.mem_cons_of_mem _ hy), h x (List.mem_cons_self ..), List.length_cons, Nat.add_mul, Nat.one_mul, Nat.add_comm]
theorem allKeys_len (t : Tariff) (rs : List Ride) (i : Nat) : (allKeys t rs i).length = 35937 := by
  unfold allKeys
  rw [List.length_flatMap, sum_const _ 1089]
  · rw [List.length_range]
  · intro a _
    rw [List.length_flatMap, sum_const _ 33]
    · rw [List.length_range]
    · intro b _
      rw [List.length_map, List.length_range]
theorem keys_few {t : Tariff} {rs : List Ride} {i : Nat} {L : List En} (hn : (L.map (·.1)).Nodup) (hk : ∀ e ∈ L, KeyF t rs i e.1) : L.length ≤ 35937 := by
  rw [← allKeys_len t rs i, ← List.length_map (f := (·.1))]
  refine hn.length_le_of_subset fun m hm => ?_
  obtain ⟨e, he, rfl⟩ := List.mem_map.mp hm
  obtain ⟨a, b, c, ha, hb, hc, q⟩ := hk e he
  rw [q]
  refine List.mem_flatMap.mpr ⟨a, List.mem_range.mpr (by omega), List.mem_flatMap.mpr ⟨b, List.mem_range.mpr (by omega), List.mem_map.mpr ⟨c, List.mem_range.mpr (by omega), rfl⟩⟩⟩
theorem om_ext {l m : List Nat} (h : ∀ j, j ∈ l ↔ j ∈ m) : om l = om m := by
  refine Nat.eq_of_testBit_eq fun p => ?_
  rw [om_bit, om_bit, Bool.eq_iff_iff, List.any_eq_true, List.any_eq_true]
  exact ⟨fun ⟨x, hx, q⟩ => ⟨x, (h x).mp hx, q⟩, fun ⟨x, hx, q⟩ => ⟨x, (h x).mpr hx, q⟩⟩
theorem keyP_iff {t : Tariff} {rs : List Ride} {i j : Nat} {T : Nat → Nat} {x : Ride} (hx : rs[j]? = some x) : keyP t rs i T j = true ↔ j < i ∨ ∃ k p, t.passes[k]? = some p ∧ j < T k ∧ inside x.zones p.zones = true := by
  unfold keyP
  have ex : rs.getD j ⟨0, 0⟩ = x := by
    rw [List.getD_eq_getElem?_getD, hx]
    rfl
  rw [Bool.or_eq_true, decide_eq_true_eq, List.any_eq_true, ex]
  refine or_congr Iff.rfl ⟨?_, ?_⟩
  · rintro ⟨k, hk, h⟩
    rw [List.mem_range] at hk
    rw [Bool.and_eq_true, decide_eq_true_eq, List.getD_eq_getElem?_getD, List.getElem?_eq_getElem hk] at h
    exact ⟨k, _, List.getElem?_eq_getElem hk, h.1, h.2⟩
  · rintro ⟨k, p, hk, h1, h2⟩
    refine ⟨k, List.mem_range.mpr (List.getElem?_eq_some_iff.mp hk).1, ?_⟩
    rw [Bool.and_eq_true, decide_eq_true_eq, List.getD_eq_getElem?_getD, hk]
    exact ⟨h1, h2⟩
theorem mem_keys {t : Tariff} {rs : List Ride} {i j : Nat} {T : Nat → Nat} : j ∈ (List.range rs.length).filter (keyP t rs i T) ↔ ∃ x, rs[j]? = some x ∧ (j < i ∨ ∃ k p, t.passes[k]? = some p ∧ j < T k ∧ inside x.zones p.zones = true) := by
  rw [List.mem_filter, List.mem_range]
  constructor
  · rintro ⟨h1, h2⟩
    exact ⟨_, List.getElem?_eq_getElem h1, (keyP_iff (List.getElem?_eq_getElem h1)).mp h2⟩
  · rintro ⟨x, h1, h2⟩
    exact ⟨(List.getElem?_eq_some_iff.mp h1).1, (keyP_iff h1).mpr h2⟩
theorem key_start (t : Tariff) (rs : List Ride) : KeyF t rs 0 0 := by
  refine ⟨0, 0, 0, by omega, by omega, by omega, ?_⟩
  unfold keyOf
  have e : ∀ j, j ∈ ([] : List Nat) ↔ j ∈ (List.range rs.length).filter (keyP t rs 0 (tri 0 0 0)) := fun j => by
    constructor
    · intro h
      cases h
    · intro h
      obtain ⟨x, _, q | ⟨k, p, _, q, _⟩⟩ := mem_keys.mp h
      · omega
      · have : tri 0 0 0 k = 0 := by
          unfold tri
          split <;> rfl
        omega
  exact om_ext e
def Sorted (rs : List Ride) : Prop := rs.Pairwise fun a b => a.minute ≤ b.minute
theorem upTo : ∀ {rs : List Ride} (y : Nat), Sorted rs → ∃ X, X ≤ rs.length ∧ ∀ (j : Nat) (r : Ride), rs[j]? = some r → (r.minute < y ↔ j < X)
  | [], y, _ => ⟨0, Nat.le_refl _, fun j r h => by simp at h⟩
  | r :: rs, y, h => by
    obtain ⟨h1, h2⟩ := List.pairwise_cons.mp h
    by_cases q : r.minute < y
    · obtain ⟨X, hX, hx⟩ := upTo (rs := rs) y h2
      refine ⟨X + 1, by rw [List.length_cons]; omega, fun j x e => ?_⟩
      cases j with
      | zero =>
        have e : r = x := Option.some.inj e
        rw [← e]
        exact ⟨fun _ => by omega, fun _ => q⟩
      | succ j =>
        rw [hx j x e]
        omega
    · refine ⟨0, Nat.zero_le _, fun j x e => ⟨fun z => ?_, fun z => by omega⟩⟩
      cases j with
      | zero =>
        have e : r = x := Option.some.inj e
        rw [e] at q
        omega
      | succ j =>
        have := h1 x (List.mem_of_getElem? (show rs[j]? = some x from e))
        omega
theorem sorted_at {rs : List Ride} (h : Sorted rs) {i j : Nat} {a b : Ride} (ha : rs[i]? = some a) (hb : rs[j]? = some b) (hij : i ≤ j) : a.minute ≤ b.minute := by
  by_cases e : i = j
  · subst e
    rw [ha] at hb
    cases hb
    exact Nat.le_refl _
  · obtain ⟨h1, e1⟩ := List.getElem?_eq_some_iff.mp ha
    obtain ⟨h2, e2⟩ := List.getElem?_eq_some_iff.mp hb
    have := (List.pairwise_iff_getElem.mp h) i j h1 h2 (by omega)
    rw [e1, e2] at this
    exact this
theorem tri_put {a b c X k : Nat} (ha : a ≤ 32) (hb : b ≤ 32) (hc : c ≤ 32) (hX : X ≤ 32) (hk : k < 3) : ∃ a' b' c', a' ≤ 32 ∧ b' ≤ 32 ∧ c' ≤ 32 ∧ ∀ k', k' < 3 → tri a' b' c' k' = if k' = k then max (tri a b c k) X else tri a b c k' := by
  have cs : k = 0 ∨ k = 1 ∨ k = 2 := by omega
  rcases cs with rfl | rfl | rfl
  · refine ⟨max a X, b, c, by omega, hb, hc, fun k' hk' => ?_⟩
    have cs : k' = 0 ∨ k' = 1 ∨ k' = 2 := by omega
    rcases cs with rfl | rfl | rfl <;> rfl
  · refine ⟨a, max b X, c, ha, by omega, hc, fun k' hk' => ?_⟩
    have cs : k' = 0 ∨ k' = 1 ∨ k' = 2 := by omega
    rcases cs with rfl | rfl | rfl <;> rfl
  · refine ⟨a, b, max c X, ha, hb, by omega, fun k' hk' => ?_⟩
    have cs : k' = 0 ∨ k' = 1 ∨ k' = 2 := by omega
    rcases cs with rfl | rfl | rfl <;> rfl
theorem covers_iff {p : Pass} {b : Nat} {x : Ride} : p.covers b x = true ↔ b ≤ x.minute ∧ x.minute < b + p.minutes ∧ inside x.zones p.zones = true := by
  unfold Pass.covers
  rw [Bool.and_eq_true, Bool.and_eq_true, decide_eq_true_eq, decide_eq_true_eq]
theorem key_step {t : Tariff} {rs : List Ride} {i : Nat} {r : Ride} (hn : rs.length ≤ 32) (hp : t.passes.length ≤ 3) (hs : Sorted rs) (h : rs[i]? = some r) {e c : En} (he : KeyF t rs i e.1) (hc : c ∈ cands (chs t rs i r) i e) : KeyF t rs (i + 1) c.1 := by
  obtain ⟨a, b, d, ha, hb, hd, q⟩ := he
  have hi := (List.getElem?_eq_some_iff.mp h).1
  have le31 : ∀ k ∈ (List.range rs.length).filter (keyP t rs i (tri a b d)), k ≤ 31 := fun k hk => by
    have := List.mem_range.mp (List.mem_filter.mp hk).1
    omega
  unfold cands at hc
  by_cases pd : e.1.testBit (pl i) = true
  · rw [if_pos pd] at hc
    rw [List.mem_singleton.mp hc]
    refine ⟨a, b, d, ha, hb, hd, ?_⟩
    rw [q]
    rw [q] at pd
    unfold keyOf at pd ⊢
    rw [om_mem le31 (by omega), decide_eq_true_eq] at pd
    refine om_ext fun j => ?_
    rw [mem_keys, mem_keys]
    constructor
    · rintro ⟨x, h1, z | z⟩
      · exact ⟨x, h1, .inl (by omega)⟩
      · exact ⟨x, h1, .inr z⟩
    · rintro ⟨x, h1, z | z⟩
      · by_cases ji : j = i
        · rw [ji]
          exact mem_keys.mp pd
        · exact ⟨x, h1, .inl (by omega)⟩
      · exact ⟨x, h1, .inr z⟩
  · rw [if_neg pd] at hc
    obtain ⟨ch, hch, rfl⟩ := List.mem_map.mp hc
    rcases mem_chs.mp hch with rfl | ⟨k, p, hk, cv, rfl⟩
    · refine ⟨a, b, d, ha, hb, hd, ?_⟩
      show e.1 ||| B i = _
      rw [q]
      unfold keyOf
      rw [← om_one i, ← om_append]
      refine om_ext fun j => ?_
      rw [List.mem_append, mem_keys, mem_keys, List.mem_singleton]
      constructor
      · rintro (⟨x, h1, z | z⟩ | z)
        · exact ⟨x, h1, .inl (by omega)⟩
        · exact ⟨x, h1, .inr z⟩
        · exact ⟨r, by rw [z]; exact h, .inl (by omega)⟩
      · rintro ⟨x, h1, z | z⟩
        · by_cases ji : j = i
          · exact .inr ji
          · exact .inl ⟨x, h1, .inl (by omega)⟩
        · exact .inl ⟨x, h1, .inr z⟩
    · obtain ⟨X, hX, hx⟩ := upTo (r.minute + p.minutes) hs
      have hk3 : k < t.passes.length := (List.getElem?_eq_some_iff.mp hk).1
      obtain ⟨a', b', d', ha', hb', hd', hT⟩ := tri_put (k := k) ha hb hd (show X ≤ 32 by omega) (by omega)
      refine ⟨a', b', d', ha', hb', hd', ?_⟩
      show e.1 ||| om (cvL rs i p r.minute) = _
      rw [q]
      unfold keyOf
      rw [← om_append]
      refine om_ext fun j => ?_
      rw [List.mem_append, mem_keys, mem_keys, mem_cvL]
      constructor
      · rintro (⟨x, h1, z | ⟨k', p', z1, z2, z3⟩⟩ | ⟨hij, x, h1, h2⟩)
        · exact ⟨x, h1, .inl (by omega)⟩
        · have hk' : k' < t.passes.length := (List.getElem?_eq_some_iff.mp z1).1
          refine ⟨x, h1, .inr ⟨k', p', z1, ?_, z3⟩⟩
          rw [hT k' (by omega)]
          by_cases kk : k' = k
          · rw [if_pos kk]
            rw [kk] at z2
            omega
          · rw [if_neg kk]
            exact z2
        · obtain ⟨c1, c2, c3⟩ := covers_iff.mp h2
          refine ⟨x, h1, .inr ⟨k, p, hk, ?_, c3⟩⟩
          rw [hT k (by omega), if_pos rfl]
          have := (hx j x h1).mp c2
          omega
      · rintro ⟨x, h1, z | ⟨k', p', z1, z2, z3⟩⟩
        · by_cases ji : j = i
          · subst ji
            exact .inr ⟨Nat.le_refl _, r, h, cv⟩
          · exact .inl ⟨x, h1, .inl (by omega)⟩
        · have hk' : k' < t.passes.length := (List.getElem?_eq_some_iff.mp z1).1
          rw [hT k' (by omega)] at z2
          by_cases kk : k' = k
          · rw [if_pos kk] at z2
            subst kk
            rw [hk] at z1
            cases z1
            by_cases z4 : j < tri a b d k'
            · exact .inl ⟨x, h1, .inr ⟨k', p, hk, z4, z3⟩⟩
            · have hjX : j < X := by omega
              by_cases hji : j < i
              · exact .inl ⟨x, h1, .inl hji⟩
              · exact .inr ⟨by omega, x, h1, covers_iff.mpr ⟨sorted_at hs h h1 (by omega), (hx j x h1).mpr hjX, z3⟩⟩
          · rw [if_neg kk] at z2
            exact .inl ⟨x, h1, .inr ⟨k', p', z1, z2, z3⟩⟩
end Fb
namespace L2
open PySem PySem.Spec PyProof.Rows
theorem for_items {d : Addr} {o : Obj} {kvs : List (Key × V)} {g : TG} {tb : TS} {D : Ends} {σ : St} {H : Hp} (Pv : Nat → St → Hp → Prop) (h0 : Pv 0 σ H) (hl : ∀ i σ H, i ≤ kvs.length → Pv i σ H → H d = some (.frz o (.dK kvs)))
    (hs : ∀ i k v σ H T, kvs[i]? = some (k, v) → Pv i σ H → H T = none → g (.ref T) σ (upd H T (.tup [kV k, v])) fun σ2 H2 => tb { D with nx := Pv (i + 1), ct := Pv (i + 1), bk := D.nx } σ2 H2) (hd : ∀ σ H, Pv kvs.length σ H → D.nx σ H) :
    ∃ W : Nat → Nat → St → Hp → Prop, (∃ m, W 0 m σ H) ∧ ∀ i m σ H, W i m σ H →
      ((Iti d o kvs).stop i H ∧ D.nx σ H) ∨ ((Iti d o kvs).go i H ∧ ∃ N : St → Hp → Prop, (∀ σ' H', N σ' H' → ∃ m', m' < m ∧ W (i + 1) m' σ' H') ∧ ∀ x H', (Iti d o kvs).yld i H x H' → g x σ H' fun σ2 H2 => tb { D with nx := N, ct := N, bk := D.nx } σ2 H2) := by
  refine ⟨fun i m σ H => m = kvs.length - i ∧ i ≤ kvs.length ∧ Pv i σ H, ⟨kvs.length, by simp, Nat.zero_le _, h0⟩, ?_⟩
  rintro i m σ H ⟨rfl, hi, p⟩
  have q := hl i σ H hi p
  by_cases hlt : i < kvs.length
  · refine .inr ⟨⟨q, hlt⟩, Pv (i + 1), fun σ' H' p' => ⟨kvs.length - (i + 1), by omega, rfl, hlt, p'⟩, fun x H' y => ?_⟩
    obtain ⟨t, k, v, e1, e2, e3, e4⟩ := y
    subst e2 e4
    exact hs i k v σ H t e1 p e3
  · have e : i = kvs.length := by omega
    subst e
    exact .inl ⟨⟨q, Nat.le_refl _⟩, hd σ H p⟩
theorem for_enum {K : PySem.W.Frag} {a : Addr} {xs : List V} {g : TG} {tb : TS} {D : Ends} {σ : St} {H : Hp} (Pv : Nat → St → Hp → Prop) (h0 : Pv 0 σ H) (hl : ∀ i σ H, i ≤ xs.length → Pv i σ H → SqL K H a xs)
    (hs : ∀ i x σ H T, xs[i]? = some x → Pv i σ H → H T = none → g (.ref T) σ (upd H T (.tup [.int (i : Nat), x])) fun σ2 H2 => tb { D with nx := Pv (i + 1), ct := Pv (i + 1), bk := D.nx } σ2 H2) (hd : ∀ σ H, Pv xs.length σ H → D.nx σ H) :
    ∃ W : Nat → Nat → St → Hp → Prop, (∃ m, W 0 m σ H) ∧ ∀ i m σ H, W i m σ H →
      ((Ite K a).stop i H ∧ D.nx σ H) ∨ ((Ite K a).go i H ∧ ∃ N : St → Hp → Prop, (∀ σ' H', N σ' H' → ∃ m', m' < m ∧ W (i + 1) m' σ' H') ∧ ∀ x H', (Ite K a).yld i H x H' → g x σ H' fun σ2 H2 => tb { D with nx := N, ct := N, bk := D.nx } σ2 H2) := by
  refine ⟨fun i m σ H => m = xs.length - i ∧ i ≤ xs.length ∧ Pv i σ H, ⟨xs.length, by simp, Nat.zero_le _, h0⟩, ?_⟩
  rintro i m σ H ⟨rfl, hi, p⟩
  have q := hl i σ H hi p
  by_cases hlt : i < xs.length
  · refine .inr ⟨⟨xs, xs[i], q, by simp [hlt]⟩, Pv (i + 1), fun σ' H' p' => ⟨xs.length - (i + 1), by omega, rfl, hlt, p'⟩, fun x H' y => ?_⟩
    obtain ⟨t, v, e1, e2, e3, e4⟩ := y
    subst e1 e3
    exact hs i v σ H t (e4 xs q) p e2
  · have e : i = xs.length := by omega
    subst e
    exact .inl ⟨⟨xs, q, Nat.le_refl _⟩, hd σ H p⟩
end L2
namespace Fb
open PySem PySem.Spec PyProof.Rows L2
theorem bor (a b : Nat) : Builtin.bitOr (a : Int) (b : Int) = ((a ||| b : Nat) : Int) := by
  rw [Bits.bitOr_pp (by omega) (by omega), Int.toNat_natCast, Int.toNat_natCast]
theorem band_not (c p : Nat) : Builtin.bitAnd (c : Int) (Builtin.bitNot (p : Int)) = ((Fb.without c p : Nat) : Int) := by
  rw [PyProof.Rows.bitAnd_not, band]
  unfold Fb.without
  have h := xor_and c c (c &&& p) (Nat.le_refl _)
  have e : c &&& (c &&& p) = c &&& p := by
    rw [← Nat.and_assoc, Nat.and_self]
  rw [e] at h
  have := Nat.and_le_left (n := c) (m := p)
  omega
theorem shl_B (k : Nat) (j : Int) (h : j = ((pl k : Nat) : Int)) : (1 : Int) * 2 ^ j.toNat = ((B k : Nat) : Int) := by
  rw [h, Int.toNat_natCast, Int.one_mul]
  unfold B
  rw [Int.natCast_pow]
  rfl
theorem pl_le (k : Nat) : pl k ≤ 62 := by
  unfold pl
  omega
def rideV (r : Km347.Ride) : List V := [nv r.minute, nv r.zones]
section
variable {P : Program} {w : World} {K : PySem.W.Frag} {mg : Str → Option Value} {base : Heap}
def spPlace : Sp := fun vs H Q _ => ∃ k : Nat, vs = [nv k] ∧ k ≤ 31 ∧ Q (nv (pl k)) H
theorem ok_z41 {a : Ad} (T : Tx K mg a) : FnOk P w K mg base CX0 1 a.f_z41 a.d_z41 ["ride"] (spPlace) := by
  refine T.F_z41.ok sc_z41 (fun vs H Q E h => ?_) (fun cdv A outer s H vs Q E hr h => ?_)
  · obtain ⟨k, rfl, _⟩ := h
    rfl
  · obtain ⟨k, rfl, hk, q⟩ := h
    refine ⟨_, (pss_one (ps_ret (pe_op op_mul pe_int (pe_op op_sub (pe_op op_sub (pe_gint rfl T.g_MOST_RIDES) pe_int) (pv 0))))), ?_⟩
    refine ⟨_, _, rfl, rfl, _, rfl, _, _, rfl, rfl, _, _, rfl, rfl, .inl ⟨by decide, by decide⟩, ?_⟩
    have e : (2 : Int) * (32 - 1 - (k : Int)) = ((pl k : Nat) : Int) := by
      unfold pl
      omega
    show Q (.int ((2 : Int) * (32 - 1 - (k : Int)))) H
    rw [e]
    exact q
theorem ones_sum (z : Nat) : ∀ n : Nat, ((List.range n).map fun k => ((z / 2 ^ k % 2 : Nat) : Int)).sum = (((List.range n).filter fun i => z.testBit i).length : Int)
  | 0 => rfl
  | n + 1 => by
    rw [List.range_succ, List.map_append, List.sum_append, ones_sum z n, List.filter_append, List.length_append, Int.natCast_add]
    congr 1
    rw [List.map_cons, List.map_nil, List.sum_cons, List.sum_nil, List.filter_cons, List.filter_nil]
    have e : z.testBit n = decide (z / 2 ^ n % 2 = 1) := Nat.testBit_eq_decide_div_mod_eq
    rw [e]
    by_cases q : z / 2 ^ n % 2 = 1
    · rw [decide_eq_true q, q]
      rfl
    · rw [decide_eq_false q, if_neg Bool.false_ne_true, show z / 2 ^ n % 2 = 0 by omega]
      rfl
def spZones : Sp := fun vs H Q _ => ∃ z : Nat, vs = [nv z] ∧ ∀ H', Same H H' → Q (nv (Km347.ones z)) H'
theorem ok_z31 {a : Ad} (T : Tx K mg a) : FnOk P w K mg base CX0 1 a.f_z31 a.d_z31 ["zones"] (spZones) := by
  refine T.F_z31.ok sc_z31 (fun vs H Q E h => ?_) (fun cdv A outer s H vs Q E hr h => ?_)
  · obtain ⟨k, rfl, _⟩ := h
    rfl
  · obtain ⟨z, rfl, q⟩ := h
    refine ⟨_, (pss_one (ps_ret (pe_callB (cr_sum rfl) rfl T.n_sum PyProof.Rows.boot_sum (pa_cons (pe_lc rfl sc_z31.nd (pi_range1 rfl T.n_range (pa_cons pe_int pa_nil)) (blkOk_by (own := [("k", 1)]) (show blkC ["zones", "k"] (defScope s_z31) _ [("k", 1)] = true by decide +kernel)) (fun _ _ _ _ _ => (pg_name (i := 1) sc_z31.nd rfl (Or.inl rfl))) (fun _ _ _ _ _ => pts_nil) (fun _ _ _ _ _ => (pe_op op_and (pe_op op_shr (pv 0) (pv 1)) pe_int))) pa_nil)))), ?_⟩
    refine ⟨8, rfl, by decide, by decide, fun D hD => ?_⟩
    have s0 := Same.new (o := HO.lst []) hD
    refine lc_range (lo := 0) (n := 8) (fun i H' => H' D = some (.lst (((List.range i).map fun k => ((z / 2 ^ k % 2 : Nat) : Int)).map V.int)) ∧ Same H H') ⟨upd_same, s0⟩ ?_ ?_
    · rintro i H' hi ⟨hd, s1⟩
      refine ⟨rfl, _, rfl, _, rfl, _, _, rfl, rfl, (by show (0 : Int) ≤ 0 + (i : Int); omega), _, _, rfl, rfl, _, hd, (by rw [List.length_map, List.length_map, List.length_range]; exact Nat.lt_of_lt_of_le hi (by decide)), ?_, ?_⟩
      · rw [upd_same, List.range_succ, List.map_append, List.map_append]
        have e : Builtin.bitAnd ((z : Int) / 2 ^ ((0 : Int) + (i : Int)).toNat) 1 = ((z / 2 ^ i % 2 : Nat) : Int) := by
          rw [ishr z i (0 + (i : Int)) (by omega), PyProof.Rows.bitAnd_m1]
          omega
        show some (HO.lst (_ ++ [V.int (Builtin.bitAnd ((z : Int) / 2 ^ ((0 : Int) + (i : Int)).toNat) 1)])) = _
        rw [e]
        rfl
      · intro b o e
        rw [upd_ne (ne_of_none e hD)]
        exact s1 _ _ e
    · rintro H' ⟨hd, s1⟩
      refine ⟨D, _, rfl, SqL.of hd, ?_⟩
      rw [ones_sum]
      exact q H' s1
def spCovers : Sp := fun vs H Q _ => ∃ (p : Km347.Pass) (b : Nat) (r : Km347.Ride), vs = [nv p.minutes, nv p.zones, nv b, nv r.minute, nv r.zones] ∧ Q (.bl (p.covers b r)) H
theorem ok_z53 {a : Ad} (T : Tx K mg a) : FnOk P w K mg base CX0 1 a.f_z53 a.d_z53 ["minutes", "pass_zones", "bought", "minute", "zones"] (spCovers) := by
  refine T.F_z53.ok sc_z53 (fun vs H Q E h => ?_) (fun cdv A outer s H vs Q E hr h => ?_)
  · obtain ⟨p, b, r, rfl, _⟩ := h
    rfl
  · obtain ⟨p, b, r, rfl, q⟩ := h
    refine ⟨_, (pss_one (ps_ret (pe_and (pe_chain op_le op_lt (pv 2) (pv 3) (pe_op op_add (pv 2) (pv 0))) (pe_one (pe_cmpR op_eq (pe_op op_and (pv 4) (pv 1)) (pv 4) (nomark _)))))), ?_⟩
    unfold Km347.Pass.covers at q
    refine ⟨_, rfl, _, rfl, _, _, rfl, rfl, _, rfl, iteD (fun h1 => ?_) (fun h1 => ?_)⟩
    · have h1 := of_decide_eq_true h1
      rw [decide_eq_true (show b ≤ r.minute by omega), Bool.true_and] at q
      refine ⟨_, rfl, _, rfl, _, _, rfl, rfl, _, _, rfl, rfl, _, rfl, iteD (fun h2 => ?_) (fun h2 => ?_)⟩
      · have h2 := of_decide_eq_true h2
        rw [decide_eq_true (show r.minute < b + p.minutes by omega), Bool.true_and] at q
        refine ⟨_, rfl, _, rfl, _, _, rfl, rfl, _, rfl, rfl, ?_⟩
        have e : Km347.inside r.zones p.zones = decide (V.int (Builtin.bitAnd (r.zones : Int) (p.zones : Int)) = V.int (r.zones : Int)) := by
          rw [band]
          unfold Km347.inside
          by_cases z : r.zones &&& p.zones = r.zones
          · rw [z]
            simp
          · rw [decide_eq_false (fun y => z (by have := V.int.inj y; omega))]
            simpa using z
        rw [e] at q
        exact q
      · have h2 := of_decide_eq_false h2
        rw [decide_eq_false (show ¬ r.minute < b + p.minutes by omega), Bool.false_and] at q
        exact q
    · have h1 := of_decide_eq_false h1
      rw [decide_eq_false (show ¬ b ≤ r.minute by omega), Bool.false_and] at q
      exact ⟨_, rfl, iteF q⟩
abbrev RidesAt (H : Hp) (as : List Addr) (rs : List Km347.Ride) : Prop := TupsAt H as (rs.map rideV)
theorem RidesAt.at {H : Hp} {as : List Addr} {rs : List Km347.Ride} {i : Nat} {r : Km347.Ride} (h : RidesAt H as rs) (e : rs[i]? = some r) : ∃ q, as[i]? = some q ∧ H q = some (.tup (rideV r)) := h.2 i _ (get_map e)
theorem en_at {rs : List Km347.Ride} {i j : Nat} {r : Km347.Ride} (h : rs[i + j]? = some r) : (en i (rs.drop i))[j]? = some (i + j, r) := by
  rw [en_zip, List.getElem?_zip_eq_some]
  have hl := (List.getElem?_eq_some_iff.mp h).1
  refine ⟨?_, by rw [List.getElem?_drop]; exact h⟩
  rw [List.getElem?_range' (by rw [List.length_drop]; omega)]
  simp
def cvT (rs : List Km347.Ride) (i j : Nat) (p : Km347.Pass) (b : Nat) : Nat := om ((((en i (rs.drop i)).take j).filter fun z => p.covers b z.2).map (·.1))
theorem cvT_step {rs : List Km347.Ride} {i j b : Nat} {p : Km347.Pass} {r : Km347.Ride} (h : rs[i + j]? = some r) : cvT rs i (j + 1) p b = if p.covers b r = true then cvT rs i j p b ||| B (i + j) else cvT rs i j p b := by
  unfold cvT
  rw [take_snoc (en_at h), List.filter_append, List.map_append, om_append, List.filter_cons, List.filter_nil]
  by_cases c : p.covers b r = true
  · rw [if_pos c, if_pos c]
    show _ ||| om [i + j] = _
    rw [om_one]
  · rw [if_neg c, if_neg c]
    show _ ||| om [] = _
    exact Nat.or_zero _
def spCovered (K : PySem.W.Frag) : Sp := fun vs H Q _ => ∃ (d : Addr) (as : List Addr) (rs : List Km347.Ride) (i : Nat) (r : Km347.Ride) (p : Km347.Pass), vs = [.ref d, nv i, nv p.minutes, nv p.zones] ∧ SqL K H d (as.map V.ref) ∧ RidesAt H as rs ∧ rs.length ≤ 32 ∧ rs[i]? = some r ∧
  Q (nv (om (cvL rs i p r.minute))) H
theorem ok_z14 {a : Ad} (T : Tx K mg a) : FnOk P w K mg base CX0 2 a.f_z14 a.d_z14 ["rides", "first", "minutes", "pass_zones"] (spCovered K) := by
  have G_z53 := ok_z53 (P := P) (w := w) (base := base) T
  have G_z41 := ok_z41 (P := P) (w := w) (base := base) T
  refine T.F_z14.ok sc_z14 (fun vs H Q E h => ?_) (fun cdv A outer s H vs Q E hr h => ?_)
  · obtain ⟨d, as, rs, i, r, p, rfl, _⟩ := h
    rfl
  · obtain ⟨d, as, rs, i, r, p, rfl, hS, ra, hn, hi, q⟩ := h
    refine ⟨_, (pss_cons (ps_set (i := 4) sc_z14.nd rfl (Or.inl rfl) (pe_ix ix_tup (pe_ix ix_list (pv 0) (pv 1) (fun _ _ => rfl)) pe_int (fun _ _ => rfl)))
      (pss_cons (ps_set (i := 5) sc_z14.nd rfl (Or.inl rfl) pe_int)
      (pss_cons (ps_for PassesOwn.never rfl (pi_range2 rfl T.n_range (pa_cons (pv 1) (pa_cons (pe_callB call_len_seq rfl T.n_len PySem.boot_len (pa_cons (pv 0) pa_nil)) pa_nil))) (pg_name (i := 6) sc_z14.nd rfl (Or.inl rfl))
        (pss_one (ps_if (pt_val (pe_call G_z53 (hr.mono (by decide)) rfl T.m_z53 T.F_z53.kp T.b_z53 .nil pass0 (pa_cons (pv 2) (pa_cons (pv 3) (pa_cons (pv 4) (pa_cons (pe_ix ix_tup (pe_ix ix_list (pv 0) (pv 6) (fun _ _ => rfl)) pe_int (fun _ _ => rfl)) (pa_cons (pe_ix ix_tup (pe_ix ix_list (pv 0) (pv 6) (fun _ _ => rfl)) pe_int (fun _ _ => rfl)) pa_nil)))))))
          (pss_one (ps_set (i := 5) sc_z14.nd rfl (Or.inl rfl) (pe_op op_or (pv 5) (pe_op op_shl pe_int (pe_call G_z41 (hr.mono (by decide)) rfl T.m_z41 T.F_z41.kp T.b_z41 .nil pass0 (pa_cons (pv 6) pa_nil))))))
          pss_nil)))
      (pss_one (ps_ret (pv 5)))))), ?_⟩
    have hil := (List.getElem?_eq_some_iff.mp hi).1
    have hlen : as.length = rs.length := by
      rw [ra.1, List.length_map]
    obtain ⟨t0, ht0, hq0⟩ := ra.at hi
    refine ⟨_, rfl, _, rfl, d, _, _, _, rfl, rfl, hS, atI_nat (get_map ht0), t0, _, _, _, rfl, rfl, SqT.of hq0, atI_nat (j := 0) rfl, ?_⟩
    refine ⟨_, rfl, _, rfl, d, _, rfl, .inl hS, (i : Int), _, rfl, ⟨by omega, by omega, by rw [List.length_map]; omega, by rw [List.length_map]; omega⟩, ?_⟩
    have en : (((as.map V.ref).length : Int) - (i : Int)).toNat = rs.length - i := by
      rw [List.length_map]
      omega
    rw [en]
    refine for_range (lo := (i : Int)) (n := rs.length - i) (fun j σ H' => ∃ v6 : Option V, σ = [some (.ref d), some (nv i), some (nv p.minutes), some (nv p.zones), some (nv r.minute), some (nv (cvT rs i j p r.minute)), v6] ∧ H' = H)
      ⟨none, rfl, rfl⟩ ?_ ?_
    · rintro j σ H' hj ⟨v6, rfl, rfl⟩
      obtain ⟨x, hx⟩ : ∃ x, rs[i + j]? = some x := ⟨_, List.getElem?_eq_getElem (by omega)⟩
      obtain ⟨t1, ht1, hq1⟩ := ra.at hx
      have ec : (i : Int) + (j : Int) = ((i + j : Nat) : Int) := by omega
      have a1 : atI (as.map V.ref) ((i : Int) + (j : Int)) = some (V.ref t1) := at_of ec (get_map ht1)
      refine ⟨_, rfl, _, rfl, _, rfl, _, rfl, _, rfl, d, _, _, _, rfl, rfl, hS, a1, t1, _, _, _, rfl, rfl, SqT.of hq1, atI_nat (j := 0) rfl, _, rfl, _, rfl, d, _, _, _, rfl, rfl, hS, a1, t1, _, _, _, rfl, rfl, SqT.of hq1, atI_nat (j := 1) rfl,
        p, r.minute, x, rfl, _, rfl, iteD (fun c => ?_) (fun c => ?_)⟩
      · refine ⟨_, rfl, _, rfl, i + j, rfl, by omega, _, _, rfl, rfl, ⟨by show (0 : Int) ≤ _; omega, by have := pl_le (i + j); show ((pl (i + j) : Nat) : Int) ≤ 1000000; omega, by decide⟩, _, _, rfl, rfl, some (.int ((i : Int) + (j : Int))), ?_, rfl⟩
        rw [cvT_step hx, if_pos c]
        have e2 : Builtin.bitOr ((cvT rs i j p r.minute : Nat) : Int) ((1 : Int) * 2 ^ ((pl (i + j) : Nat) : Int).toNat) = ((cvT rs i j p r.minute ||| B (i + j) : Nat) : Int) := by
          rw [shl_B (i + j) _ rfl, bor]
        exact congrArg (fun z => [some (V.ref d), some (nv i), some (nv p.minutes), some (nv p.zones), some (nv r.minute), some (V.int z), _]) e2
      · refine ⟨some (.int ((i : Int) + (j : Int))), ?_, rfl⟩
        rw [cvT_step hx, if_neg (by rw [c]; exact Bool.false_ne_true)]
        rfl
    · rintro σ H' ⟨v6, rfl, rfl⟩
      refine ⟨_, rfl, ?_⟩
      have e : cvT rs i (rs.length - i) p r.minute = om (cvL rs i p r.minute) := by
        unfold cvT cvL
        rw [List.take_of_length_le (by rw [en_zip]; simp)]
      rw [← e] at q
      exact q
theorem grow {H H' : Hp} {p t : Addr} {cas : List Addr} {rows : List (List V)} {row : List V} (s : Same H H') (hp : H p = none) (hl : H' p = some (.lst (cas.map V.ref))) (ta : TupsAt H' cas rows) (ht : H' t = none) :
    Same H (upd (upd H' t (.tup row)) p (.lst (cas.map V.ref ++ [.ref t]))) ∧ (upd (upd H' t (.tup row)) p (.lst (cas.map V.ref ++ [.ref t]))) p = some (.lst ((cas ++ [t]).map V.ref)) ∧ TupsAt (upd (upd H' t (.tup row)) p (.lst (cas.map V.ref ++ [.ref t]))) (cas ++ [t]) (rows ++ [row]) := by
  have ntp : t ≠ p := fun q => by rw [q, hl] at ht; cases ht
  refine ⟨fun b o e => ?_, ?_, TupsAt.snoc (ta.keep fun q xs e => ?_) ?_⟩
  · rw [upd_ne (ne_of_none e hp), upd_ne (ne_of_none (s _ _ e) ht)]
    exact s _ _ e
  · rw [upd_same, List.map_append]
    rfl
  · rw [upd_ne (ne_of e hl (by intro z; cases z)), upd_ne (ne_of_none e ht)]
    exact e
  · rw [upd_ne ntp, upd_same]
structure TfAt (C : Addr) (H : Hp) (pt ls lp : Addr) (pas : List Addr) (t : Km347.Tariff) : Prop where
  ob : ∃ dx, H pt = some (.ins C dx (fs_Tariff (.ref ls) (.ref lp)))
  sg : H ls = some (.lst (t.single.map nv))
  pp : H lp = some (.lst (pas.map V.ref))
  ps : TupsAt H pas (t.passes.map passV)
  s8 : t.single.length = 8
  p3 : t.passes.length ≤ 3
theorem TfAt.same {C : Addr} {H H' : Hp} {pt ls lp : Addr} {pas : List Addr} {t : Km347.Tariff} (h : TfAt C H pt ls lp pas t) (s : Same H H') : TfAt C H' pt ls lp pas t :=
  ⟨let ⟨dx, e⟩ := h.ob; ⟨dx, s _ _ e⟩, s _ _ h.sg, s _ _ h.pp, h.ps.keep fun q xs e => s _ _ e, h.s8, h.p3⟩
theorem ones_pos {z : Nat} (h1 : 1 ≤ z) (h2 : z < 256) : 1 ≤ Km347.ones z ∧ Km347.ones z ≤ 8 := by
  constructor
  · by_cases q : 1 ≤ Km347.ones z
    · exact q
    · exfalso
      have e : ((List.range 8).filter fun i => z.testBit i) = [] := List.length_eq_zero_iff.mp (by unfold Km347.ones at q; omega)
      rw [List.filter_eq_nil_iff] at e
      have z0 : z = 0 := Nat.eq_of_testBit_eq fun i => by
        rw [Nat.zero_testBit]
        by_cases hi : i < 8
        · have := e i (List.mem_range.mpr hi)
          simpa using this
        · exact Nat.testBit_lt_two_pow (Nat.lt_of_lt_of_le h2 (Nat.le_trans (by decide : 256 ≤ 2 ^ 8) (Nat.pow_le_pow_right (by decide) (by omega))))
      omega
  · unfold Km347.ones
    have := List.length_filter_le (fun i => z.testBit i) (List.range 8)
    rw [List.length_range] at this
    exact this
def chV (c : Ch) : List V := [nv c.1, nv c.2.1, nv c.2.2]
def chF (rs : List Km347.Ride) (i : Nat) (r : Km347.Ride) (x : Nat × Km347.Pass) : Option Ch := if x.2.covers r.minute r = true then some (x.1 + 1, x.2.price, om (cvL rs i x.2 r.minute)) else none
def chT (t : Km347.Tariff) (rs : List Km347.Ride) (i : Nat) (r : Km347.Ride) (k : Nat) : List Ch := (0, t.alone r, B i) :: (((List.range t.passes.length).zip t.passes).take k).filterMap (chF rs i r)
theorem chT_step {t : Km347.Tariff} {rs : List Km347.Ride} {i k : Nat} {r : Km347.Ride} {p : Km347.Pass} (h : t.passes[k]? = some p) :
    chT t rs i r (k + 1) = if p.covers r.minute r = true then chT t rs i r k ++ [(k + 1, p.price, om (cvL rs i p r.minute))] else chT t rs i r k := by
  have hk := (List.getElem?_eq_some_iff.mp h).1
  have e : ((List.range t.passes.length).zip t.passes)[k]? = some (k, p) := List.getElem?_zip_eq_some.mpr ⟨by rw [List.getElem?_range hk], h⟩
  unfold chT
  rw [take_snoc e, List.filterMap_append, List.filterMap_cons, List.filterMap_nil]
  unfold chF
  by_cases c : p.covers r.minute r = true
  · rw [if_pos c, if_pos c]
    rfl
  · rw [if_neg c, if_neg c]
    simp
theorem chT_all (t : Km347.Tariff) (rs : List Km347.Ride) (i : Nat) (r : Km347.Ride) : chT t rs i r t.passes.length = chs t rs i r := by
  unfold chT chs
  rw [List.take_of_length_le (by simp)]
  rfl
theorem mark_cov {rs : List Km347.Ride} {i : Nat} {r : Km347.Ride} {p : Km347.Pass} (hn : rs.length ≤ 32) (hi : rs[i]? = some r) : (om (cvL rs i p r.minute) &&& B i = B i) ↔ p.covers r.minute r = true := by
  have hil := (List.getElem?_eq_some_iff.mp hi).1
  rw [mark_in, om_mem (cvL_le hn) (by omega), decide_eq_true_eq, mem_cvL]
  constructor
  · rintro ⟨_, x, h1, h2⟩
    rw [hi] at h1
    cases h1
    exact h2
  · intro h
    exact ⟨Nat.le_refl _, r, hi, h⟩
def spChoices (K : PySem.W.Frag) (a : Ad) : Sp := fun vs H Q _ => ∃ (pt ls lp d : Addr) (pas as : List Addr) (t : Km347.Tariff) (rs : List Km347.Ride) (i : Nat) (r : Km347.Ride), vs = [.ref pt, .ref d, nv i] ∧ TfAt a.c_Tariff H pt ls lp pas t ∧ H d = some (.lst (as.map V.ref)) ∧ RidesAt H as rs ∧
  rs.length ≤ 32 ∧ rs[i]? = some r ∧ 1 ≤ r.zones ∧ r.zones < 256 ∧ ∀ (H' : Hp) (p : Addr) (cas : List Addr), Same H H' → H p = none → H' p = some (.lst (cas.map V.ref)) → TupsAt H' cas ((chs t rs i r).map chV) → Q (.ref p) H'
theorem ok_z28 {a : Ad} (T : Tx K mg a) : FnOk P w K mg base CX0 3 a.f_z28 a.d_z28 ["tariff", "rides", "ride"] (spChoices K a) := by
  have G_z14 := ok_z14 (P := P) (w := w) (base := base) T
  have G_z41 := ok_z41 (P := P) (w := w) (base := base) T
  have G_z31 := ok_z31 (P := P) (w := w) (base := base) T
  refine T.F_z28.ok sc_z28 (fun vs H Q E h => ?_) (fun cdv A outer s H vs Q E hr h => ?_)
  · obtain ⟨pt, ls, lp, d, pas, as, t, rs, i, r, rfl, _⟩ := h
    rfl
  · obtain ⟨pt, ls, lp, d, pas, as, t, rs, i, r, rfl, tf, hd, ra, hn, hi, hz1, hz2, q⟩ := h
    refine ⟨_, (pss_cons (ps_set (i := 3) sc_z28.nd rfl (Or.inl rfl) (pe_op op_shl pe_int (pe_call G_z41 (hr.mono (by decide)) rfl T.m_z41 T.F_z41.kp T.b_z41 .nil pass0 (pa_cons (pv 2) pa_nil))))
      (pss_cons (ps_set (i := 4) sc_z28.nd rfl (Or.inl rfl) (pe_lst (pa_cons (pe_tup (pa_cons pe_int (pa_cons (pe_ix ix_list (pe_fld (pv 0) rfl) (pe_op op_sub (pe_call G_z31 (hr.mono (by decide)) rfl T.m_z31 T.F_z31.kp T.b_z31 .nil pass0 (pa_cons (pe_ix ix_tup (pe_ix ix_list (pv 1) (pv 2) (fun _ _ => rfl)) pe_int (fun _ _ => rfl)) pa_nil)) pe_int) (fun _ _ => rfl)) (pa_cons (pv 3) pa_nil)))) pa_nil)))
      (pss_cons (ps_for PassesOwn.never rfl (pi_enum rfl T.n_enumerate (pa_cons (pe_fld (pv 0) rfl) pa_nil)) (pg_tup rfl (pgs_cons (pg_name (i := 5) sc_z28.nd rfl (Or.inl rfl)) (pgs_cons (pg_name (i := 6) sc_z28.nd rfl (Or.inl rfl)) pgs_nil)))
        (pss_cons (ps_set (i := 7) sc_z28.nd rfl (Or.inl rfl) (pe_call G_z14 (hr.mono (by decide)) rfl T.m_z14 T.F_z14.kp T.b_z14 .nil pass0 (pa_cons (pv 1) (pa_cons (pv 2) (pa_cons (pe_ix ix_tup (pv 6) pe_int (fun _ _ => rfl)) (pa_cons (pe_ix ix_tup (pv 6) pe_int (fun _ _ => rfl)) pa_nil))))))
        (pss_one (ps_if (pt_cmpR op_eq (pe_op op_and (pv 7) (pv 3)) (pv 3) (nomark _))
          (pss_one (ps_expr (pe_bm PySem.F.plainAttrs_list PySem.F.slot_list_append PySem.F.type_list_append mt_append (pv 4) (pa_cons (pe_tup (pa_cons (pe_op op_add (pv 5) pe_int) (pa_cons (pe_ix ix_tup (pv 6) pe_int (fun _ _ => rfl)) (pa_cons (pv 7) pa_nil)))) pa_nil))))
          pss_nil))))
      (pss_one (ps_ret (pv 4)))))), ?_⟩
    obtain ⟨dx, ob⟩ := tf.ob
    have hil := (List.getElem?_eq_some_iff.mp hi).1
    obtain ⟨o1, o2⟩ := ones_pos hz1 hz2
    obtain ⟨t0, ht0, hq0⟩ := ra.at hi
    have hmark : (1 : Int) * 2 ^ ((pl i : Nat) : Int).toNat = ((B i : Nat) : Int) := shl_B i _ rfl
    refine ⟨_, rfl, i, rfl, by omega, _, _, rfl, rfl, ⟨by show (0 : Int) ≤ _; omega, by have := pl_le i; show ((pl i : Nat) : Int) ≤ 1000000; omega, by decide⟩, ?_⟩
    refine ⟨_, rfl, pt, _, dx, _, _, rfl, ob, T.cl_Tariff, T.na_Tariff_single, lk_Tariff_single, _, rfl, _, rfl, d, _, _, _, rfl, rfl, SqL.of hd, atI_nat (get_map ht0), t0, _, _, _, rfl, rfl, SqT.of hq0, atI_nat (j := 1) rfl, r.zones, rfl, fun H1 s1 => ?_⟩
    have hal : (t.single.map nv)[Km347.ones r.zones - 1]? = some (nv (t.alone r)) := by
      refine get_map ?_
      unfold Km347.Tariff.alone
      exact getD_get (by rw [tf.s8]; omega)
    refine ⟨_, _, rfl, rfl, ls, _, _, _, rfl, rfl, SqL.of (s1 _ _ tf.sg), at_of (j := Km347.ones r.zones - 1) (by omega) hal, _, rfl, (by show 3 ≤ sizeLine; decide), fun tt htt => ⟨(by show 1 ≤ sizeLine; decide), fun p hp => ?_⟩⟩
    have ntp : tt ≠ p := fun z => by rw [z, upd_same] at hp; cases hp
    have hp1 : H1 p = none := by
      rw [upd_ne ntp.symm] at hp
      exact hp
    have s2 : Same H (upd (upd H1 tt (.tup [.int 0, nv (t.alone r), .int ((1 : Int) * 2 ^ ((pl i : Nat) : Int).toNat)])) p (.lst [.ref tt])) := fun b o e => by
      rw [upd_ne (ne_of_none (s1 _ _ e) hp1), upd_ne (ne_of_none (s1 _ _ e) htt)]
      exact s1 _ _ e
    refine ⟨_, rfl, pt, _, dx, _, _, rfl, s2 _ _ ob, T.cl_Tariff, T.na_Tariff_passes, lk_Tariff_passes, lp, _, rfl, SqL.of (s2 _ _ tf.pp), ?_⟩
    have plen : pas.length = t.passes.length := by
      rw [tf.ps.1, List.length_map]
    refine for_enum (K := K) (a := lp) (xs := pas.map V.ref) (fun k σ H' => ∃ (v5 v6 v7 : Option V) (cas : List Addr), σ = [some (.ref pt), some (.ref d), some (nv i), some (nv (B i)), some (.ref p), v5, v6, v7] ∧ Same H H' ∧ H' p = some (.lst (cas.map V.ref)) ∧ TupsAt H' cas ((chT t rs i r k).map chV))
      ⟨none, none, none, [tt], ?_, s2, upd_same, ?_⟩ (fun k σ H' _ ⟨_, _, _, _, _, s, _⟩ => SqL.of (s _ _ tf.pp)) ?_ ?_
    · exact congrArg (fun z => [some (V.ref pt), some (V.ref d), some (nv i), some (V.int z), some (V.ref p), none, none, none]) hmark
    · refine TupsAt.snoc (as := []) (rows := []) TupsAt.nil ?_
      rw [upd_ne ntp, upd_same]
      exact congrArg (fun z => some (HO.tup [V.int 0, nv (t.alone r), V.int z])) hmark
    · rintro k y σ H' TT hk ⟨v5, v6, v7, cas, rfl, s3, hpl, ta⟩ hTT
      obtain ⟨qa, hqa, rfl⟩ := map_get hk
      have hkl : k < t.passes.length := by
        rw [← plen]
        exact (List.getElem?_eq_some_iff.mp hqa).1
      obtain ⟨x, hx⟩ : ∃ x, t.passes[k]? = some x := ⟨_, List.getElem?_eq_getElem hkl⟩
      obtain ⟨qb, hqb, hpt⟩ := tf.ps.2 k _ (get_map hx)
      rw [hqa] at hqb
      cases hqb
      have s4 : Same H' (upd H' TT (.tup [.int (k : Nat), .ref qa])) := Same.new hTT
      have s5 := s3.trans s4
      have hqt := s5 _ _ hpt
      refine ⟨TT, _, rfl, SqT.of upd_same, rfl, _, _, rfl, _, _, rfl, rfl, ?_⟩
      refine ⟨_, rfl, _, rfl, _, rfl, qa, _, _, _, rfl, rfl, SqT.of hqt, atI_nat (j := 1) rfl, _, rfl, qa, _, _, _, rfl, rfl, SqT.of hqt, atI_nat (j := 2) rfl,
        d, as, rs, i, r, x, rfl, SqL.of (s5 _ _ hd), ra.keep (fun q xs e => s5 _ _ e), hn, hi, ?_⟩
      refine ⟨_, rfl, _, rfl, _, _, rfl, rfl, _, rfl, rfl, _, rfl, iteD (fun c => ?_) (fun c => ?_)⟩
      · have c := eqI_t c
        rw [band] at c
        have c := (mark_cov (p := x) hn hi).mp (by omega)
        refine ⟨_, rfl, .inl ⟨rfl, _, SqL.of (s4 _ _ hpl)⟩, _, rfl, _, _, rfl, rfl, _, rfl, qa, _, _, _, rfl, rfl, SqT.of hqt, atI_nat (j := 0) rfl, _, rfl, (by show 3 ≤ sizeLine; decide), fun t5 ht5 => ?_⟩
        refine ⟨p, cas.map V.ref, _, rfl, rfl, ?_, ?_, ?_⟩
        · rw [upd_ne (ne_of_none (s4 _ _ hpl) ht5)]
          exact s4 _ _ hpl
        · rw [List.length_map, ta.1, List.length_map]
          unfold chT
          rw [List.length_cons]
          have l1 := List.length_filterMap_le (chF rs i r) (((List.range t.passes.length).zip t.passes).take k)
          have l2 := List.length_take_le k ((List.range t.passes.length).zip t.passes)
          have l3 := tf.p3
          exact Nat.lt_of_le_of_lt (show _ ≤ 4 by omega) (by decide)
        · obtain ⟨g1, g2, g3⟩ := grow (row := chV (k + 1, x.price, om (cvL rs i x r.minute))) s5 (s1.free hp1) (s4 _ _ hpl) (ta.keep fun q xs e => s4 _ _ e) ht5
          refine ⟨_, _, _, cas ++ [t5], rfl, g1, g2, ?_⟩
          rw [chT_step hx, if_pos c, List.map_append]
          exact g3
      · have c := eqI_f c
        rw [band] at c
        have c : ¬ x.covers r.minute r = true := fun z => c (by rw [(mark_cov (p := x) hn hi).mpr z])
        refine ⟨_, _, _, cas, rfl, s5, s4 _ _ hpl, ?_⟩
        rw [chT_step hx, if_neg c]
        exact ta.keep fun q xs e => s4 _ _ e
    · rintro σ H' ⟨v5, v6, v7, cas, rfl, s3, hpl, ta⟩
      rw [List.length_map, plen, chT_all] at ta
      exact ⟨_, rfl, q H' p cas s3 (s1.free hp1) hpl ta⟩
end
end Fb
namespace Fb
open PySem PySem.Spec PyProof.Rows L2
def WT (H : Hp) : List (Key × V) → List En → Prop := Paired fun kv e => kv.1 = Sum.inl ((e.1 : Nat) : Int) ∧ ∃ q, kv.2 = .ref q ∧ H q = some (.tup [nv e.2.1, nv e.2.2])
theorem WT.keep {H H' : Hp} {kvs : List (Key × V)} {L : List En} (h : WT H kvs L) (k : ∀ q xs, H q = some (.tup xs) → H' q = some (.tup xs)) : WT H' kvs L :=
  Paired.mapP h fun _ _ ⟨e, q, e1, e2⟩ => ⟨e, q, e1, k _ _ e2⟩
theorem WT.len {H : Hp} {kvs : List (Key × V)} {L : List En} (h : WT H kvs L) : kvs.length = L.length := Paired.length h
theorem inl_nat {a b : Nat} : ((Sum.inl (a : Int) : Key) = Sum.inl (b : Int)) ↔ a = b := by
  constructor
  · intro h
    have := Sum.inl.inj h
    omega
  · intro h
    rw [h]
theorem WT.look {H : Hp} {kvs : List (Key × V)} {L : List En} (h : WT H kvs L) (m : Nat) :
    (valV kvs (Sum.inl (m : Int)) = none ∧ look L m = none) ∨ ∃ q w, valV kvs (Sum.inl (m : Int)) = some (.ref q) ∧ look L m = some w ∧ H q = some (.tup [nv w.1, nv w.2]) := by
  unfold WT at h
  induction h with
  | nil => exact .inl ⟨rfl, rfl⟩
  | @cons kv e ks es hr ht ih =>
    obtain ⟨e1, q, e2, e3⟩ := hr
    by_cases z : e.1 = m
    · refine .inr ⟨q, e.2, ?_, ?_, e3⟩
      · rw [valV_pos (by rw [e1, z]), e2]
      · unfold Fb.look
        rw [List.find?_cons, decide_eq_true z]
        rfl
    · have y : ¬ kv.1 = Sum.inl (m : Int) := by
        rw [e1]
        exact fun w => z (inl_nat.mp w)
      have l1 : Fb.look (e :: es) m = Fb.look es m := by
        unfold Fb.look
        rw [List.find?_cons, decide_eq_false z]
      rw [valV_neg y, l1]
      exact ih
theorem WT.any {H : Hp} {kvs : List (Key × V)} {L : List En} (h : WT H kvs L) (m : Nat) : (kvs.any fun kv => decide (kv.1 = Sum.inl (m : Int))) = L.any fun e => decide (e.1 = m) := by
  unfold WT at h
  induction h with
  | nil => rfl
  | @cons kv e ks es hr ht ih =>
    rw [List.any_cons, List.any_cons, ih, hr.1]
    congr 1
    exact decide_eq_decide.mpr inl_nat
theorem WT.put {H : Hp} {kvs : List (Key × V)} {L : List En} (h : WT H kvs L) {c : En} {q : Addr} (hq : H q = some (.tup [nv c.2.1, nv c.2.2])) : WT H (putK kvs (Sum.inl (c.1 : Int)) (.ref q)) (putE L c) := by
  unfold putK putE
  rw [h.any c.1]
  by_cases z : (L.any fun e => decide (e.1 = c.1)) = true
  · rw [if_pos z, if_pos z]
    clear z
    unfold WT at h ⊢
    induction h with
    | nil => exact .nil
    | @cons kv e ks es hr ht ih =>
      rw [List.map_cons, List.map_cons]
      refine .cons ?_ ih
      by_cases y : e.1 = c.1
      · rw [if_pos (by rw [hr.1, y]), if_pos y]
        exact ⟨by rw [hr.1, y], q, rfl, hq⟩
      · rw [if_neg (by rw [hr.1]; exact fun w => y (inl_nat.mp w)), if_neg y]
        exact hr
  · rw [if_neg z, if_neg z]
    exact Paired.snoc h ⟨rfl, q, rfl, hq⟩
theorem lex_lt2 (a b : Nat × Nat) : HT.lexLt [(a.1 : Int), (a.2 : Int)] [(b.1 : Int), (b.2 : Int)] = lt2 a b := by
  rw [HT.lexLt_cons, HT.lexLt_cons, HT.lexLt_nil_nil]
  unfold lt2
  by_cases h1 : a.1 = b.1
  · rw [if_pos (by omega)]
    by_cases h2 : a.2 = b.2
    · rw [if_pos (by omega)]
      exact (decide_eq_false (by omega)).symm
    · rw [if_neg (by omega)]
      exact decide_eq_decide.mpr (by omega)
  · rw [if_neg (by omega)]
    exact decide_eq_decide.mpr (by omega)
theorem fold_ok : ∀ (S acc P : List En), (acc.map (·.1)).Nodup → Dom P acc → (∀ b ∈ acc, b ∈ P) → ((S.foldl kb acc).map (·.1)).Nodup ∧ Dom (P ++ S) (S.foldl kb acc) ∧ ∀ b ∈ S.foldl kb acc, b ∈ P ++ S
  | [], acc, P, h1, h2, h3 => by
    rw [List.append_nil]
    exact ⟨h1, h2, h3⟩
  | c :: S, acc, P, h1, h2, h3 => by
    have ih := fold_ok S (kb acc c) (P ++ [c]) (kb_nodup h1) (kb_dom h1 h2) fun b hb => by
      rcases kb_mem hb with z | z
      · exact List.mem_append_left _ (h3 b z)
      · rw [z]
        simp
    rw [List.append_assoc] at ih
    exact ih
theorem tab_ok (S : List En) : ((S.foldl kb []).map (·.1)).Nodup ∧ Dom S (S.foldl kb []) ∧ ∀ b ∈ S.foldl kb [], b ∈ S := by
  have h := fold_ok S [] [] (by simp) (fun c hc => by cases hc) fun b hb => by cases hb
  rw [List.nil_append] at h
  exact h
theorem tab_few {t : Km347.Tariff} {rs : List Km347.Ride} {i : Nat} {S : List En} (h : ∀ c ∈ S, KeyF t rs i c.1) : (S.foldl kb []).length ≤ 35937 := by
  obtain ⟨h1, _, h3⟩ := tab_ok S
  exact keys_few h1 fun e he => h e (h3 e he)
section
variable {P : Program} {w : World} {K : PySem.W.Frag} {mg : Str → Option Value} {base : Heap}
def spKeep : Sp := fun vs H Q _ => ∃ (d q : Addr) (kvs : List (Key × V)) (L : List En) (c : En), vs = [.ref d, nv c.1, .ref q] ∧ H d = some (.dK kvs) ∧ WT H kvs L ∧ H q = some (.tup [nv c.2.1, nv c.2.2]) ∧ L.length ≤ 35937 ∧
  ∀ (H' : Hp) (kvs' : List (Key × V)), Fr [d] H H' → H' d = some (.dK kvs') → WT H' kvs' (kb L c) → Q .non H'
theorem ok_z19 {a : Ad} (T : Tx K mg a) : FnOk P w K mg base CX0 1 a.f_z19 a.d_z19 ["ways", "paid", "way"] (spKeep) := by
  refine T.F_z19.ok sc_z19 (fun vs H Q E h => ?_) (fun cdv A outer s H vs Q E hr h => ?_)
  · obtain ⟨d, q, kvs, L, c, rfl, _⟩ := h
    rfl
  · obtain ⟨d, q, kvs, L, c, rfl, hd, wt, hq, few, k⟩ := h
    have hu := hu_of hr
    refine ⟨_, (pss_one (ps_if (PW.pt (pw_or (pt_cmp (pc_dnotin hu (pv 1) (pv 0))) (pw_or1 (pt_cmpR (op_ltT (Nat.lt_of_succ_lt hu)) (pv 2) (pe_dget hu (pv 0) (pv 1) (fun _ _ => rfl)) (nomark _)))))
        (pss_one (ps_dput hu (pv 0) (pv 1) (pv 2) rfl))
        pss_nil)), ?_⟩
    have small : kvs.length < sizeLine := by
      rw [wt.len]
      exact Nat.lt_of_le_of_lt few (by decide)
    have nqd : q ≠ d := ne_of hq hd (by intro z; cases z)
    have put : ∀ H', H' = upd H d (.dK (putK kvs (Sum.inl (c.1 : Int)) (.ref q))) → kb L c = putE L c → Q .non H' := fun H' e e2 => by
      subst e
      refine k _ _ (Fr.upd (List.mem_singleton.mpr rfl)) upd_same ?_
      rw [e2]
      exact (wt.put hq).keep fun b xs e => by
        rw [upd_ne (ne_of e hd (by intro z; cases z))]
        exact e
    refine ⟨_, rfl, _, rfl, d, _, rfl, DGet.k (k := Sum.inl (c.1 : Int)) hd, _, rfl, ?_⟩
    rcases wt.look c.1 with ⟨v1, l1⟩ | ⟨b, w', v1, l1, hb⟩
    · rw [v1]
      refine iteT (iteT ?_)
      refine ⟨_, rfl, _, rfl, _, rfl, d, _, rfl, DPut.k (k := Sum.inl (c.1 : Int)) hd small, put _ rfl ?_⟩
      unfold kb
      rw [l1]
    · rw [v1]
      refine iteF ?_
      have g := DGet.k (k := Sum.inl (c.1 : Int)) hd
      rw [v1] at g
      refine ⟨_, rfl, _, rfl, _, rfl, d, _, rfl, g, q, b, [(c.2.1 : Int), (c.2.2 : Int)], [(w'.1 : Int), (w'.2 : Int)], rfl, rfl, SqT.of hq, SqT.of hb, _, rfl, ?_⟩
      rw [lex_lt2 c.2 w']
      refine iteD (fun z => ?_) (fun z => ?_)
      · refine ⟨_, rfl, _, rfl, _, rfl, d, _, rfl, DPut.k (k := Sum.inl (c.1 : Int)) hd small, put _ rfl ?_⟩
        unfold kb
        rw [l1]
        exact if_pos z
      · refine k H kvs (fun _ _ e _ => e) hd ?_
        have e2 : kb L c = L := by
          unfold kb
          rw [l1]
          exact if_neg (by rw [z]; exact Bool.false_ne_true)
        rw [e2]
        exact wt
theorem WT.at {H : Hp} {kvs : List (Key × V)} {L : List En} (h : WT H kvs L) {j : Nat} {k : Key} {v : V} (e : kvs[j]? = some (k, v)) : ∃ x q, L[j]? = some x ∧ k = Sum.inl ((x.1 : Nat) : Int) ∧ v = .ref q ∧ H q = some (.tup [nv x.2.1, nv x.2.2]) := by
  obtain ⟨x, hx, e1, q, e2, e3⟩ := paired_get h e
  exact ⟨x, q, hx, e1, e2, e3⟩
def But (d0 : Addr) (H H' : Hp) : Prop := ∀ b o, H b = some o → b ≠ d0 → H' b = some o
def spBehind (a : Ad) : Sp := fun vs H Q _ => ∃ (d0 lc : Addr) (kvs : List (Key × V)) (L : List En) (cas : List Addr) (t : Km347.Tariff) (rs : List Km347.Ride) (i : Nat) (r : Km347.Ride), vs = [.ref d0, nv (B i), .ref lc] ∧ H d0 = some (.dK kvs) ∧ WT H kvs L ∧ H lc = some (.lst (cas.map V.ref)) ∧
  TupsAt H cas ((chs t rs i r).map chV) ∧ rs.length ≤ 32 ∧ t.passes.length ≤ 3 ∧ Sorted rs ∧ rs[i]? = some r ∧ (∀ e ∈ L, KeyF t rs i e.1) ∧
  ∀ (H' : Hp) (p : Addr) (kvs' : List (Key × V)), Same H H' → H p = none → H' p = some (.dK kvs') → WT H' kvs' ((L.flatMap (cands (chs t rs i r) i)).foldl kb []) → Q (.ref p) H'
theorem flat_snoc {L : List En} {j : Nat} {e : En} {f : En → List En} (h : L[j]? = some e) : (L.take (j + 1)).flatMap f = (L.take j).flatMap f ++ f e := by
  rw [take_snoc h, List.flatMap_append, List.flatMap_cons, List.flatMap_nil, List.append_nil]
theorem ok_z17 {a : Ad} (T : Tx K mg a) : FnOk P w K mg base CX0 2 a.f_z17 a.d_z17 ["ways", "mark", "choices"] (spBehind a) := by
  have G_z19 := ok_z19 (P := P) (w := w) (base := base) T
  refine T.F_z17.ok sc_z17 (fun vs H Q E h => ?_) (fun cdv A outer s H vs Q E hr h => ?_)
  · obtain ⟨d0, lc, kvs, L, cas, t, rs, i, r, rfl, _⟩ := h
    rfl
  · obtain ⟨d0, lc, kvs, L, cas, t, rs, i, r, rfl, hd, wt, hlc, tc, hn, hp3, hso, hi, kf, q⟩ := h
    have hu := hu_of hr
    refine ⟨_, (pss_cons (ps_set (i := 3) sc_z17.nd rfl (Or.inl rfl) pe_dnewK)
      (pss_cons (ps_lock (ps_for PassesOwn.never rfl (pi_items (pv 0)) (pg_tup rfl (pgs_cons (pg_name (i := 4) sc_z17.nd rfl (Or.inl rfl)) (pgs_cons (pg_name (i := 5) sc_z17.nd rfl (Or.inl rfl)) pgs_nil)))
        (pss_one (ps_if (pt_cmpR op_eq (pe_op op_and (pv 4) (pv 1)) (pv 1) (nomark _))
          (pss_one (ps_expr (pe_call G_z19 (hr.mono (by decide)) rfl T.m_z19 T.F_z19.kp T.b_z19 .nil pass0 (pa_cons (pv 3) (pa_cons (pv 4) (pa_cons (pv 5) pa_nil))))))
          (pss_one (ps_for PassesOwn.never rfl (pi_list (pv 2)) (pg_tup rfl (pgs_cons (pg_name (i := 6) sc_z17.nd rfl (Or.inl rfl)) (pgs_cons (pg_name (i := 7) sc_z17.nd rfl (Or.inl rfl)) (pgs_cons (pg_name (i := 8) sc_z17.nd rfl (Or.inl rfl)) pgs_nil))))
            (pss_cons (ps_set (i := 9) sc_z17.nd rfl (Or.inl rfl) (pe_op op_and (pv 8) (pe_un un_inv (pv 4))))
            (pss_one (ps_expr (pe_call G_z19 (hr.mono (by decide)) rfl T.m_z19 T.F_z19.kp T.b_z19 .nil pass0 (pa_cons (pv 3) (pa_cons (pe_op op_or (pv 4) (pv 8)) (pa_cons (pe_tup (pa_cons (pe_op op_add (pe_ix ix_tup (pv 5) pe_int (fun _ _ => rfl)) (pv 7)) (pa_cons (pe_op op_add (pe_ix ix_tup (pv 5) pe_int (fun _ _ => rfl)) (pe_op op_mul (pv 6) (pv 9))) pa_nil))) pa_nil)))))))))))))
      (pss_one (ps_ret (pv 3))))), ?_⟩
    have hil := (List.getElem?_eq_some_iff.mp hi).1
    have keys : ∀ (S : List En) (e : En), e ∈ L → (∀ c ∈ S, c ∈ L.flatMap (cands (chs t rs i r) i)) → (S.foldl kb []).length ≤ 35937 := fun S e he hS => tab_few (t := t) (rs := rs) (i := i + 1) fun c hc => by
      obtain ⟨x, hx, hcx⟩ := List.mem_flatMap.mp (hS c hc)
      exact key_step hn hp3 hso hi (kf x hx) hcx
    intro p hp
    have npd : d0 ≠ p := ne_of_none hd hp
    refine ⟨d0, .dK kvs, (by rw [upd_ne npd]; exact hd), True.intro, fun od => ?_⟩
    have nlcd : lc ≠ d0 := ne_of hlc hd (by intro z; cases z)
    have free0 : ∀ {H' : Hp} {b : Addr}, But d0 H H' → H' d0 = some (.frz od (.dK kvs)) → H' b = none → H b = none := fun {H' b} bu hf hb => by
      cases z : H b with
      | none => rfl
      | some o =>
        by_cases e : b = d0
        · rw [e, hf] at hb
          cases hb
        · rw [bu b o z e] at hb
          cases hb
    refine ⟨_, rfl, d0, od, kvs, rfl, upd_same, ?_⟩
    refine for_items (d := d0) (o := od) (kvs := kvs) (fun j σ H' => ∃ (v4 v5 v6 v7 v8 v9 : Option V) (kvs' : List (Key × V)), σ = [some (.ref d0), some (nv (B i)), some (.ref lc), some (.ref p), v4, v5, v6, v7, v8, v9] ∧ But d0 H H' ∧ H' d0 = some (.frz od (.dK kvs)) ∧ H' p = some (.dK kvs') ∧
        WT H' kvs' (((L.take j).flatMap (cands (chs t rs i r) i)).foldl kb []))
      ⟨none, none, none, none, none, none, [], rfl, fun b o e n => ?_, upd_same, ?_, .nil⟩ (fun j σ H' _ ⟨_, _, _, _, _, _, _, _, _, h, _⟩ => h) ?_ ?_
    · rw [upd_ne n, upd_ne (ne_of_none e hp)]
      exact e
    · rw [upd_ne npd.symm, upd_same]
    · rintro j k v σ H' TT hkv ⟨v4, v5, v6, v7, v8, v9, kvs', rfl, bu, hf, hpk, wt'⟩ hTT
      obtain ⟨e, qa, he, rfl, rfl, hqa⟩ := wt.at hkv
      have heL := List.mem_of_getElem? he
      rw [flat_snoc he]
      have s4 : Same H' (upd H' TT (.tup [nv e.1, .ref qa])) := Same.new hTT
      have nqd : qa ≠ d0 := ne_of hqa hd (by intro z; cases z)
      have bu4 : But d0 H (upd H' TT (.tup [nv e.1, .ref qa])) := fun b o z n => s4 _ _ (bu b o z n)
      have hq4 := bu4 _ _ hqa nqd
      refine ⟨TT, _, rfl, SqT.of upd_same, rfl, _, _, rfl, _, _, rfl, rfl, ?_⟩
      have pre : ∀ c ∈ (L.take j).flatMap (cands (chs t rs i r) i), c ∈ L.flatMap (cands (chs t rs i r) i) := fun c hc => by
        obtain ⟨x, hx, hcx⟩ := List.mem_flatMap.mp hc
        exact List.mem_flatMap.mpr ⟨x, List.mem_of_mem_take hx, hcx⟩
      have step : ∀ {H2 H3 : Hp} {kvs3 : List (Key × V)}, But d0 H H2 → H2 d0 = some (.frz od (.dK kvs)) → Fr [p] H2 H3 → But d0 H H3 ∧ H3 d0 = some (.frz od (.dK kvs)) := fun {H2 H3 _} b2 f2 fr => by
        have nm : d0 ∉ [p] := fun z => npd (List.mem_singleton.mp z)
        exact ⟨fun b o z n => fr _ _ (b2 b o z n) (fun y => by rw [List.mem_singleton.mp y, hp] at z; cases z), fr _ _ f2 nm⟩
      refine ⟨_, rfl, _, rfl, _, _, rfl, rfl, _, rfl, rfl, _, rfl, iteD (fun c => ?_) (fun c => ?_)⟩
      · have c := eqI_t c
        rw [band] at c
        have c := (mark_in e.1 i).mp (by omega)
        have ec : cands (chs t rs i r) i e = [e] := by
          unfold cands
          rw [if_pos c]
        rw [ec, List.foldl_append]
        refine ⟨_, rfl, _, rfl, _, rfl, p, qa, kvs', _, e, rfl, s4 _ _ hpk, wt'.keep (fun b xs z => s4 _ _ z), hq4, keys _ e heL pre, fun H2 kvs2 fr h2 w2 => ?_⟩
        obtain ⟨b3, f3⟩ := step (kvs3 := kvs2) bu4 (s4 _ _ hf) fr
        exact ⟨_, _, v6, v7, v8, v9, kvs2, rfl, b3, f3, h2, w2⟩
      · have c := eqI_f c
        rw [band] at c
        have c : ¬ e.1.testBit (pl i) = true := fun z => c (by rw [(mark_in e.1 i).mpr z])
        have ec : cands (chs t rs i r) i e = (chs t rs i r).map fun c => cand c e := by
          unfold cands
          rw [if_neg c]
        rw [ec]
        have S4 : SqL K (upd H' TT (.tup [nv e.1, .ref qa])) lc (cas.map V.ref) := SqL.of (bu4 _ _ hlc nlcd)
        refine ⟨_, rfl, lc, rfl, ⟨_, S4⟩, ?_⟩
        refine for_list (K := K) (a := lc) (xs := cas.map V.ref) (fun jj σ H2 => ∃ (v6 v7 v8 v9 : Option V) (kvs2 : List (Key × V)), σ = [some (.ref d0), some (nv (B i)), some (.ref lc), some (.ref p), some (nv e.1), some (.ref qa), v6, v7, v8, v9] ∧ But d0 H H2 ∧ H2 d0 = some (.frz od (.dK kvs)) ∧
            H2 p = some (.dK kvs2) ∧ WT H2 kvs2 (((L.take j).flatMap (cands (chs t rs i r) i) ++ ((chs t rs i r).take jj).map fun c => cand c e).foldl kb []))
          ⟨v6, v7, v8, v9, kvs', rfl, bu4, s4 _ _ hf, s4 _ _ hpk, ?_⟩ (fun jj σ H2 _ ⟨_, _, _, _, _, _, b2, _⟩ => SqL.of (b2 _ _ hlc nlcd)) ?_ ?_
        · rw [List.take_zero, List.map_nil, List.append_nil]
          exact wt'.keep fun b xs z => s4 _ _ z
        · rintro jj y σ H2 hjj ⟨u6, u7, u8, u9, kvs2, rfl, b2, f2, hp2, w2⟩
          obtain ⟨qc, hqc, rfl⟩ := map_get hjj
          have hjl : jj < (chs t rs i r).length := by
            have l1 := tc.1
            rw [List.length_map] at l1
            rw [← l1]
            exact (List.getElem?_eq_some_iff.mp hqc).1
          obtain ⟨ch, hch⟩ : ∃ ch, (chs t rs i r)[jj]? = some ch := ⟨_, List.getElem?_eq_getElem hjl⟩
          obtain ⟨qc', hqc', hct⟩ := tc.2 jj _ (get_map hch)
          rw [hqc] at hqc'
          cases hqc'
          have nqc : qc ≠ d0 := ne_of hct hd (by intro z; cases z)
          have hct2 := b2 _ _ hct nqc
          have hqa2 := b2 _ _ hqa nqd
          refine ⟨qc, _, rfl, SqT.of hct2, rfl, _, _, rfl, _, _, rfl, _, _, rfl, rfl, ?_⟩
          refine ⟨_, rfl, _, rfl, _, rfl, _, _, rfl, rfl, ?_⟩
          have hmem := mem_chs.mp (List.mem_of_getElem? hch)
          have ch3 : ch.1 ≤ 3 := by
            rcases hmem with z | ⟨k, pp, hk, _, z⟩
            · rw [z]
              exact Nat.zero_le _
            · rw [z]
              have := (List.getElem?_eq_some_iff.mp hk).1
              show k + 1 ≤ 3
              omega
          have eor := bor e.1 ch.2.2
          have eand := band_not ch.2.2 e.1
          refine ⟨_, rfl, _, rfl, _, rfl, _, _, rfl, rfl, _, rfl, qa, _, _, _, rfl, rfl, SqT.of hqa2, atI_nat (j := 0) rfl, _, rfl, _, _, rfl, rfl, _, rfl, qa, _, _, _, rfl, rfl, SqT.of hqa2, atI_nat (j := 1) rfl, _, rfl, _, rfl, _, _, rfl, rfl,
            .inl ⟨by show -(2 ^ 64) < ((ch.1 : Nat) : Int); omega, by show ((ch.1 : Nat) : Int) < 2 ^ 64; omega⟩, _, _, rfl, rfl, (by show 2 ≤ sizeLine; decide), fun t5 ht5 => ?_⟩
          have s5 : Same H2 (upd H2 t5 (.tup [.int ((e.2.1 : Int) + (ch.2.1 : Int)), .int ((e.2.2 : Int) + (ch.1 : Int) * Builtin.bitAnd (ch.2.2 : Int) (Builtin.bitNot (e.1 : Int)))])) := Same.new ht5
          have b5 : But d0 H _ := fun b o z n => s5 _ _ (b2 b o z n)
          refine ⟨p, t5, kvs2, _, cand ch e, congrArg (fun z => [V.ref p, V.int z, V.ref t5]) eor, s5 _ _ hp2, w2.keep (fun b xs z => s5 _ _ z), ?_, keys _ e heL ?_, fun H3 kvs3 fr h3 w3 => ?_⟩
          · rw [upd_same]
            unfold cand
            have e1 : (e.2.1 : Int) + (ch.2.1 : Int) = ((e.2.1 + ch.2.1 : Nat) : Int) := by omega
            have e2 : (e.2.2 : Int) + (ch.1 : Int) * Builtin.bitAnd (ch.2.2 : Int) (Builtin.bitNot (e.1 : Int)) = ((e.2.2 + ch.1 * Fb.without ch.2.2 e.1 : Nat) : Int) := by
              rw [eand, Int.natCast_add, Int.natCast_mul]
            show some (HO.tup [V.int ((e.2.1 : Int) + (ch.2.1 : Int)), V.int ((e.2.2 : Int) + (ch.1 : Int) * Builtin.bitAnd (ch.2.2 : Int) (Builtin.bitNot (e.1 : Int)))]) = _
            rw [e1, e2]
          · intro x hx
            rcases List.mem_append.mp hx with z | z
            · exact pre x z
            · obtain ⟨c2, hc2, rfl⟩ := List.mem_map.mp z
              refine List.mem_flatMap.mpr ⟨e, heL, ?_⟩
              rw [ec]
              exact List.mem_map.mpr ⟨c2, List.mem_of_mem_take hc2, rfl⟩
          · obtain ⟨b6, f6⟩ := step (kvs3 := kvs3) b5 (s5 _ _ f2) fr
            refine ⟨_, _, _, _, kvs3, rfl, b6, f6, h3, ?_⟩
            rw [take_snoc hch, List.map_append, ← List.append_assoc, List.foldl_append]
            exact w3
        · rintro σ H2 ⟨u6, u7, u8, u9, kvs2, rfl, b2, f2, hp2, w2⟩
          have l1 := tc.1
          rw [List.length_map] at l1
          rw [List.length_map, l1, List.take_length] at w2
          exact ⟨_, _, u6, u7, u8, u9, kvs2, rfl, b2, f2, hp2, w2⟩
    · rintro σ H' ⟨v4, v5, v6, v7, v8, v9, kvs', rfl, bu, hf, hpk, wt'⟩
      rw [wt.len, List.take_length] at wt'
      refine ⟨hf, _, rfl, q _ p kvs' (fun b o z => ?_) hp ?_ (wt'.keep fun b xs z => ?_)⟩
      · by_cases y : b = d0
        · rw [y, upd_same]
          rw [y, hd] at z
          exact z
        · rw [upd_ne y]
          exact bu b o z y
      · rw [upd_ne npd.symm]
        exact hpk
      · rw [upd_ne (ne_of z hf (by intro y; cases y))]
        exact z
end
end Fb
namespace Fb
open PySem PySem.Spec PyProof.Rows L2
section
variable {P : Program} {w : World} {K : PySem.W.Frag} {mg : Str → Option Value} {base : Heap}
def rowI (H : Hp) (q : Addr) : List Int := match H q with
  | some (.tup xs) => xs.map fun v => match v with
    | .int z => z
    | _ => 0
  | _ => []
theorem WT.refs {H : Hp} {kvs : List (Key × V)} {L : List En} (h : WT H kvs L) : ∃ as : List Addr, kvs.map (·.2) = as.map V.ref ∧ as.length = L.length ∧ (∀ q ∈ as, ∃ e ∈ L, H q = some (.tup [nv e.2.1, nv e.2.2])) ∧ ∀ e ∈ L, ∃ q ∈ as, H q = some (.tup [nv e.2.1, nv e.2.2]) := by
  unfold WT at h
  induction h with
  | nil => exact ⟨[], rfl, rfl, (fun q hq => by cases hq), (fun e he => by cases he)⟩
  | @cons kv e ks es hr ht ih =>
    obtain ⟨as, h1, h2, h3, h4⟩ := ih
    obtain ⟨_, q, e2, e3⟩ := hr
    refine ⟨q :: as, by rw [List.map_cons, List.map_cons, h1, e2], by rw [List.length_cons, List.length_cons, h2], fun b hb => ?_, fun x hx => ?_⟩
    · rcases List.mem_cons.mp hb with z | z
      · rw [z]
        exact ⟨e, List.mem_cons_self .., e3⟩
      · obtain ⟨x, hx, y⟩ := h3 b z
        exact ⟨x, List.mem_cons_of_mem _ hx, y⟩
    · rcases List.mem_cons.mp hx with z | z
      · rw [z]
        exact ⟨q, List.mem_cons_self .., e3⟩
      · obtain ⟨b, hb, y⟩ := h4 x z
        exact ⟨b, List.mem_cons_of_mem _ hb, y⟩
theorem lt2_false {a b : Nat × Nat} (h : lt2 a b = false) : le2 b a := by
  have h := of_decide_eq_false h
  unfold le2
  omega
def spBest (K : PySem.W.Frag) (a : Ad) : Sp := fun vs H Q _ => ∃ (pt ls lp d : Addr) (pas as : List Addr) (t : Km347.Tariff) (rs : List Km347.Ride), vs = [.ref pt, .ref d] ∧ TfAt a.c_Tariff H pt ls lp pas t ∧ H d = some (.lst (as.map V.ref)) ∧ RidesAt H as rs ∧
  rs.length ≤ 32 ∧ Sorted rs ∧ (∀ r ∈ rs, 1 ≤ r.zones ∧ r.zones < 256) ∧ ∀ (H' : Hp) (q : Addr), Same H H' → H' q = some (.tup [nv (tgtOf t rs).1, nv (tgtOf t rs).2]) → Q (.ref q) H'
theorem ok_z40 {a : Ad} (T : Tx K mg a) : FnOk P w K mg base CX0 4 a.f_z40 a.d_z40 ["tariff", "rides"] (spBest K a) := by
  have G_z28 := ok_z28 (P := P) (w := w) (base := base) T
  have G_z41 := ok_z41 (P := P) (w := w) (base := base) T
  have G_z17 := ok_z17 (P := P) (w := w) (base := base) T
  refine T.F_z40.ok sc_z40 (fun vs H Q E h => ?_) (fun cdv A outer s H vs Q E hr h => ?_)
  · obtain ⟨pt, ls, lp, d, pas, as, t, rs, rfl, _⟩ := h
    rfl
  · obtain ⟨pt, ls, lp, d, pas, as, t, rs, rfl, tf, hd, ra, hn, hso, hz, q⟩ := h
    have hu := hu_of hr
    refine ⟨_, (@pss_cons _ _ _ _ _ (@ps_set _ _ 2 _ _ _ _ sc_z40.nd rfl (Or.inl rfl) (@pe_disp _ _ _ _ _ (pps_cons pe_int (pe_tup (pa_cons pe_int (pa_cons pe_int pa_nil))) pps_nil) rfl rfl (List.cons_ne_nil _ _) (Nat.le_of_ble_eq_true rfl)) rfl (Or.inl rfl))
      (pss_cons (ps_for PassesOwn.never rfl (pi_range1 rfl T.n_range (pa_cons (pe_callB call_len_seq rfl T.n_len PySem.boot_len (pa_cons (pv 1) pa_nil)) pa_nil)) (pg_name (i := 3) sc_z40.nd rfl (Or.inl rfl))
        (pss_one (ps_set (i := 2) sc_z40.nd rfl (Or.inl rfl) (pe_call G_z17 (hr.mono (by decide)) rfl T.m_z17 T.F_z17.kp T.b_z17 .nil pass0 (pa_cons (pv 2) (pa_cons (pe_op op_shl pe_int (pe_call G_z41 (hr.mono (by decide)) rfl T.m_z41 T.F_z41.kp T.b_z41 .nil pass0 (pa_cons (pv 3) pa_nil))) (pa_cons (pe_call G_z28 (hr.mono (by decide)) rfl T.m_z28 T.F_z28.kp T.b_z28 .nil pass0 (pa_cons (pv 0) (pa_cons (pv 1) (pa_cons (pv 3) pa_nil)))) pa_nil)))))))
      (pss_one (ps_ret (pe_callB (cr_minV rfl hu) rfl T.n_min PyProof.Rows.boot_min (pa_cons (pe_valsV (pv 2)) pa_nil)))))), ?_⟩
    have hlen : as.length = rs.length := by
      rw [ra.1, List.length_map]
    intro p hp
    refine ⟨(by show 2 ≤ sizeLine; decide), fun t0 ht0 => ⟨?_, [(Sum.inl 0, .ref t0)], rfl, (by show 1 ≤ 15; decide), ?_⟩⟩
    · rw [upd_ne (fun z => by rw [← z, upd_same] at ht0; cases ht0), upd_same]
    have npt : p ≠ t0 := fun z => by rw [← z, upd_same] at ht0; cases ht0
    have hn0 : H t0 = none := by
      rw [upd_ne npt.symm] at ht0
      exact ht0
    have hdS : SqL K (upd (upd (upd H p (.dK [])) t0 (.tup [.int 0, .int 0])) p (.dK (mergeK [] [(Sum.inl 0, .ref t0)]))) d (as.map V.ref) := by
      refine SqL.of ?_
      rw [upd_ne (ne_of_none hd hp), upd_ne (ne_of_none hd hn0), upd_ne (ne_of_none hd hp)]
      exact hd
    refine ⟨_, rfl, d, _, rfl, .inl hdS, _, rfl, (by rw [List.length_map]; omega), (by rw [List.length_map]; omega), ?_⟩
    have en : ((as.map V.ref).length : Int).toNat = rs.length := by
      rw [List.length_map, hlen]
      omega
    rw [en]
    refine for_range (lo := 0) (n := rs.length) (fun i σ H' => ∃ (v3 : Option V) (dW : Addr) (kvs : List (Key × V)) (L : List En), σ = [some (.ref pt), some (.ref d), some (.ref dW), v3] ∧ Same H H' ∧ H' dW = some (.dK kvs) ∧ WT H' kvs L ∧ Good t rs (tgtOf t rs) i L ∧ (L.map (·.1)).Nodup ∧ ∀ e ∈ L, KeyF t rs i e.1)
      ⟨none, p, [(Sum.inl 0, .ref t0)], [(0, 0, 0)], rfl, fun b o z => ?_, upd_same, ?_, good_start t rs, by simp, fun e he => by rw [List.mem_singleton.mp he]; exact key_start t rs⟩ ?_ ?_
    · rw [upd_ne (ne_of_none z hp), upd_ne (ne_of_none z hn0), upd_ne (ne_of_none z hp)]
      exact z
    · refine .cons ⟨rfl, t0, rfl, ?_⟩ .nil
      rw [upd_ne npt.symm, upd_same]
      rfl
    · rintro i σ H' hi ⟨v3, dW, kvs, L, rfl, s1, hW, wt, g, nd, kf⟩
      obtain ⟨r, hr2⟩ : ∃ r, rs[i]? = some r := ⟨_, List.getElem?_eq_getElem hi⟩
      have hzr := hz r (List.mem_of_getElem? hr2)
      have ei : (0 : Int) + (i : Int) = ((i : Nat) : Int) := by omega
      rw [ei]
      refine ⟨_, rfl, _, rfl, i, rfl, by omega, _, _, rfl, rfl, ⟨by show (0 : Int) ≤ _; omega, by have := pl_le i; show ((pl i : Nat) : Int) ≤ 1000000; omega, by decide⟩, _, rfl, _, rfl, _, rfl,
        pt, ls, lp, d, pas, as, t, rs, i, r, rfl, tf.same s1, s1 _ _ hd, ra.keep (fun q xs e => s1 _ _ e), hn, hr2, hzr.1, hzr.2, fun H2 lc cas s2 hlc hc tc => ?_⟩
      have hmark : (1 : Int) * 2 ^ ((pl i : Nat) : Int).toNat = ((B i : Nat) : Int) := shl_B i _ rfl
      refine ⟨dW, lc, kvs, L, cas, t, rs, i, r, congrArg (fun z => [V.ref dW, V.int z, V.ref lc]) hmark, s2 _ _ hW, wt.keep (fun b xs e => s2 _ _ e), hc, tc, hn, tf.p3, hso, hr2, kf, fun H3 p3 kvs3 s3 hp3 h3 w3 => ?_⟩
      obtain ⟨t1, t2, t3⟩ := tab_ok (L.flatMap (cands (chs t rs i r) i))
      refine ⟨_, p3, kvs3, _, rfl, (s1.trans s2).trans s3, h3, w3, good_step hn tf.p3 hr2 g t2 t3, t1, fun e he => ?_⟩
      obtain ⟨x, hx, hcx⟩ := List.mem_flatMap.mp (t3 e he)
      exact key_step hn tf.p3 hso hr2 (kf x hx) hcx
    · rintro σ H' ⟨v3, dW, kvs, L, rfl, s1, hW, wt, g, nd, kf⟩
      obtain ⟨g1, e, he, g2⟩ := good_end g
      obtain ⟨bs, b1, b2, b3, b4⟩ := wt.refs
      refine ⟨_, rfl, dW, kvs, rfl, hW, fun pv hpv => ?_⟩
      have s2 : Same H' (upd H' pv (.ext (vwV pv dW))) := Same.new hpv
      have fI : ∀ q (x : En), H' q = some (.tup [nv x.2.1, nv x.2.2]) → rowI H' q = [(x.2.1 : Int), (x.2.2 : Int)] := fun q x z => by
        unfold rowI
        rw [z]
        rfl
      refine ⟨pv, dW, kvs, bs, rowI H', rfl, upd_same, s2 _ _ hW, b1, fun b hb => ?_, ?_, fun b hb hmin => ?_⟩
      · obtain ⟨x, hx, z⟩ := b3 b hb
        rw [fI b x z]
        exact s2 _ _ z
      · intro z
        obtain ⟨b, hb, _⟩ := b4 e he
        rw [z] at hb
        cases hb
      · obtain ⟨x, hx, z⟩ := b3 b hb
        obtain ⟨b', hb', z'⟩ := b4 e he
        have m := hmin b' hb'
        rw [fI b x z, fI b' e z', lex_lt2] at m
        have ex : x.2 = tgtOf t rs := le2_anti (by rw [← g2]; exact lt2_false m) (g1 x hx)
        refine q _ b (s1.trans s2) ?_
        rw [← ex]
        exact s2 _ _ z
def spHow : Sp := fun vs H Q _ => ∃ h : Nat, vs = [nv h] ∧ New H Q (((List.range 32).map fun k => h / 2 ^ pl k % 4).map nv)
theorem ok_z42 {a : Ad} (T : Tx K mg a) : FnOk P w K mg base CX0 2 a.f_z42 a.d_z42 ["how"] (spHow) := by
  have G_z41 := ok_z41 (P := P) (w := w) (base := base) T
  refine T.F_z42.ok sc_z42 (fun vs H Q E h => ?_) (fun cdv A outer s H vs Q E hr h => ?_)
  · obtain ⟨k, rfl, _⟩ := h
    rfl
  · obtain ⟨z, rfl, q⟩ := h
    refine ⟨_, (pss_one (ps_ret (pe_lc rfl sc_z42.nd (pi_range1 rfl T.n_range (pa_cons (pe_gint rfl T.g_MOST_RIDES) pa_nil)) (blkOk_by (own := [("ride", 1)]) (show blkC ["how", "ride"] (defScope s_z42) _ [("ride", 1)] = true by decide +kernel)) (fun _ _ _ _ _ => (pg_name (i := 1) sc_z42.nd rfl (Or.inl rfl))) (fun _ _ _ _ _ => pts_nil) (fun _ _ _ _ _ => (pe_op op_and (pe_op op_shr (pv 0) (pe_call G_z41 (hr.mono (by decide)) rfl T.m_z41 T.F_z41.kp T.b_z41 .nil pass0 (pa_cons (pv 1) pa_nil))) pe_int))))), ?_⟩
    refine ⟨32, rfl, by decide, by decide, fun D hD => ?_⟩
    have s0 := Same.new (o := HO.lst []) hD
    refine lc_range (lo := 0) (n := 32) (fun i H' => H' D = some (.lst (((List.range i).map fun k => z / 2 ^ pl k % 4).map nv)) ∧ Same H H') ⟨upd_same, s0⟩ ?_ ?_
    · rintro i H' hi ⟨hd, s1⟩
      have ei : (0 : Int) + (i : Int) = ((i : Nat) : Int) := by omega
      rw [ei]
      refine ⟨rfl, _, rfl, _, rfl, i, rfl, by omega, _, _, rfl, rfl, (by show (0 : Int) ≤ ((pl i : Nat) : Int); omega), _, _, rfl, rfl, _, hd, (by rw [List.length_map, List.length_map, List.length_range]; exact Nat.lt_of_lt_of_le hi (by decide)), ?_, ?_⟩
      · rw [upd_same, List.range_succ, List.map_append, List.map_append]
        have e : Builtin.bitAnd ((z : Int) / 2 ^ ((pl i : Nat) : Int).toNat) 3 = ((z / 2 ^ pl i % 4 : Nat) : Int) := by
          rw [ishr z (pl i) _ rfl, PyProof.Rows.bitAnd_m2]
          omega
        show some (HO.lst (_ ++ [V.int (Builtin.bitAnd ((z : Int) / 2 ^ ((pl i : Nat) : Int).toNat) 3)])) = _
        rw [e]
        rfl
      · intro b o e
        rw [upd_ne (ne_of_none e hD)]
        exact s1 _ _ e
    · rintro H' ⟨hd, s1⟩
      exact q H' D s1 hD hd
end
end Fb
set_option maxHeartbeats 1000000
namespace Fb
open Km347
def gb (l : List Nat) (k : Nat) : Nat := l.getD k 0
theorem list20 {l : List Nat} (h : l.length = 20) : ∃ b0 b1 b2 b3 b4 b5 b6 b7 b8 b9 c0 c1 c2 c3 c4 c5 c6 c7 c8 c9, l = [b0, b1, b2, b3, b4, b5, b6, b7, b8, b9, c0, c1, c2, c3, c4, c5, c6, c7, c8, c9] := by
  match l, h with
  | [b0, b1, b2, b3, b4, b5, b6, b7, b8, b9, c0, c1, c2, c3, c4, c5, c6, c7, c8, c9], _ => exact ⟨b0, b1, b2, b3, b4, b5, b6, b7, b8, b9, c0, c1, c2, c3, c4, c5, c6, c7, c8, c9, rfl⟩
theorem le_num {a b c d : Nat} (ha : a < 256) (hb : b < 256) (hc : c < 256) (hd : d < 256) : le 4 (a + 256 * (b + 256 * (c + 256 * (d + 256 * 0)))) = [a, b, c, d] := by
  rw [le4]
  have e1 : (a + 256 * (b + 256 * (c + 256 * (d + 256 * 0)))) % 256 = a := by omega
  have e2 : (a + 256 * (b + 256 * (c + 256 * (d + 256 * 0)))) / 256 % 256 = b := by omega
  have e3 : (a + 256 * (b + 256 * (c + 256 * (d + 256 * 0)))) / 65536 % 256 = c := by omega
  have e4 : (a + 256 * (b + 256 * (c + 256 * (d + 256 * 0)))) / 16777216 % 256 = d := by omega
  rw [e1, e2, e3, e4]
def tapX (l : List Nat) : Tap := ⟨num l 1 1, num l 4 4, num l 8 4, num l 12 4, num l 2 1⟩
def sealX (l : List Nat) : Seal := ⟨num l 1 1, num l 4 4, num l 12 4⟩
def tapB (l : List Nat) : Bool := decide (gb l 0 = 1 ∧ gb l 2 ≠ 0 ∧ gb l 3 = 0 ∧ num l 4 4 < 8192 ∧ num l 12 4 < 2147483648)
def sealB (l : List Nat) : Bool := decide (gb l 0 = 2 ∧ gb l 2 = 0 ∧ gb l 3 = 0 ∧ num l 8 4 = 0 ∧ num l 4 4 ≤ 8192 ∧ num l 12 4 ≤ 2147483648)
def rightB (l : List Nat) : Bool := decide (checked (l.take 16) = l ∧ gb l 1 < 8) && (tapB l || sealB l)
theorem checked_iff {m r : List Nat} (h : m.length = 16) (hr : r.length = 4) (n : List Nat) (hn : n.length = 16) : m ++ r = checked n ↔ m = n ∧ checked m = m ++ r := by
  unfold checked
  constructor
  · intro e
    obtain ⟨e1, e2⟩ := List.append_inj e (by rw [h, hn])
    exact ⟨e1, by rw [e1, e2]⟩
  · rintro ⟨e1, e2⟩
    rw [← e1, ← e2]
theorem tapOf_eq {l : List Nat} (h : l.length = 20) (hb : ∀ x ∈ l, x < 256) : tapOf l = if checked (l.take 16) = l ∧ gb l 1 < 8 ∧ tapB l = true then some (tapX l) else none := by
  obtain ⟨b0, b1, b2, b3, b4, b5, b6, b7, b8, b9, c0, c1, c2, c3, c4, c5, c6, c7, c8, c9, rfl⟩ := list20 h
  have e : ([b0, b1, b2, b3, b4, b5, b6, b7, b8, b9, c0, c1, c2, c3, c4, c5, c6, c7, c8, c9] = (tapX [b0, b1, b2, b3, b4, b5, b6, b7, b8, b9, c0, c1, c2, c3, c4, c5, c6, c7, c8, c9]).bytes ∧ (tapX [b0, b1, b2, b3, b4, b5, b6, b7, b8, b9, c0, c1, c2, c3, c4, c5, c6, c7, c8, c9]).good = true) ↔
      (checked ([b0, b1, b2, b3, b4, b5, b6, b7, b8, b9, c0, c1, c2, c3, c4, c5, c6, c7, c8, c9].take 16) = [b0, b1, b2, b3, b4, b5, b6, b7, b8, b9, c0, c1, c2, c3, c4, c5, c6, c7, c8, c9] ∧ gb [b0, b1, b2, b3, b4, b5, b6, b7, b8, b9, c0, c1, c2, c3, c4, c5, c6, c7, c8, c9] 1 < 8 ∧ tapB [b0, b1, b2, b3, b4, b5, b6, b7, b8, b9, c0, c1, c2, c3, c4, c5, c6, c7, c8, c9] = true) := by
    have hbs : b0 < 256 ∧ b1 < 256 ∧ b2 < 256 ∧ b3 < 256 ∧ b4 < 256 ∧ b5 < 256 ∧ b6 < 256 ∧ b7 < 256 ∧ b8 < 256 ∧ b9 < 256 ∧ c0 < 256 ∧ c1 < 256 ∧ c2 < 256 ∧ c3 < 256 ∧ c4 < 256 ∧ c5 < 256 := by
      refine ⟨hb _ ?_, hb _ ?_, hb _ ?_, hb _ ?_, hb _ ?_, hb _ ?_, hb _ ?_, hb _ ?_, hb _ ?_, hb _ ?_, hb _ ?_, hb _ ?_, hb _ ?_, hb _ ?_, hb _ ?_, hb _ ?_⟩ <;> simp
    obtain ⟨h0, h1, h2, h3, h4, h5, h6, h7, h8, h9, g0, g1, g2, g3, g4, g5⟩ := hbs
    have eb : (tapX [b0, b1, b2, b3, b4, b5, b6, b7, b8, b9, c0, c1, c2, c3, c4, c5, c6, c7, c8, c9]).bytes = checked [1, b1, b2, 0, b4, b5, b6, b7, b8, b9, c0, c1, c2, c3, c4, c5] := by
      show checked ([1, b1 + 256 * 0, b2 + 256 * 0, 0] ++ (le 4 (b4 + 256 * (b5 + 256 * (b6 + 256 * (b7 + 256 * 0)))) ++ (le 4 (b8 + 256 * (b9 + 256 * (c0 + 256 * (c1 + 256 * 0)))) ++ le 4 (c2 + 256 * (c3 + 256 * (c4 + 256 * (c5 + 256 * 0))))))) = _
      rw [le_num h4 h5 h6 h7, le_num h8 h9 g0 g1, le_num g2 g3 g4 g5]
      rfl
    rw [eb]
    rw [show ([b0, b1, b2, b3, b4, b5, b6, b7, b8, b9, c0, c1, c2, c3, c4, c5, c6, c7, c8, c9] : List Nat) = [b0, b1, b2, b3, b4, b5, b6, b7, b8, b9, c0, c1, c2, c3, c4, c5] ++ [c6, c7, c8, c9] from rfl]
    rw [checked_iff (by rfl) (by rfl) _ (by rfl)]
    have et : ([b0, b1, b2, b3, b4, b5, b6, b7, b8, b9, c0, c1, c2, c3, c4, c5] ++ [c6, c7, c8, c9] : List Nat).take 16 = [b0, b1, b2, b3, b4, b5, b6, b7, b8, b9, c0, c1, c2, c3, c4, c5] := rfl
    rw [et]
    unfold Tap.good tapB
    simp only [Bool.and_eq_true, decide_eq_true_eq]
    show (_ ∧ _) ∧ (b1 + 256 * 0 < 8 ∧ b4 + 256 * (b5 + 256 * (b6 + 256 * (b7 + 256 * 0))) < 8192 ∧ b8 + 256 * (b9 + 256 * (c0 + 256 * (c1 + 256 * 0))) < 2 ^ 32 ∧ c2 + 256 * (c3 + 256 * (c4 + 256 * (c5 + 256 * 0))) < 2 ^ 31 ∧ 1 ≤ b2 + 256 * 0 ∧ b2 + 256 * 0 < 256) ↔
      _ ∧ b1 < 8 ∧ b0 = 1 ∧ b2 ≠ 0 ∧ b3 = 0 ∧ b4 + 256 * (b5 + 256 * (b6 + 256 * (b7 + 256 * 0))) < 8192 ∧ c2 + 256 * (c3 + 256 * (c4 + 256 * (c5 + 256 * 0))) < 2147483648
    constructor
    · rintro ⟨⟨e1, e2⟩, q1, q2, q3, q4, q5, q6⟩
      injection e1 with e1 r1
      injection r1 with _ r1
      injection r1 with _ r1
      injection r1 with e3 _
      exact ⟨e2, by omega, e1, by omega, e3, q2, by omega⟩
    · rintro ⟨e2, q1, e1, q2, e3, q3, q4⟩
      subst e1 e3
      exact ⟨⟨rfl, e2⟩, by omega, q3, by omega, by omega, by omega, by omega⟩
  by_cases c : ([b0, b1, b2, b3, b4, b5, b6, b7, b8, b9, c0, c1, c2, c3, c4, c5, c6, c7, c8, c9] = (tapX [b0, b1, b2, b3, b4, b5, b6, b7, b8, b9, c0, c1, c2, c3, c4, c5, c6, c7, c8, c9]).bytes ∧ (tapX [b0, b1, b2, b3, b4, b5, b6, b7, b8, b9, c0, c1, c2, c3, c4, c5, c6, c7, c8, c9]).good = true)
  · exact Eq.trans (if_pos c) (if_pos (e.mp c)).symm
  · exact Eq.trans (if_neg c) (if_neg (fun z => c (e.mpr z))).symm
theorem sealOf_eq {l : List Nat} (h : l.length = 20) (hb : ∀ x ∈ l, x < 256) : sealOf l = if checked (l.take 16) = l ∧ gb l 1 < 8 ∧ sealB l = true then some (sealX l) else none := by
  obtain ⟨b0, b1, b2, b3, b4, b5, b6, b7, b8, b9, c0, c1, c2, c3, c4, c5, c6, c7, c8, c9, rfl⟩ := list20 h
  have e : ([b0, b1, b2, b3, b4, b5, b6, b7, b8, b9, c0, c1, c2, c3, c4, c5, c6, c7, c8, c9] = (sealX [b0, b1, b2, b3, b4, b5, b6, b7, b8, b9, c0, c1, c2, c3, c4, c5, c6, c7, c8, c9]).bytes ∧ (sealX [b0, b1, b2, b3, b4, b5, b6, b7, b8, b9, c0, c1, c2, c3, c4, c5, c6, c7, c8, c9]).good = true) ↔
      (checked ([b0, b1, b2, b3, b4, b5, b6, b7, b8, b9, c0, c1, c2, c3, c4, c5, c6, c7, c8, c9].take 16) = [b0, b1, b2, b3, b4, b5, b6, b7, b8, b9, c0, c1, c2, c3, c4, c5, c6, c7, c8, c9] ∧ gb [b0, b1, b2, b3, b4, b5, b6, b7, b8, b9, c0, c1, c2, c3, c4, c5, c6, c7, c8, c9] 1 < 8 ∧ sealB [b0, b1, b2, b3, b4, b5, b6, b7, b8, b9, c0, c1, c2, c3, c4, c5, c6, c7, c8, c9] = true) := by
    have hbs : b0 < 256 ∧ b1 < 256 ∧ b2 < 256 ∧ b3 < 256 ∧ b4 < 256 ∧ b5 < 256 ∧ b6 < 256 ∧ b7 < 256 ∧ b8 < 256 ∧ b9 < 256 ∧ c0 < 256 ∧ c1 < 256 ∧ c2 < 256 ∧ c3 < 256 ∧ c4 < 256 ∧ c5 < 256 := by
      refine ⟨hb _ ?_, hb _ ?_, hb _ ?_, hb _ ?_, hb _ ?_, hb _ ?_, hb _ ?_, hb _ ?_, hb _ ?_, hb _ ?_, hb _ ?_, hb _ ?_, hb _ ?_, hb _ ?_, hb _ ?_, hb _ ?_⟩ <;> simp
    obtain ⟨h0, h1, h2, h3, h4, h5, h6, h7, h8, h9, g0, g1, g2, g3, g4, g5⟩ := hbs
    have eb : (sealX [b0, b1, b2, b3, b4, b5, b6, b7, b8, b9, c0, c1, c2, c3, c4, c5, c6, c7, c8, c9]).bytes = checked [2, b1, 0, 0, b4, b5, b6, b7, 0, 0, 0, 0, c2, c3, c4, c5] := by
      show checked ([2, b1 + 256 * 0, 0, 0] ++ (le 4 (b4 + 256 * (b5 + 256 * (b6 + 256 * (b7 + 256 * 0)))) ++ (le 4 0 ++ le 4 (c2 + 256 * (c3 + 256 * (c4 + 256 * (c5 + 256 * 0))))))) = _
      rw [le_num h4 h5 h6 h7, le_num g2 g3 g4 g5]
      rfl
    rw [eb]
    rw [show ([b0, b1, b2, b3, b4, b5, b6, b7, b8, b9, c0, c1, c2, c3, c4, c5, c6, c7, c8, c9] : List Nat) = [b0, b1, b2, b3, b4, b5, b6, b7, b8, b9, c0, c1, c2, c3, c4, c5] ++ [c6, c7, c8, c9] from rfl]
    rw [checked_iff (by rfl) (by rfl) _ (by rfl)]
    have et : ([b0, b1, b2, b3, b4, b5, b6, b7, b8, b9, c0, c1, c2, c3, c4, c5] ++ [c6, c7, c8, c9] : List Nat).take 16 = [b0, b1, b2, b3, b4, b5, b6, b7, b8, b9, c0, c1, c2, c3, c4, c5] := rfl
    rw [et]
    unfold Seal.good sealB
    simp only [Bool.and_eq_true, decide_eq_true_eq]
    show (_ ∧ _) ∧ (b1 + 256 * 0 < 8 ∧ b4 + 256 * (b5 + 256 * (b6 + 256 * (b7 + 256 * 0))) ≤ 8192 ∧ c2 + 256 * (c3 + 256 * (c4 + 256 * (c5 + 256 * 0))) ≤ 2 ^ 31) ↔
      _ ∧ b1 < 8 ∧ b0 = 2 ∧ b2 = 0 ∧ b3 = 0 ∧ b8 + 256 * (b9 + 256 * (c0 + 256 * (c1 + 256 * 0))) = 0 ∧ b4 + 256 * (b5 + 256 * (b6 + 256 * (b7 + 256 * 0))) ≤ 8192 ∧ c2 + 256 * (c3 + 256 * (c4 + 256 * (c5 + 256 * 0))) ≤ 2147483648
    constructor
    · rintro ⟨⟨e1, e2⟩, q1, q2, q3⟩
      injection e1 with e1 r1
      injection r1 with _ r1
      injection r1 with z2 r1
      injection r1 with z3 r1
      injection r1 with _ r1
      injection r1 with _ r1
      injection r1 with _ r1
      injection r1 with _ r1
      injection r1 with z8 r1
      injection r1 with z9 r1
      injection r1 with y0 r1
      injection r1 with y1 r1
      exact ⟨e2, by omega, e1, z2, z3, by omega, q2, by omega⟩
    · rintro ⟨e2, q1, e1, z2, z3, z4, q3, q4⟩
      have z8 : b8 = 0 := by omega
      have z9 : b9 = 0 := by omega
      have y0 : c0 = 0 := by omega
      have y1 : c1 = 0 := by omega
      subst e1 z2 z3 z8 z9 y0 y1
      exact ⟨⟨rfl, e2⟩, by omega, q3, by omega⟩
  by_cases c : ([b0, b1, b2, b3, b4, b5, b6, b7, b8, b9, c0, c1, c2, c3, c4, c5, c6, c7, c8, c9] = (sealX [b0, b1, b2, b3, b4, b5, b6, b7, b8, b9, c0, c1, c2, c3, c4, c5, c6, c7, c8, c9]).bytes ∧ (sealX [b0, b1, b2, b3, b4, b5, b6, b7, b8, b9, c0, c1, c2, c3, c4, c5, c6, c7, c8, c9]).good = true)
  · exact Eq.trans (if_pos c) (if_pos (e.mp c)).symm
  · exact Eq.trans (if_neg c) (if_neg (fun z => c (e.mpr z))).symm
theorem gb_at {l : List Nat} {k : Nat} (h : k < l.length) : l[k]? = some (gb l k) := by
  unfold gb
  rw [List.getD_eq_getElem?_getD, List.getElem?_eq_getElem h]
  rfl
theorem num_gb {l : List Nat} {k : Nat} (h : k + 3 < l.length) : num l k 4 = gb l k + 256 * (gb l (k + 1) + 256 * (gb l (k + 2) + 256 * gb l (k + 3))) := by
  unfold num
  have e : (l.drop k).take 4 = [gb l k, gb l (k + 1), gb l (k + 2), gb l (k + 3)] := by
    refine List.ext_getElem? fun i => ?_
    by_cases hi : i < 4
    · rw [List.getElem?_take_of_lt hi, List.getElem?_drop]
      have cs : i = 0 ∨ i = 1 ∨ i = 2 ∨ i = 3 := by omega
      rcases cs with rfl | rfl | rfl | rfl
      · exact gb_at (by omega)
      · exact gb_at (by omega)
      · exact gb_at (by omega)
      · exact gb_at (by omega)
    · rw [List.getElem?_eq_none (by rw [List.length_take]; omega), List.getElem?_eq_none (by simp; omega)]
  rw [e]
  simp
theorem num1 {l : List Nat} {k : Nat} (h : k < l.length) : num l k 1 = gb l k := by
  unfold num
  have e : (l.drop k).take 1 = [gb l k] := by
    refine List.ext_getElem? fun i => ?_
    by_cases hi : i < 1
    · rw [List.getElem?_take_of_lt hi, List.getElem?_drop, show i = 0 by omega]
      exact gb_at (by omega)
    · rw [List.getElem?_eq_none (by rw [List.length_take]; omega), List.getElem?_eq_none (by simp; omega)]
  rw [e]
  simp
theorem gb_lt {l : List Nat} {k : Nat} (hb : ∀ x ∈ l, x < 256) : gb l k < 256 := by
  unfold gb
  rw [List.getD_eq_getElem?_getD]
  cases h : l[k]? with
  | none => decide
  | some x => exact hb x (List.mem_of_getElem? h)
end Fb
namespace Fb
open PySem PySem.Spec PyProof.Rows L2
theorem or4 {a b c d : Nat} (ha : a < 256) (hb : b < 256) (hc : c < 256) (hd : d < 256) :
    Builtin.bitOr (Builtin.bitOr (a : Int) ((b : Int) * 2 ^ (8 : Int).toNat)) (Builtin.bitOr (c : Int) ((d : Int) * 2 ^ (8 : Int).toNat) * 2 ^ (16 : Int).toNat) = ((a + 256 * (b + 256 * (c + 256 * d)) : Nat) : Int) := by
  rw [show (8 : Int).toNat = 8 from rfl, show (16 : Int).toNat = 16 from rfl]
  rw [Bits.bitOr_join (a := (a : Int)) (b := (b : Int)) (k := 8) (by omega) (by omega) (by omega), Bits.bitOr_join (a := (c : Int)) (b := (d : Int)) (k := 8) (by omega) (by omega) (by omega)]
  rw [Bits.bitOr_join (k := 16) (by omega) (by omega) (by omega)]
  omega
section
variable {P : Program} {w : World} {K : PySem.W.Frag} {mg : Str → Option Value} {base : Heap}
structure MsgAt (K : PySem.W.Frag) (H : Hp) (d : Addr) (l : List Nat) : Prop where
  sq : SqL K H d (l.map nv)
  ln : l.length = 20
  by_ : ∀ x ∈ l, x < 256
theorem MsgAt.at {K : PySem.W.Frag} {H : Hp} {d : Addr} {l : List Nat} (m : MsgAt K H d l) {k : Nat} (h : k < 20) : (l.map nv)[k]? = some (nv (gb l k)) := get_map (gb_at (by rw [m.ln]; exact h))
theorem MsgAt.same {K : PySem.W.Frag} {H H' : Hp} {d : Addr} {l : List Nat} (m : MsgAt K H d l) (s : Same H H') : MsgAt K H' d l := ⟨s.seq m.sq, m.ln, m.by_⟩
def spNumAt (K : PySem.W.Frag) : Sp := fun vs H Q _ => ∃ (d : Addr) (l : List Nat) (k : Nat), vs = [.ref d, nv k] ∧ MsgAt K H d l ∧ k + 3 < 20 ∧ Q (nv (Km347.num l k 4)) H
theorem ok_z36 {a : Ad} (T : Tx K mg a) : FnOk P w K mg base CX0 1 a.f_z36 a.d_z36 ["message", "place"] (spNumAt K) := by
  refine T.F_z36.ok sc_z36 (fun vs H Q E h => ?_) (fun cdv A outer s H vs Q E hr h => ?_)
  · obtain ⟨d, l, k, rfl, _⟩ := h
    rfl
  · obtain ⟨d, l, k, rfl, m, hk, q⟩ := h
    refine ⟨_, (pss_cons (ps_set (i := 2) sc_z36.nd rfl (Or.inl rfl) (pe_op op_or (pe_ix ix_list (pv 0) (pe_op op_add (pv 1) pe_int) (fun _ _ => rfl)) (pe_op op_shl (pe_ix ix_list (pv 0) (pe_op op_add (pv 1) pe_int) (fun _ _ => rfl)) pe_int)))
      (pss_one (ps_ret (pe_op op_or (pe_op op_or (pe_ix ix_list (pv 0) (pv 1) (fun _ _ => rfl)) (pe_op op_shl (pe_ix ix_list (pv 0) (pe_op op_add (pv 1) pe_int) (fun _ _ => rfl)) pe_int)) (pe_op op_shl (pv 2) pe_int))))), ?_⟩
    have g : ∀ j, gb l j < 256 := fun j => gb_lt m.by_
    have cp : ∀ (j : Nat) (z : Int), 0 ≤ z → z ≤ 1000000 → CPow ((gb l j : Nat) : Int) z := fun j z h1 h2 => ⟨h1, h2, by have := g j; omega⟩
    have a0 : atI (l.map nv) (k : Int) = some (nv (gb l k)) := atI_nat (m.at (by omega))
    have a1 : atI (l.map nv) ((k : Int) + 1) = some (nv (gb l (k + 1))) := at_of (j := k + 1) (by omega) (m.at (by omega))
    have a2 : atI (l.map nv) ((k : Int) + 2) = some (nv (gb l (k + 2))) := at_of (j := k + 2) (by omega) (m.at (by omega))
    have a3 : atI (l.map nv) ((k : Int) + 3) = some (nv (gb l (k + 3))) := at_of (j := k + 3) (by omega) (m.at (by omega))
    refine ⟨_, rfl, _, rfl, _, _, rfl, rfl, d, _, _, _, rfl, rfl, m.sq, a2, _, rfl, _, rfl, _, _, rfl, rfl, d, _, _, _, rfl, rfl, m.sq, a3, _, _, rfl, rfl, cp (k + 3) 8 (by decide) (by decide), _, _, rfl, rfl, ?_⟩
    refine ⟨_, rfl, _, rfl, d, _, _, _, rfl, rfl, m.sq, a0, _, rfl, _, rfl, _, _, rfl, rfl, d, _, _, _, rfl, rfl, m.sq, a1, _, _, rfl, rfl, cp (k + 1) 8 (by decide) (by decide), _, _, rfl, rfl, _, rfl, _, _, rfl, rfl, ⟨by decide, by decide, ?_⟩, _, _, rfl, rfl, ?_⟩
    · have h2 := g (k + 2)
      have h3 := g (k + 3)
      rw [show (8 : Int).toNat = 8 from rfl, Bits.bitOr_join (a := ((gb l (k + 2) : Nat) : Int)) (b := ((gb l (k + 3) : Nat) : Int)) (k := 8) (by omega) (by omega) (by omega)]
      omega
    · rw [num_gb (by rw [m.ln]; omega)] at q
      have e := or4 (g k) (g (k + 1)) (g (k + 2)) (g (k + 3))
      show Q (.int (Builtin.bitOr (Builtin.bitOr ((gb l k : Nat) : Int) (((gb l (k + 1) : Nat) : Int) * 2 ^ (8 : Int).toNat)) (Builtin.bitOr ((gb l (k + 2) : Nat) : Int) (((gb l (k + 3) : Nat) : Int) * 2 ^ (8 : Int).toNat) * 2 ^ (16 : Int).toNat))) H
      rw [e]
      exact q
def spByte (K : PySem.W.Frag) (k : Nat) : Sp := fun vs H Q _ => ∃ (d : Addr) (l : List Nat), vs = [.ref d] ∧ MsgAt K H d l ∧ Q (nv (gb l k)) H
def spNum (K : PySem.W.Frag) (k : Nat) : Sp := fun vs H Q _ => ∃ (d : Addr) (l : List Nat), vs = [.ref d] ∧ MsgAt K H d l ∧ Q (nv (Km347.num l k 4)) H
theorem ok_z38 {a : Ad} (T : Tx K mg a) : FnOk P w K mg base CX0 1 a.f_z38 a.d_z38 ["message"] (spByte K 1) := by
  refine T.F_z38.ok sc_z38 (fun vs H Q E h => ?_) (fun cdv A outer s H vs Q E hr h => ?_)
  · obtain ⟨d, l, rfl, _⟩ := h
    rfl
  · obtain ⟨d, l, rfl, m, q⟩ := h
    exact ⟨_, (pss_one (ps_ret (pe_ix ix_list (pv 0) pe_int (fun _ _ => rfl)))), _, rfl, d, _, _, _, rfl, rfl, m.sq, atI_nat (m.at (k := 1) (by decide)), q⟩
theorem ok_z44 {a : Ad} (T : Tx K mg a) : FnOk P w K mg base CX0 1 a.f_z44 a.d_z44 ["message"] (spByte K 2) := by
  refine T.F_z44.ok sc_z44 (fun vs H Q E h => ?_) (fun cdv A outer s H vs Q E hr h => ?_)
  · obtain ⟨d, l, rfl, _⟩ := h
    rfl
  · obtain ⟨d, l, rfl, m, q⟩ := h
    exact ⟨_, (pss_one (ps_ret (pe_ix ix_list (pv 0) pe_int (fun _ _ => rfl)))), _, rfl, d, _, _, _, rfl, rfl, m.sq, atI_nat (m.at (k := 2) (by decide)), q⟩
theorem ok_z33 {a : Ad} (T : Tx K mg a) : FnOk P w K mg base CX0 2 a.f_z33 a.d_z33 ["message"] (spNum K 4) := by
  have G_z36 := ok_z36 (P := P) (w := w) (base := base) T
  refine T.F_z33.ok sc_z33 (fun vs H Q E h => ?_) (fun cdv A outer s H vs Q E hr h => ?_)
  · obtain ⟨d, l, rfl, _⟩ := h
    rfl
  · obtain ⟨d, l, rfl, m, q⟩ := h
    exact ⟨_, (pss_one (ps_ret (pe_call G_z36 (hr.mono (by decide)) rfl T.m_z36 T.F_z36.kp T.b_z36 .nil pass0 (pa_cons (pv 0) (pa_cons pe_int pa_nil))))), _, rfl, d, l, 4, rfl, m, by decide, q⟩
theorem ok_z49 {a : Ad} (T : Tx K mg a) : FnOk P w K mg base CX0 2 a.f_z49 a.d_z49 ["message"] (spNum K 8) := by
  have G_z36 := ok_z36 (P := P) (w := w) (base := base) T
  refine T.F_z49.ok sc_z49 (fun vs H Q E h => ?_) (fun cdv A outer s H vs Q E hr h => ?_)
  · obtain ⟨d, l, rfl, _⟩ := h
    rfl
  · obtain ⟨d, l, rfl, m, q⟩ := h
    exact ⟨_, (pss_one (ps_ret (pe_call G_z36 (hr.mono (by decide)) rfl T.m_z36 T.F_z36.kp T.b_z36 .nil pass0 (pa_cons (pv 0) (pa_cons pe_int pa_nil))))), _, rfl, d, l, 8, rfl, m, by decide, q⟩
theorem ok_z32 {a : Ad} (T : Tx K mg a) : FnOk P w K mg base CX0 2 a.f_z32 a.d_z32 ["message"] (spNum K 12) := by
  have G_z36 := ok_z36 (P := P) (w := w) (base := base) T
  refine T.F_z32.ok sc_z32 (fun vs H Q E h => ?_) (fun cdv A outer s H vs Q E hr h => ?_)
  · obtain ⟨d, l, rfl, _⟩ := h
    rfl
  · obtain ⟨d, l, rfl, m, q⟩ := h
    exact ⟨_, (pss_one (ps_ret (pe_call G_z36 (hr.mono (by decide)) rfl T.m_z36 T.F_z36.kp T.b_z36 .nil pass0 (pa_cons (pv 0) (pa_cons pe_int pa_nil))))), _, rfl, d, l, 12, rfl, m, by decide, q⟩
theorem ne_t {i j : Int} (h : (!decide (V.int i = V.int j)) = true) : ¬ i = j := fun e => by
  rw [e] at h
  simp at h
theorem ne_f {i j : Int} (h : (!decide (V.int i = V.int j)) = false) : i = j := by
  by_cases e : i = j
  · exact e
  · rw [decide_eq_false (fun z => e (V.int.inj z))] at h
    cases h
def spIs (K : PySem.W.Frag) (f : List Nat → Bool) : Sp := fun vs H Q _ => ∃ (d : Addr) (l : List Nat), vs = [.ref d] ∧ MsgAt K H d l ∧ Q (.bl (f l)) H
theorem ok_z51 {a : Ad} (T : Tx K mg a) : FnOk P w K mg base CX0 3 a.f_z51 a.d_z51 ["message"] (spIs K tapB) := by
  have G_z32 := ok_z32 (P := P) (w := w) (base := base) T
  have G_z33 := ok_z33 (P := P) (w := w) (base := base) T
  have G_z44 := ok_z44 (P := P) (w := w) (base := base) T
  refine T.F_z51.ok sc_z51 (fun vs H Q E h => ?_) (fun cdv A outer s H vs Q E hr h => ?_)
  · obtain ⟨d, l, rfl, _⟩ := h
    rfl
  · obtain ⟨d, l, rfl, m, q⟩ := h
    refine ⟨_, (pss_cons (ps_if (PW.pt (pw_or (pt_cmpR op_ne (pe_ix ix_list (pv 0) pe_int (fun _ _ => rfl)) (pe_gint rfl T.g_TAP) (nomark _)) (pw_or (pt_cmpR op_eq (pe_call G_z44 (hr.mono (by decide)) rfl T.m_z44 T.F_z44.kp T.b_z44 .nil pass0 (pa_cons (pv 0) pa_nil)) pe_int (nomark _)) (pw_or1 (pt_cmpR op_ne (pe_ix ix_list (pv 0) pe_int (fun _ _ => rfl)) pe_int (nomark _))))))
        (pss_one (ps_ret pe_bl))
        pss_nil)
      (pss_one (ps_ret (pe_and (pe_cmpR op_lt (pe_call G_z33 (hr.mono (by decide)) rfl T.m_z33 T.F_z33.kp T.b_z33 .nil pass0 (pa_cons (pv 0) pa_nil)) (pe_gint rfl T.g_MOST_TAPS) (nomark _)) (pe_one (pe_cmpR op_lt (pe_call G_z32 (hr.mono (by decide)) rfl T.m_z32 T.F_z32.kp T.b_z32 .nil pass0 (pa_cons (pv 0) pa_nil)) (pe_gint rfl T.g_MINUTE_LIMIT) (nomark _))))))), ?_⟩
    have no : ¬ (gb l 0 = 1 ∧ gb l 2 ≠ 0 ∧ gb l 3 = 0 ∧ Km347.num l 4 4 < 8192 ∧ Km347.num l 12 4 < 2147483648) → Q (.bl false) H := fun z => by
      have e : tapB l = false := decide_eq_false z
      rw [e] at q
      exact q
    refine ⟨_, rfl, d, _, _, _, rfl, rfl, m.sq, atI_nat (m.at (k := 0) (by decide)), rfl, _, rfl, iteD (fun c => iteT (no ?_)) (fun c => ?_)⟩
    · have c := ne_t c
      omega
    have c0 := ne_f c
    refine ⟨_, rfl, d, l, rfl, m, rfl, _, rfl, iteD (fun c => iteT (no ?_)) (fun c => ?_)⟩
    · have c := eqI_t c
      omega
    have c1 := eqI_f c
    refine ⟨_, rfl, d, _, _, _, rfl, rfl, m.sq, atI_nat (m.at (k := 3) (by decide)), rfl, _, rfl, iteD (fun c => no ?_) (fun c => ?_)⟩
    · have c := ne_t c
      omega
    have c2 := ne_f c
    refine ⟨_, rfl, d, l, rfl, m, _, _, rfl, rfl, _, rfl, iteD (fun c => ?_) (fun c => no ?_)⟩
    · have c3 := of_decide_eq_true c
      refine ⟨_, rfl, d, l, rfl, m, _, _, rfl, rfl, ?_⟩
      have e : tapB l = decide (((Km347.num l 12 4 : Nat) : Int) < 2147483648) := decide_eq_decide.mpr (by omega)
      rw [e] at q
      exact q
    · have c := of_decide_eq_false c
      omega
theorem ok_z50 {a : Ad} (T : Tx K mg a) : FnOk P w K mg base CX0 3 a.f_z50 a.d_z50 ["message"] (spIs K sealB) := by
  have G_z49 := ok_z49 (P := P) (w := w) (base := base) T
  have G_z32 := ok_z32 (P := P) (w := w) (base := base) T
  have G_z33 := ok_z33 (P := P) (w := w) (base := base) T
  have G_z44 := ok_z44 (P := P) (w := w) (base := base) T
  refine T.F_z50.ok sc_z50 (fun vs H Q E h => ?_) (fun cdv A outer s H vs Q E hr h => ?_)
  · obtain ⟨d, l, rfl, _⟩ := h
    rfl
  · obtain ⟨d, l, rfl, m, q⟩ := h
    refine ⟨_, (pss_cons (ps_if (PW.pt (pw_or (pt_cmpR op_ne (pe_ix ix_list (pv 0) pe_int (fun _ _ => rfl)) (pe_gint rfl T.g_SEAL) (nomark _)) (pw_or (pt_cmpR op_ne (pe_call G_z44 (hr.mono (by decide)) rfl T.m_z44 T.F_z44.kp T.b_z44 .nil pass0 (pa_cons (pv 0) pa_nil)) pe_int (nomark _)) (pw_or (pt_cmpR op_ne (pe_ix ix_list (pv 0) pe_int (fun _ _ => rfl)) pe_int (nomark _)) (pw_or1 (pt_cmpR op_ne (pe_call G_z49 (hr.mono (by decide)) rfl T.m_z49 T.F_z49.kp T.b_z49 .nil pass0 (pa_cons (pv 0) pa_nil)) pe_int (nomark _)))))))
        (pss_one (ps_ret pe_bl))
        pss_nil)
      (pss_one (ps_ret (pe_and (pe_cmpR op_le (pe_call G_z33 (hr.mono (by decide)) rfl T.m_z33 T.F_z33.kp T.b_z33 .nil pass0 (pa_cons (pv 0) pa_nil)) (pe_gint rfl T.g_MOST_TAPS) (nomark _)) (pe_one (pe_cmpR op_le (pe_call G_z32 (hr.mono (by decide)) rfl T.m_z32 T.F_z32.kp T.b_z32 .nil pass0 (pa_cons (pv 0) pa_nil)) (pe_gint rfl T.g_MINUTE_LIMIT) (nomark _))))))), ?_⟩
    have no : ¬ (gb l 0 = 2 ∧ gb l 2 = 0 ∧ gb l 3 = 0 ∧ Km347.num l 8 4 = 0 ∧ Km347.num l 4 4 ≤ 8192 ∧ Km347.num l 12 4 ≤ 2147483648) → Q (.bl false) H := fun z => by
      have e : sealB l = false := decide_eq_false z
      rw [e] at q
      exact q
    refine ⟨_, rfl, d, _, _, _, rfl, rfl, m.sq, atI_nat (m.at (k := 0) (by decide)), rfl, _, rfl, iteD (fun c => iteT (no ?_)) (fun c => ?_)⟩
    · have c := ne_t c
      omega
    have c0 := ne_f c
    refine ⟨_, rfl, d, l, rfl, m, rfl, _, rfl, iteD (fun c => iteT (no ?_)) (fun c => ?_)⟩
    · have c := ne_t c
      omega
    have c1 := ne_f c
    refine ⟨_, rfl, d, _, _, _, rfl, rfl, m.sq, atI_nat (m.at (k := 3) (by decide)), rfl, _, rfl, iteD (fun c => iteT (no ?_)) (fun c => ?_)⟩
    · have c := ne_t c
      omega
    have c2 := ne_f c
    refine ⟨_, rfl, d, l, rfl, m, rfl, _, rfl, iteD (fun c => no ?_) (fun c => ?_)⟩
    · have c := ne_t c
      omega
    have c3 := ne_f c
    refine ⟨_, rfl, d, l, rfl, m, _, _, rfl, rfl, _, rfl, iteD (fun c => ?_) (fun c => no ?_)⟩
    · have c4 := of_decide_eq_true c
      refine ⟨_, rfl, d, l, rfl, m, _, _, rfl, rfl, ?_⟩
      have e : sealB l = decide (((Km347.num l 12 4 : Nat) : Int) ≤ 2147483648) := decide_eq_decide.mpr (by omega)
      rw [e] at q
      exact q
    · have c := of_decide_eq_false c
      omega
theorem dp_ints {K : PySem.W.Frag} {H : Hp} : ∀ ns : List Int, DpAll K H (ns.map V.int) (ns.map PyData.int)
  | [] => .nil
  | n :: ns => .cons (.int n) (dp_ints ns)
theorem eqv_ints : ∀ ns ms : List Int, PyData.eqvAll (ns.map PyData.int) (ms.map PyData.int) = decide (ns = ms)
  | [], [] => rfl
  | [], _ :: _ => rfl
  | _ :: _, [] => rfl
  | n :: ns, m :: ms => by
    rw [List.map_cons, List.map_cons, PyData.eqvAll, eqv_ints ns ms, PyData.eqv]
    by_cases h : n = m
    · subst h
      by_cases h2 : ns = ms
      · subst h2
        simp
      · rw [decide_eq_false h2, decide_eq_false (fun e => h2 (List.cons.inj e).2)]
        simp
    · rw [decide_eq_false (fun e => h (List.cons.inj e).1), show (n == m) = false from beq_eq_false_iff_ne.mpr h, Bool.false_and]
theorem lay_ints : ∀ ns : List Int, PyData.canLayAll0 (ns.map PyData.int) = true ∧ PyData.depthAll (ns.map PyData.int) = 0
  | [] => ⟨by simp [PyData.canLayAll0], by simp [PyData.depthAll]⟩
  | n :: ns => by
    obtain ⟨h1, h2⟩ := lay_ints ns
    refine ⟨by simp [PyData.canLayAll0, PyData.canLay0, h1], by simp [PyData.depthAll, PyData.depth, h2]⟩
theorem shaped_list (ns : List Int) : SeqAt.shaped (.list (ns.map PyData.int)) = true := by
  obtain ⟨h1, h2⟩ := lay_ints ns
  simp [SeqAt.shaped, PyData.canLay0, PyData.depth, h1, h2]
theorem nv_ints (l : List Nat) : l.map nv = (l.map fun (n : Nat) => (n : Int)).map V.int := by
  rw [List.map_map]
  rfl
theorem cast_inj {l m : List Nat} : (l.map fun (n : Nat) => (n : Int)) = (m.map fun (n : Nat) => (n : Int)) ↔ l = m :=
  List.map_inj_right fun x y h => by omega
theorem cut_16 {l : List Nat} (h : l.length = 20) : cutV (l.map nv) none (some 16) = (l.take 16).map nv := by
  unfold cutV
  rw [HT.sIx_none, show ((16 : Int)) = ((16 : Nat) : Int) from rfl, HT.sIx_nat, List.length_map, h, List.drop_zero, List.map_take]
  rfl
def spRight (K : PySem.W.Frag) : Sp := fun vs H Q _ => ∃ (d : Addr) (l : List Nat), vs = [.ref d] ∧ MsgAt K H d l ∧ ∀ H', Same H H' → Q (.bl (rightB l)) H'
theorem ok_z43 {a : Ad} (T : Tx K mg a) : FnOk P w K mg base CX0 4 a.f_z43 a.d_z43 ["message"] (spRight K) := by
  have G_z50 := ok_z50 (P := P) (w := w) (base := base) T
  have G_z51 := ok_z51 (P := P) (w := w) (base := base) T
  have G_z38 := ok_z38 (P := P) (w := w) (base := base) T
  have G_z29 := ok_z29 (P := P) (w := w) (base := base) T
  refine T.F_z43.ok sc_z43 (fun vs H Q E h => ?_) (fun cdv A outer s H vs Q E hr h => ?_)
  · obtain ⟨d, l, rfl, _⟩ := h
    rfl
  · obtain ⟨d, l, rfl, m, q⟩ := h
    refine ⟨_, (pss_cons (ps_if (PW.pt (pw_or (pt_cmpR (op_neD hr.units) (pe_call G_z29 (hr.mono (by decide)) rfl T.m_z29 T.F_z29.kp T.b_z29 .nil pass0 (pa_cons (pe_slice sl_list (pv 0) po_none (po_some (pe_gint rfl T.g_CHECK_PLACE))) pa_nil)) (pv 0) (nomark _)) (pw_or1 (pt_cmpR op_ge (pe_call G_z38 (hr.mono (by decide)) rfl T.m_z38 T.F_z38.kp T.b_z38 .nil pass0 (pa_cons (pv 0) pa_nil)) (pe_gint rfl T.g_MOST_READERS) (nomark _)))))
        (pss_one (ps_ret pe_bl))
        pss_nil)
      (pss_one (ps_ret (pe_or (pe_call G_z51 (hr.mono (by decide)) rfl T.m_z51 T.F_z51.kp T.b_z51 .nil pass0 (pa_cons (pv 0) pa_nil)) (pe_one (pe_call G_z50 (hr.mono (by decide)) rfl T.m_z50 T.F_z50.kp T.b_z50 .nil pass0 (pa_cons (pv 0) pa_nil))))))), ?_⟩
    have no : ∀ H', Same H H' → ¬ (Km347.checked (l.take 16) = l ∧ gb l 1 < 8) → Q (.bl false) H' := fun H' s z => by
      have e : rightB l = false := by
        unfold rightB
        rw [decide_eq_false z, Bool.false_and]
      have q := q H' s
      rw [e] at q
      exact q
    refine ⟨_, rfl, _, rfl, d, _, rfl, m.sq, fun t ht => ⟨t, l.take 16, rfl, (by rw [upd_same, cut_16 m.ln]), (by rw [List.length_take]; omega), fun H1 p s1 n1 h1 => ?_⟩⟩
    have s2 : Same H H1 := (Same.new ht).trans s1
    have m1 := m.same s2
    refine ⟨_, rfl, .list (((Km347.checked (l.take 16)).map fun (n : Nat) => (n : Int)).map PyData.int), .list ((l.map fun (n : Nat) => (n : Int)).map PyData.int), ?_, ?_, shaped_list _, shaped_list _, _, rfl, ?_⟩
    · refine Dp.lst (SqL.of h1) ?_
      rw [nv_ints]
      exact dp_ints _
    · refine Dp.lst m1.sq ?_
      rw [nv_ints]
      exact dp_ints _
    rw [PyData.eqv, eqv_ints]
    refine iteD (fun c => iteT (no _ s2 ?_)) (fun c => ?_)
    · intro z
      rw [decide_eq_true (cast_inj.mpr z.1)] at c
      cases c
    have c0 : Km347.checked (l.take 16) = l := by
      by_cases z : Km347.checked (l.take 16) = l
      · exact z
      · rw [decide_eq_false (fun y => z (cast_inj.mp y))] at c
        cases c
    refine ⟨_, rfl, d, l, rfl, m1, _, _, rfl, rfl, _, rfl, iteD (fun c => no _ s2 ?_) (fun c => ?_)⟩
    · have c := of_decide_eq_true c
      omega
    have c1 := of_decide_eq_false c
    have e : rightB l = (tapB l || sealB l) := by
      unfold rightB
      rw [decide_eq_true ⟨c0, by omega⟩, Bool.true_and]
    have q := q H1 s2
    rw [e] at q
    refine ⟨_, rfl, d, l, rfl, m1, _, rfl, iteD (fun c => ?_) (fun c => ?_)⟩
    · rw [c, Bool.true_or] at q
      exact q
    · rw [c, Bool.false_or] at q
      exact ⟨_, rfl, d, l, rfl, m1, q⟩
end
end Fb
set_option maxHeartbeats 1000000
namespace Fb
open Km347
theorem insert_perm (x : Tap) : ∀ l : List Tap, (Km347.insert x l).Perm (x :: l)
  | [] => .refl _
  | y :: l => by
    rw [Km347.insert]
    by_cases h : x.before y = true
    · rw [if_pos h]
    · rw [if_neg h]
      exact ((insert_perm x l).cons y).trans (.swap x y l)
theorem insert_filter (x : Tap) (p : Tap → Bool) (hx : p x = false) : ∀ l : List Tap, (Km347.insert x l).filter p = l.filter p
  | [] => by
    rw [Km347.insert, List.filter_cons, if_neg (by rw [hx]; exact Bool.false_ne_true)]
  | y :: l => by
    rw [Km347.insert]
    by_cases h : x.before y = true
    · rw [if_pos h, List.filter_cons, if_neg (by rw [hx]; exact Bool.false_ne_true)]
    · rw [if_neg h, List.filter_cons, List.filter_cons, insert_filter x p hx l]
def ofs (c : Centre) (card day : Nat) : List Tap := c.taps.filter fun x => x.card == card && x.minute / DAY == day
theorem mem_ofs {c : Centre} {card day : Nat} {x : Tap} : x ∈ ofs c card day ↔ x ∈ c.taps ∧ x.card = card ∧ x.minute / DAY = day := by
  unfold ofs
  rw [List.mem_filter, Bool.and_eq_true, beq_iff_eq, beq_iff_eq]
def le3 (a b : Tap) : Prop := a.minute < b.minute ∨ (a.minute = b.minute ∧ (a.reader < b.reader ∨ (a.reader = b.reader ∧ a.number ≤ b.number)))
theorem sooner_iff {a b : Tap} : sooner a b = true ↔ a.minute < b.minute ∨ (a.minute = b.minute ∧ (a.reader < b.reader ∨ (a.reader = b.reader ∧ a.number < b.number))) := by
  unfold sooner Tap.before
  simp only [Bool.or_eq_true, Bool.and_eq_true, decide_eq_true_eq]
theorem inTime_perm (x : Tap) : ∀ l : List Tap, (inTime x l).Perm (x :: l)
  | [] => .refl _
  | y :: l => by
    rw [inTime]
    by_cases h : sooner x y = true
    · rw [if_pos h]
    · rw [if_neg h]
      exact ((inTime_perm x l).cons y).trans (.swap x y l)
theorem inTime_sorted (x : Tap) : ∀ {l : List Tap}, l.Pairwise le3 → (inTime x l).Pairwise le3
  | [], _ => by
    rw [inTime]
    simp
  | y :: l, h => by
    obtain ⟨h1, h2⟩ := List.pairwise_cons.mp h
    rw [inTime]
    by_cases q : sooner x y = true
    · rw [if_pos q]
      have q := sooner_iff.mp q
      refine List.pairwise_cons.mpr ⟨fun z hz => ?_, h⟩
      rcases List.mem_cons.mp hz with e | e
      · rw [e]
        unfold le3
        omega
      · have := h1 z e
        unfold le3 at *
        omega
    · rw [if_neg q]
      have q : ¬ _ := fun z => q (sooner_iff.mpr z)
      refine List.pairwise_cons.mpr ⟨fun z hz => ?_, inTime_sorted x h2⟩
      rcases List.mem_cons.mp ((inTime_perm x l).mem_iff.mp hz) with e | e
      · rw [e]
        unfold le3
        omega
      · exact h1 z e
theorem fold_time : ∀ (l acc : List Tap), acc.Pairwise le3 → (l.foldl (fun l x => inTime x l) acc).Pairwise le3 ∧ (l.foldl (fun l x => inTime x l) acc).Perm (l ++ acc)
  | [], acc, h => ⟨h, .refl _⟩
  | x :: l, acc, h => by
    obtain ⟨h1, h2⟩ := fold_time l (inTime x acc) (inTime_sorted x h)
    refine ⟨h1, h2.trans ?_⟩
    exact ((inTime_perm x acc).append_left l).trans List.perm_middle
theorem of_ok (c : Centre) (card day : Nat) : (c.of card day).Pairwise le3 ∧ (c.of card day).Perm (ofs c card day) := by
  have h := fold_time (ofs c card day) [] .nil
  rw [List.append_nil] at h
  exact h
structure COk (c : Centre) : Prop where
  r1 : 1 ≤ c.readers
  r8 : c.readers ≤ 8
  s8 : c.seals.length = 8
  tp : ∀ x ∈ c.taps, 1 ≤ x.zones ∧ x.zones < 256 ∧ x.number < 8192
  nd : c.taps.Pairwise fun a b => ¬ (a.reader = b.reader ∧ a.number = b.number)
theorem nd_eq {l : List Tap} (nd : l.Pairwise fun a b => ¬ (a.reader = b.reader ∧ a.number = b.number)) {a b : Tap} (ha : a ∈ l) (hb : b ∈ l) (e1 : a.reader = b.reader) (e2 : a.number = b.number) : a = b := by
  induction l with
  | nil => cases ha
  | cons x l ih =>
    obtain ⟨h1, h2⟩ := List.pairwise_cons.mp nd
    rcases List.mem_cons.mp ha with p | p <;> rcases List.mem_cons.mp hb with q | q
    · rw [p, q]
    · exact absurd ⟨by rw [← p]; exact e1, by rw [← p]; exact e2⟩ (h1 b q)
    · exact absurd ⟨by rw [← q]; exact e1.symm, by rw [← q]; exact e2.symm⟩ (h1 a p)
    · exact ih h2 p q
theorem of_eq {c : Centre} (ok : COk c) {card day : Nat} {xs : List Tap} (h1 : xs.Perm (ofs c card day)) (h2 : xs.Pairwise le3) : xs = c.of card day := by
  obtain ⟨s1, s2⟩ := of_ok c card day
  refine List.Perm.eq_of_pairwise (le := le3) (fun a b ha hb l1 l2 => ?_) h2 s1 (h1.trans s2.symm)
  have ma := (mem_ofs.mp (h1.mem_iff.mp ha)).1
  have mb := (mem_ofs.mp (s2.mem_iff.mp hb)).1
  refine nd_eq ok.nd ma mb ?_ ?_
  · unfold le3 at *
    omega
  · unfold le3 at *
    omega
theorem knows_iff {c : Centre} {r n : Nat} : c.knows r n = true ↔ ∃ x ∈ c.taps, x.reader = r ∧ x.number = n := by
  unfold Centre.knows
  rw [List.any_eq_true]
  simp only [Bool.and_eq_true, beq_iff_eq]
def plus (c : Centre) (x : Tap) : Centre := { c with taps := Km347.insert x c.taps }
theorem knows_plus (c : Centre) (x : Tap) (r n : Nat) : (plus c x).knows r n = ((x.reader == r && x.number == n) || c.knows r n) := by
  rw [Bool.eq_iff_iff, Bool.or_eq_true, Bool.and_eq_true, beq_iff_eq, beq_iff_eq, knows_iff, knows_iff]
  constructor
  · rintro ⟨y, hy, e1, e2⟩
    rcases List.mem_cons.mp ((insert_perm x c.taps).mem_iff.mp hy) with e | e
    · rw [e] at e1 e2
      exact .inl ⟨e1, e2⟩
    · exact .inr ⟨y, e, e1, e2⟩
  · rintro (⟨e1, e2⟩ | ⟨y, hy, e1, e2⟩)
    · exact ⟨x, (insert_perm x c.taps).mem_iff.mpr (List.mem_cons_self ..), e1, e2⟩
    · exact ⟨y, (insert_perm x c.taps).mem_iff.mpr (List.mem_cons_of_mem _ hy), e1, e2⟩
theorem ofs_same {c : Centre} {x : Tap} {card day : Nat} (h : ¬ (x.card = card ∧ x.minute / DAY = day)) : ofs (plus c x) card day = ofs c card day := by
  unfold ofs plus
  refine insert_filter x _ ?_ _
  cases q : (x.card == card && x.minute / DAY == day) with
  | false => rfl
  | true =>
    rw [Bool.and_eq_true, beq_iff_eq, beq_iff_eq] at q
    exact absurd q h
theorem ofs_more {c : Centre} {x : Tap} {card day : Nat} (h : x.card = card ∧ x.minute / DAY = day) : (ofs (plus c x) card day).Perm (x :: ofs c card day) := by
  unfold ofs plus
  refine ((insert_perm x c.taps).filter _).trans ?_
  rw [List.filter_cons, if_pos (by rw [Bool.and_eq_true, beq_iff_eq, beq_iff_eq]; exact h)]
theorem rides_same {c : Centre} {x : Tap} {card day : Nat} (h : ¬ (x.card = card ∧ x.minute / DAY = day)) : (plus c x).rides card day = c.rides card day := by
  have e := ofs_same (c := c) h
  unfold Centre.rides Centre.of
  unfold ofs at e
  rw [e]
theorem rides_len (c : Centre) (card day : Nat) : (c.rides card day).length = (ofs c card day).length := by
  unfold Centre.rides
  rw [List.length_map]
  exact (of_ok c card day).2.length_eq
theorem COk.plus {c : Centre} (ok : COk c) {x : Tap} (hz : 1 ≤ x.zones ∧ x.zones < 256 ∧ x.number < 8192) (hk : c.knows x.reader x.number = false) : COk (Fb.plus c x) := by
  refine ⟨ok.r1, ok.r8, ok.s8, fun y hy => ?_, ?_⟩
  · rcases List.mem_cons.mp ((insert_perm x c.taps).mem_iff.mp hy) with e | e
    · rw [e]
      exact hz
    · exact ok.tp y e
  · have sym : ∀ {a b : Tap}, ¬ (a.reader = b.reader ∧ a.number = b.number) → ¬ (b.reader = a.reader ∧ b.number = a.number) := fun h z => h ⟨z.1.symm, z.2.symm⟩
    refine (List.Perm.pairwise_iff sym (insert_perm x c.taps)).mpr (List.pairwise_cons.mpr ⟨fun y hy z => ?_, ok.nd⟩)
    have : c.knows x.reader x.number = true := knows_iff.mpr ⟨y, hy, z.1.symm, z.2.symm⟩
    rw [hk] at this
    cases this
theorem lacks_at {c : Centre} {r u : Nat} (h1 : ∀ m, m < u → c.knows r m = true) (h2 : c.knows r u = false) : c.lacks r = if u < (c.sealAt r).1 then some u else none := by
  unfold Centre.lacks
  by_cases h : u < (c.sealAt r).1
  · rw [if_pos h, List.find?_range_eq_some]
    refine ⟨by rw [h2]; rfl, List.mem_range.mpr h, fun j hj => ?_⟩
    rw [h1 j hj]
    rfl
  · rw [if_neg h, List.find?_eq_none]
    intro m hm
    rw [h1 m (by have := List.mem_range.mp hm; omega)]
    decide
def withSeal (c : Centre) (r many minute : Nat) : Centre := { c with seals := c.seals.set r (many, minute) }
theorem sealAt_set {c : Centre} {r s many minute : Nat} (hr : r < c.seals.length) : (withSeal c r many minute).sealAt s = if r = s then (many, minute) else c.sealAt s := by
  unfold withSeal Centre.sealAt
  show (c.seals.set r (many, minute)).getD s (0, 0) = _
  rw [List.getD_eq_getElem?_getD, List.getD_eq_getElem?_getD]
  by_cases h : r = s
  · subst h
    rw [if_pos rfl, List.getElem?_set_self hr]
    rfl
  · rw [if_neg h, List.getElem?_set_ne h]
theorem COk.withSeal {c : Centre} (ok : COk c) (r many minute : Nat) : COk (Fb.withSeal c r many minute) :=
  ⟨ok.r1, ok.r8, by show (c.seals.set r (many, minute)).length = 8; rw [List.length_set]; exact ok.s8, ok.tp, ok.nd⟩
theorem COk.start {t : Tariff} {n : Nat} (h1 : 1 ≤ n) (h2 : n ≤ 8) : COk (centre0 t n) :=
  ⟨h1, h2, (by simp [centre0, READERS]), (fun x hx => by cases hx), List.Pairwise.nil⟩
end Fb
namespace Fb
open PySem PySem.Spec PyProof.Rows L2
structure CA where
  pc : Addr
  pt : Addr
  ls : Addr
  lp : Addr
  dT : Addr
  dS : Addr
  dU : Addr
  dR : Addr
  dW : Addr
  dx : Addr
  pas : List Addr
  sas : List Addr
  us : List Nat
  kT : List (List Key × V)
  kR : List (List Key × V)
  kW : List (List Key × V)
abbrev k2 (a b : Nat) : List Key := [Sum.inl (a : Int), Sum.inl (b : Int)]
theorem k2_inj {a b c d : Nat} (h : k2 a b = k2 c d) : a = c ∧ b = d := by
  injection h with h1 h2
  injection h2 with h2 _
  have e1 := Sum.inl.inj h1
  have e2 := Sum.inl.inj h2
  exact ⟨by omega, by omega⟩
def tapV (x : Km347.Tap) : List V := [nv x.minute, nv x.reader, nv x.number, nv x.zones]
def sealV (c : Km347.Centre) (r : Nat) : List V := [nv (c.sealAt r).2, nv (c.sealAt r).1]
def foot (A : CA) (b : Addr) : Prop := b = A.pc ∨ b = A.pt ∨ b = A.ls ∨ b = A.lp ∨ b = A.dT ∨ b = A.dS ∨ b = A.dU ∨ b = A.dR ∨ b = A.dW ∨ ∃ k, valV A.kR k = some (.ref b)
structure CtAt (a : Ad) (H : Hp) (A : CA) (c : Km347.Centre) (n : Nat) : Prop where
  ob : H A.pc = some (.ins a.c_Centre A.dx (fs_Centre (nv c.readers) (.ref A.pt) (.ref A.dT) (.ref A.dS) (.ref A.dU) (.ref A.dR) (.ref A.dW)))
  tf : TfAt a.c_Tariff H A.pt A.ls A.lp A.pas c.tariff
  hT : H A.dT = some (.dT A.kT)
  hS : H A.dS = some (.lst (A.sas.map V.ref))
  hU : H A.dU = some (.lst (A.us.map nv))
  hR : H A.dR = some (.dT A.kR)
  hW : H A.dW = some (.dT A.kW)
  vT : ∀ r m : Nat, valV A.kT (k2 r m) = if c.knows r m = true then some (.bl true) else none
  vS : TupsAt H A.sas ((List.range c.readers).map (sealV c))
  vU : A.us.length = c.readers ∧ ∀ r u, A.us[r]? = some u → (∀ m, m < u → c.knows r m = true) ∧ c.knows r u = false
  vR : ∀ card day : Nat, (valV A.kR (k2 card day) = none ∧ ofs c card day = []) ∨ ∃ (l : Addr) (as : List Addr) (xs : List Km347.Tap), valV A.kR (k2 card day) = some (.ref l) ∧ H l = some (.lst (as.map V.ref)) ∧ xs.Perm (ofs c card day) ∧ TupsAt H as (xs.map tapV)
  vW : ∀ (card day : Nat) v, valV A.kW (k2 card day) = some v → ∃ q, v = .ref q ∧ H q = some (.tup [nv (tgtOf c.tariff (c.rides card day)).1, nv (tgtOf c.tariff (c.rides card day)).2])
  inj : ∀ k j l, valV A.kR k = some (.ref l) → valV A.kR j = some (.ref l) → k = j
  rl : ∀ k v, valV A.kR k = some v → ∃ l, v = .ref l ∧ (∃ xs, H l = some (.lst xs)) ∧ l ≠ A.dS ∧ l ≠ A.dU ∧ l ≠ A.ls ∧ l ≠ A.lp
  ap : A.dT ≠ A.dR ∧ A.dT ≠ A.dW ∧ A.dR ≠ A.dW ∧ A.dS ≠ A.dU ∧ A.dS ≠ A.ls ∧ A.dS ≠ A.lp ∧ A.dU ≠ A.ls ∧ A.dU ≠ A.lp
  few : A.kT.length ≤ n ∧ A.kR.length ≤ n ∧ A.kW.length ≤ n ∧ c.taps.length ≤ n
  ok : COk c
theorem CtAt.more {a : Ad} {H : Hp} {A : CA} {c : Km347.Centre} {n m : Nat} (h : CtAt a H A c n) (hm : n ≤ m) : CtAt a H A c m :=
  ⟨h.ob, h.tf, h.hT, h.hS, h.hU, h.hR, h.hW, h.vT, h.vS, h.vU, h.vR, h.vW, h.inj, h.rl, h.ap, ⟨Nat.le_trans h.few.1 hm, Nat.le_trans h.few.2.1 hm, Nat.le_trans h.few.2.2.1 hm, Nat.le_trans h.few.2.2.2 hm⟩, h.ok⟩
theorem CtAt.noTup {a : Ad} {H : Hp} {A : CA} {c : Km347.Centre} {n : Nat} (h : CtAt a H A c n) {b : Addr} {xs : List V} (e : H b = some (.tup xs)) : ¬ foot A b := by
  obtain ⟨dx, tob⟩ := h.tf.ob
  rintro (z | z | z | z | z | z | z | z | z | ⟨k, z⟩)
  · rw [z, h.ob] at e
    cases e
  · rw [z, tob] at e
    cases e
  · rw [z, h.tf.sg] at e
    cases e
  · rw [z, h.tf.pp] at e
    cases e
  · rw [z, h.hT] at e
    cases e
  · rw [z, h.hS] at e
    cases e
  · rw [z, h.hU] at e
    cases e
  · rw [z, h.hR] at e
    cases e
  · rw [z, h.hW] at e
    cases e
  · obtain ⟨l, e1, ⟨ys, e2⟩, _⟩ := h.rl k _ z
    cases e1
    rw [e2] at e
    cases e
theorem CtAt.there {a : Ad} {H : Hp} {A : CA} {c : Km347.Centre} {n : Nat} (h : CtAt a H A c n) {b : Addr} (f : foot A b) : H b ≠ none := by
  obtain ⟨dx, tob⟩ := h.tf.ob
  intro e
  rcases f with z | z | z | z | z | z | z | z | z | ⟨k, z⟩
  · rw [z, h.ob] at e
    cases e
  · rw [z, tob] at e
    cases e
  · rw [z, h.tf.sg] at e
    cases e
  · rw [z, h.tf.pp] at e
    cases e
  · rw [z, h.hT] at e
    cases e
  · rw [z, h.hS] at e
    cases e
  · rw [z, h.hU] at e
    cases e
  · rw [z, h.hR] at e
    cases e
  · rw [z, h.hW] at e
    cases e
  · obtain ⟨l, e1, ⟨ys, e2⟩, _⟩ := h.rl k _ z
    cases e1
    rw [e2] at e
    cases e
theorem CtAt.keep {a : Ad} {H H' : Hp} {A : CA} {c : Km347.Centre} {n : Nat} (h : CtAt a H A c n) (kf : ∀ b o, H b = some o → foot A b → H' b = some o) (kt : ∀ q xs, H q = some (.tup xs) → H' q = some (.tup xs)) : CtAt a H' A c n := by
  obtain ⟨dx, tob⟩ := h.tf.ob
  refine ⟨kf _ _ h.ob (.inl rfl), ⟨⟨dx, kf _ _ tob (.inr (.inl rfl))⟩, kf _ _ h.tf.sg (.inr (.inr (.inl rfl))), kf _ _ h.tf.pp (.inr (.inr (.inr (.inl rfl)))), h.tf.ps.keep kt, h.tf.s8, h.tf.p3⟩,
    kf _ _ h.hT (.inr (.inr (.inr (.inr (.inl rfl))))), kf _ _ h.hS (.inr (.inr (.inr (.inr (.inr (.inl rfl)))))), kf _ _ h.hU (.inr (.inr (.inr (.inr (.inr (.inr (.inl rfl))))))), kf _ _ h.hR (.inr (.inr (.inr (.inr (.inr (.inr (.inr (.inl rfl)))))))),
    kf _ _ h.hW (.inr (.inr (.inr (.inr (.inr (.inr (.inr (.inr (.inl rfl))))))))), h.vT, h.vS.keep kt, h.vU, fun card day => ?_, fun card day v e => ?_, h.inj, fun k v e => ?_, h.ap, h.few, h.ok⟩
  · rcases h.vR card day with z | ⟨l, as, xs, z1, z2, z3, z4⟩
    · exact .inl z
    · exact .inr ⟨l, as, xs, z1, kf _ _ z2 (.inr (.inr (.inr (.inr (.inr (.inr (.inr (.inr (.inr ⟨_, z1⟩))))))))), z3, z4.keep kt⟩
  · obtain ⟨q, e1, e2⟩ := h.vW card day v e
    exact ⟨q, e1, kt _ _ e2⟩
  · obtain ⟨l, e1, ⟨xs, e2⟩, e3⟩ := h.rl k v e
    subst e1
    exact ⟨l, rfl, ⟨xs, kf _ _ e2 (.inr (.inr (.inr (.inr (.inr (.inr (.inr (.inr (.inr ⟨_, e⟩)))))))))⟩, e3⟩
theorem CtAt.same {a : Ad} {H H' : Hp} {A : CA} {c : Km347.Centre} {n : Nat} (h : CtAt a H A c n) (s : Same H H') : CtAt a H' A c n := h.keep (fun b o e _ => s b o e) fun q xs e => s _ _ e
theorem CtAt.sealed {a : Ad} {H : Hp} {A : CA} {c : Km347.Centre} {n r : Nat} (h : CtAt a H A c n) (hr : r < c.readers) : ∃ q, A.sas[r]? = some q ∧ H q = some (.tup (sealV c r)) :=
  h.vS.2 r _ (get_map (by rw [List.getElem?_range hr]))
theorem CtAt.unh {a : Ad} {H : Hp} {A : CA} {c : Km347.Centre} {n r : Nat} (h : CtAt a H A c n) (hr : r < c.readers) : ∃ u, A.us[r]? = some u ∧ (∀ m, m < u → c.knows r m = true) ∧ c.knows r u = false := by
  have hl : r < A.us.length := by
    rw [h.vU.1]
    exact hr
  exact ⟨_, List.getElem?_eq_getElem hl, h.vU.2 r _ (List.getElem?_eq_getElem hl)⟩
section
variable {P : Program} {w : World} {K : PySem.W.Frag} {mg : Str → Option Value} {base : Heap}
def spGap (a : Ad) : Sp := fun vs H Q _ => ∃ (A : CA) (c : Km347.Centre) (n r : Nat), vs = [.ref A.pc, nv r] ∧ CtAt a H A c n ∧ r < c.readers ∧ Q (.bl (c.lacks r).isSome) H
theorem ok_z10 {a : Ad} (T : Tx K mg a) : FnOk P w K mg base CX0 1 a.f_z10 a.d_z10 ["self", "reader"] (spGap a) := by
  refine T.F_z10.ok sc_z10 (fun vs H Q E h => ?_) (fun cdv A outer s H vs Q E hr h => ?_)
  · obtain ⟨A, c, n, r, rfl, _⟩ := h
    rfl
  · obtain ⟨A, c, n, r, rfl, ct, hr2, q⟩ := h
    refine ⟨_, (pss_one (ps_ret (pe_cmpR op_lt (pe_ix ix_list (pe_fld (pv 0) rfl) (pv 1) (fun _ _ => rfl)) (pe_ix ix_tup (pe_ix ix_list (pe_fld (pv 0) rfl) (pv 1) (fun _ _ => rfl)) pe_int (fun _ _ => rfl)) (nomark _)))), ?_⟩
    obtain ⟨u, hu1, hu2, hu3⟩ := ct.unh hr2
    obtain ⟨t, ht1, ht2⟩ := ct.sealed hr2
    refine ⟨_, rfl, A.pc, _, A.dx, _, _, rfl, ct.ob, T.cl_Centre, T.na_Centre_unheard, lk_Centre_unheard, _, rfl, A.dU, _, _, _, rfl, rfl, SqL.of ct.hU, atI_nat (get_map hu1), _, rfl, A.pc, _, A.dx, _, _, rfl, ct.ob, T.cl_Centre, T.na_Centre_seals, lk_Centre_seals, _, rfl, A.dS, _, _, _, rfl, rfl, SqL.of ct.hS, atI_nat (get_map ht1), t, _, _, _, rfl, rfl, SqT.of ht2, atI_nat (j := 1) rfl, _, _, rfl, rfl, ?_⟩
    rw [lacks_at hu2 hu3] at q
    have e : (if u < (c.sealAt r).1 then some u else none).isSome = decide ((u : Int) < ((c.sealAt r).1 : Int)) := by
      by_cases z : u < (c.sealAt r).1
      · rw [if_pos z, decide_eq_true (by omega)]
        rfl
      · rw [if_neg z, decide_eq_false (by omega)]
        rfl
    rw [e] at q
    exact q
def spLacks (a : Ad) : Sp := fun vs H Q _ => ∃ (A : CA) (c : Km347.Centre) (n r : Nat), vs = [.ref A.pc, nv r] ∧ CtAt a H A c n ∧ New H Q ((Km347Neutral.told (Km347.cDoes c (.cLacks r)).2).map V.int)
theorem ok_z13 {a : Ad} (T : Tx K mg a) : FnOk P w K mg base CX0 2 a.f_z13 a.d_z13 ["self", "reader"] (spLacks a) := by
  have G_z10 := ok_z10 (P := P) (w := w) (base := base) T
  refine T.F_z13.ok sc_z13 (fun vs H Q E h => ?_) (fun cdv A outer s H vs Q E hr h => ?_)
  · obtain ⟨A, c, n, r, rfl, _⟩ := h
    rfl
  · obtain ⟨A, c, n, r, rfl, ct, k⟩ := h
    refine ⟨_, (pss_cons (ps_if (pt_cmpR op_ge (pv 1) (pe_fld (pv 0) rfl) (nomark _))
        (pss_one (ps_ret (pe_lst (pa_cons (pe_gint rfl T.g_WRONG_VALUE) pa_nil))))
        pss_nil)
      (pss_cons (ps_if (pt_not (pt_val (pe_meth (pv 0) T.cl_Centre T.h_z10 G_z10 (hr.mono (by decide)) T.b_z10 .nil pass0 (pa_cons (pv 1) pa_nil))))
        (pss_one (ps_ret (pe_lst (pa_cons (pe_gint rfl T.g_NOTHING_LACKS) pa_nil))))
        pss_nil)
      (pss_one (ps_ret (pe_lst (pa_cons (pe_ix ix_list (pe_fld (pv 0) rfl) (pv 1) (fun _ _ => rfl)) pa_nil)))))), ?_⟩
    refine ⟨_, rfl, _, rfl, A.pc, _, A.dx, _, _, rfl, ct.ob, T.cl_Centre, T.na_Centre_reader_count, lk_Centre_reader_count, _, _, rfl, rfl, _, rfl, iteD (fun h1 => ?_) (fun h1 => ?_)⟩
    · have h1 := of_decide_eq_true h1
      refine ⟨(by show 1 ≤ sizeLine; decide), fun p hp => k _ p (Same.new hp) hp ?_⟩
      rw [upd_same]
      simp only [Km347.cDoes, if_pos (show c.readers ≤ r by omega), told_only]
    · have h1 := of_decide_eq_false h1
      have hr2 : r < c.readers := by omega
      obtain ⟨u, hu1, hu2, hu3⟩ := ct.unh hr2
      refine ⟨_, rfl, A.pc, A.dx, _, rfl, ct.ob, nm_z10, _, rfl, A, c, n, r, rfl, ct, hr2, _, rfl, ?_⟩
      have e := lacks_at hu2 hu3
      by_cases z : u < (c.sealAt r).1
      · rw [if_pos z] at e
        rw [e]
        refine iteF ⟨_, rfl, A.pc, _, A.dx, _, _, rfl, ct.ob, T.cl_Centre, T.na_Centre_unheard, lk_Centre_unheard, _, rfl, A.dU, _, _, _, rfl, rfl, SqL.of ct.hU, atI_nat (get_map hu1), (by show 1 ≤ sizeLine; decide), fun p hp => k _ p (Same.new hp) hp ?_⟩
        rw [upd_same]
        simp only [Km347.cDoes, if_neg (show ¬ c.readers ≤ r by omega), e, told_only]
      · rw [if_neg z] at e
        rw [e]
        refine iteT ⟨(by show 1 ≤ sizeLine; decide), fun p hp => k _ p (Same.new hp) hp ?_⟩
        rw [upd_same]
        simp only [Km347.cDoes, if_neg (show ¬ c.readers ≤ r by omega), e, told_only]
def spClosed (a : Ad) : Sp := fun vs H Q _ => ∃ (A : CA) (c : Km347.Centre) (n day : Nat), vs = [.ref A.pc, nv day] ∧ CtAt a H A c n ∧ Q (.bl (c.closed day)) H
theorem ok_z5 {a : Ad} (T : Tx K mg a) : FnOk P w K mg base CX0 2 a.f_z5 a.d_z5 ["self", "day"] (spClosed a) := by
  have G_z10 := ok_z10 (P := P) (w := w) (base := base) T
  refine T.F_z5.ok sc_z5 (fun vs H Q E h => ?_) (fun cdv A outer s H vs Q E hr h => ?_)
  · obtain ⟨A, c, n, day, rfl, _⟩ := h
    rfl
  · obtain ⟨A, c, n, day, rfl, ct, q⟩ := h
    refine ⟨_, (pss_cons (ps_set (i := 2) sc_z5.nd rfl (Or.inl rfl) (pe_op op_mul (pe_gint rfl T.g_DAY_MINUTES) (pe_op op_add (pv 1) pe_int)))
      (pss_cons (ps_for PassesOwn.never rfl (pi_range1 rfl T.n_range (pa_cons (pe_fld (pv 0) rfl) pa_nil)) (pg_name (i := 3) sc_z5.nd rfl (Or.inl rfl))
        (pss_one (ps_if (PW.pt (pw_or (pt_cmpR op_lt (pe_ix ix_tup (pe_ix ix_list (pe_fld (pv 0) rfl) (pv 3) (fun _ _ => rfl)) pe_int (fun _ _ => rfl)) (pv 2) (nomark _)) (pw_or1 (pt_val (pe_meth (pv 0) T.cl_Centre T.h_z10 G_z10 (hr.mono (by decide)) T.b_z10 .nil pass0 (pa_cons (pv 3) pa_nil))))))
          (pss_one (ps_ret pe_bl))
          pss_nil)))
      (pss_one (ps_ret pe_bl)))), ?_⟩
    have no : ∀ r, r < c.readers → (decide (Km347.DAY * (day + 1) ≤ (c.sealAt r).2) && (c.lacks r).isNone) = false → Q (.bl false) H := fun r hr z => by
      have e : c.closed day = false := by
        unfold Km347.Centre.closed
        rw [List.all_eq_false]
        exact ⟨r, List.mem_range.mpr hr, by rw [z]; exact Bool.false_ne_true⟩
      rw [e] at q
      exact q
    have r8 := ct.ok.r8
    refine ⟨_, rfl, _, _, rfl, rfl, _, _, rfl, rfl, .inl ⟨by decide, by decide⟩, ?_⟩
    refine ⟨_, rfl, A.pc, _, A.dx, _, _, rfl, ct.ob, T.cl_Centre, T.na_Centre_reader_count, lk_Centre_reader_count, _, rfl, (by show -(2 ^ 62) ≤ ((c.readers : Nat) : Int); omega), (by show ((c.readers : Nat) : Int) < 2 ^ 62; omega), ?_⟩
    rw [show ((c.readers : Nat) : Int).toNat = c.readers from Int.toNat_natCast _]
    refine for_range (lo := 0) (n := c.readers) (fun i σ H' => ∃ v3 : Option V, σ = [some (.ref A.pc), some (nv day), some (.int (1440 * ((day : Int) + 1))), v3] ∧ H' = H ∧ ∀ r, r < i → (decide (Km347.DAY * (day + 1) ≤ (c.sealAt r).2) && (c.lacks r).isNone) = true)
      ⟨none, rfl, rfl, fun r hr => by omega⟩ ?_ ?_
    · rintro i σ H' hi ⟨v3, rfl, rfl, al⟩
      obtain ⟨t, ht1, ht2⟩ := ct.sealed hi
      rw [show (0 : Int) + (i : Int) = ((i : Nat) : Int) from by omega]
      refine ⟨_, rfl, A.pc, _, A.dx, _, _, rfl, ct.ob, T.cl_Centre, T.na_Centre_seals, lk_Centre_seals, _, rfl, A.dS, _, _, _, rfl, rfl, SqL.of ct.hS, atI_nat (get_map ht1), t, _, _, _, rfl, rfl, SqT.of ht2, atI_nat (j := 0) rfl, _, rfl, _, _, rfl, rfl, _, rfl, iteD (fun c1 => iteT ?_) (fun c1 => ?_)⟩
      · have c1 := of_decide_eq_true c1
        refine no i hi ?_
        rw [decide_eq_false (show ¬ Km347.DAY * (day + 1) ≤ (c.sealAt i).2 by unfold Km347.DAY; omega), Bool.false_and]
      · have c1 := of_decide_eq_false c1
        have e1 : decide (Km347.DAY * (day + 1) ≤ (c.sealAt i).2) = true := decide_eq_true (by unfold Km347.DAY; omega)
        refine ⟨_, rfl, A.pc, A.dx, _, rfl, ct.ob, nm_z10, _, rfl, A, c, n, i, rfl, ct, hi, _, rfl, iteD (fun c2 => ?_) (fun c2 => ?_)⟩
        · refine no i hi ?_
          rw [e1, Bool.true_and]
          cases z : c.lacks i with
          | none =>
            rw [z] at c2
            cases c2
          | some y => rfl
        · refine ⟨_, rfl, rfl, fun r hr => ?_⟩
          by_cases e : r = i
          · rw [e, e1, Bool.true_and]
            cases z : c.lacks i with
            | none => rfl
            | some y =>
              rw [z] at c2
              cases c2
          · exact al r (by omega)
    · rintro σ H' ⟨v3, rfl, rfl, al⟩
      have e : c.closed day = true := by
        unfold Km347.Centre.closed
        rw [List.all_eq_true]
        exact fun r hr => al r (List.mem_range.mp hr)
      rw [e] at q
      exact q
end
end Fb
namespace Fb
open PySem PySem.Spec PyProof.Rows L2
theorem valV_drop {kvs : List (List Key × V)} {k j : List Key} : valV (dropK kvs k) j = if j = k then none else valV kvs j := by
  induction kvs with
  | nil =>
    rw [show dropK ([] : List (List Key × V)) k = [] from rfl, valV_nil]
    by_cases h : j = k
    · rw [if_pos h]
    · rw [if_neg h]
  | cons p r ih =>
    by_cases e : p.1 = k
    · rw [dropK_pos e, ih]
      by_cases h : j = k
      · rw [if_pos h, if_pos h]
      · rw [if_neg h, if_neg h, valV_neg (fun z => h (by rw [← z, e]))]
    · rw [dropK_neg e]
      by_cases h : p.1 = j
      · rw [valV_pos h, if_neg (fun z => e (by rw [h, z])), valV_pos h]
      · rw [valV_neg h, ih, valV_neg h]
section
variable {P : Program} {w : World} {K : PySem.W.Frag} {mg : Str → Option Value} {base : Heap}
def spCount (a : Ad) : Sp := fun vs H Q _ => ∃ (A : CA) (c : Km347.Centre) (n card day : Nat), vs = [.ref A.pc, nv card, nv day] ∧ CtAt a H A c n ∧ ∀ H', Same H H' → Q (nv (c.rides card day).length) H'
theorem ok_z1 {a : Ad} (T : Tx K mg a) : FnOk P w K mg base CX0 1 a.f_z1 a.d_z1 ["self", "card", "day"] (spCount a) := by
  refine T.F_z1.ok sc_z1 (fun vs H Q E h => ?_) (fun cdv A outer s H vs Q E hr h => ?_)
  · obtain ⟨A, c, n, card, day, rfl, _⟩ := h
    rfl
  · obtain ⟨A, c, n, card, day, rfl, ct, q⟩ := h
    have hu := hu_of hr
    refine ⟨_, (pss_one (ps_ret (pe_callB call_len_seq rfl T.n_len PySem.boot_len (pa_cons (pe_dget2 hu (pe_fld (pv 0) rfl) (pe_tup (pa_cons (pv 1) (pa_cons (pv 2) pa_nil))) (pe_lst pa_nil) ⟨rfl, rfl, rfl, rfl⟩) pa_nil)))), ?_⟩
    refine ⟨_, rfl, A.pc, _, A.dx, _, _, rfl, ct.ob, T.cl_Centre, T.na_Centre_rides, lk_Centre_rides, A.dR, rfl, .inr ⟨_, Rd.of ct.hR⟩, _, rfl, _, rfl, (by show 2 ≤ sizeLine; decide), fun t ht => ⟨Nat.zero_le _, fun l0 hl0 => ?_⟩⟩
    have s2 : Same H (upd (upd H t (.tup [nv card, nv day])) l0 (.lst [])) := (Same.new ht).trans (Same.new hl0)
    have htl : (upd (upd H t (.tup [nv card, nv day])) l0 (.lst [])) t = some (.tup ((k2 card day).map kV)) := by
      rw [upd_ne (ne_of_none upd_same hl0), upd_same]
      rfl
    refine ⟨_, DGet.t (k := k2 card day) (s2 _ _ ct.hR) htl, ?_⟩
    have q := q _ s2
    rw [rides_len] at q
    rcases ct.vR card day with ⟨v1, v2⟩ | ⟨l, as, xs, v1, v2, v3, v4⟩
    · rw [v1]
      refine ⟨l0, [], rfl, .inl (SqL.of upd_same), ?_⟩
      rw [v2] at q
      exact q
    · rw [v1]
      refine ⟨l, _, rfl, .inl (SqL.of (s2 _ _ v2)), ?_⟩
      rw [List.length_map, v4.1, List.length_map, v3.length_eq]
      exact q
def rf (c : Km347.Centre) (card day : Nat) : Int := if Km347.MINUTES ≤ Km347.DAY * day then -22 else if Km347.RIDES < (c.rides card day).length then -28 else 0
def spRefusal (a : Ad) : Sp := fun vs H Q _ => ∃ (A : CA) (c : Km347.Centre) (n card day : Nat), vs = [.ref A.pc, nv card, nv day] ∧ CtAt a H A c n ∧ ∀ H', Same H H' → Q (.int (rf c card day)) H'
theorem ok_z3 {a : Ad} (T : Tx K mg a) : FnOk P w K mg base CX0 2 a.f_z3 a.d_z3 ["self", "card", "day"] (spRefusal a) := by
  have G_z1 := ok_z1 (P := P) (w := w) (base := base) T
  refine T.F_z3.ok sc_z3 (fun vs H Q E h => ?_) (fun cdv A outer s H vs Q E hr h => ?_)
  · obtain ⟨A, c, n, card, day, rfl, _⟩ := h
    rfl
  · obtain ⟨A, c, n, card, day, rfl, ct, q⟩ := h
    refine ⟨_, (pss_cons (ps_if (pt_cmpR op_ge (pe_op op_mul (pe_gint rfl T.g_DAY_MINUTES) (pv 2)) (pe_gint rfl T.g_MINUTE_LIMIT) (nomark _))
        (pss_one (ps_ret (pe_gint rfl T.g_WRONG_VALUE)))
        pss_nil)
      (pss_cons (ps_if (pt_cmpR op_gt (pe_meth (pv 0) T.cl_Centre T.h_z1 G_z1 (hr.mono (by decide)) T.b_z1 .nil pass0 (pa_cons (pv 1) (pa_cons (pv 2) pa_nil))) (pe_gint rfl T.g_MOST_RIDES) (nomark _))
        (pss_one (ps_ret (pe_gint rfl T.g_NO_ROOM)))
        pss_nil)
      (pss_one (ps_ret pe_int)))), ?_⟩
    unfold rf at q
    refine ⟨_, rfl, _, _, rfl, rfl, .inl ⟨by decide, by decide⟩, _, _, rfl, rfl, _, rfl, iteD (fun h1 => ?_) (fun h1 => ?_)⟩
    · have h1 := of_decide_eq_true h1
      have q := q H (Same.refl H)
      rw [if_pos (show Km347.MINUTES ≤ Km347.DAY * day by unfold Km347.MINUTES Km347.DAY; omega)] at q
      exact q
    · have h1 := of_decide_eq_false h1
      rw [if_neg (show ¬ Km347.MINUTES ≤ Km347.DAY * day by unfold Km347.MINUTES Km347.DAY; omega)] at q
      refine ⟨_, rfl, A.pc, A.dx, _, rfl, ct.ob, nm_z1, _, rfl, _, rfl, A, c, n, card, day, rfl, ct, fun H1 s1 => ⟨_, _, rfl, rfl, _, rfl, iteD (fun h2 => ?_) (fun h2 => ?_)⟩⟩
      · have h2 := of_decide_eq_true h2
        have q := q H1 s1
        rw [if_pos (show Km347.RIDES < (c.rides card day).length by unfold Km347.RIDES; omega)] at q
        exact q
      · have h2 := of_decide_eq_false h2
        have q := q H1 s1
        rw [if_neg (show ¬ Km347.RIDES < (c.rides card day).length by unfold Km347.RIDES; omega)] at q
        exact q
structure Kept (H H' : Hp) (A : CA) (k : List Key) (rt l : Addr) (xs : List V) (kR' kW' : List (List Key × V)) : Prop where
  fr : ∀ b o, H b = some o → b ≠ A.dR → b ≠ A.dW → b ≠ l → H' b = some o
  ls : (valV A.kR k = some (.ref l) ∧ H l = some (.lst xs) ∧ kR' = A.kR) ∨ (valV A.kR k = none ∧ H l = none ∧ xs = [] ∧ kR' = putK A.kR k (.ref l))
  hR : H' A.dR = some (.dT kR')
  hl : H' l = some (.lst (xs ++ [.ref rt]))
  hW : H' A.dW = some (.dT kW')
  vW : ∀ j, valV kW' j = if j = k then none else valV A.kW j
  wl : kW'.length ≤ A.kW.length
def spKeepRide (a : Ad) : Sp := fun vs H Q _ => ∃ (A : CA) (fs : List (Str × V)) (card rt : Addr) (x : Km347.Tap), vs = [.ref A.pc, nv x.card, .ref rt] ∧ (∃ v0 v1 v2 v3 v4, H A.pc = some (.ins a.c_Centre A.dx (fs_Centre v0 v1 v2 v3 v4 (.ref A.dR) (.ref A.dW)))) ∧ H rt = some (.tup (tapV x)) ∧
  H A.dR = some (.dT A.kR) ∧ H A.dW = some (.dT A.kW) ∧ A.dR ≠ A.dW ∧ A.kR.length < sizeLine ∧ (∀ v, valV A.kR (k2 x.card (x.minute / 1440)) = some v → ∃ l xs, v = .ref l ∧ H l = some (.lst xs) ∧ xs.length < sizeLine) ∧
  ∀ (H' : Hp) (l : Addr) (xs : List V) (kR' kW' : List (List Key × V)), Kept H H' A (k2 x.card (x.minute / 1440)) rt l xs kR' kW' → Q .non H'
theorem ok_z6 {a : Ad} (T : Tx K mg a) : FnOk P w K mg base CX0 1 a.f_z6 a.d_z6 ["self", "card", "ride"] (spKeepRide a) := by
  refine T.F_z6.ok sc_z6 (fun vs H Q E h => ?_) (fun cdv A outer s H vs Q E hr h => ?_)
  · obtain ⟨A, fs, card, rt, x, rfl, _⟩ := h
    rfl
  · obtain ⟨A, fs, card, rt, x, rfl, ⟨v0, v1, v2, v3, v4, ob⟩, hrt, hR, hW, nRW, sz, lsz, q⟩ := h
    have hu := hu_of hr
    refine ⟨_, (pss_cons (ps_set (i := 3) sc_z6.nd rfl (Or.inl rfl) (pe_tup (pa_cons (pv 1) (pa_cons (pe_op op_fdiv (pe_ix ix_tup (pv 2) pe_int (fun _ _ => rfl)) (pe_gint rfl T.g_DAY_MINUTES)) pa_nil))))
      (pss_cons (ps_expr (pe_bm PySem.F.plainAttrs_list PySem.F.slot_list_append PySem.F.type_list_append mt_append (pe_dsetdefT hu (pe_fld (pv 0) rfl) (pv 3) (pe_lst pa_nil) ⟨rfl, rfl, rfl, rfl⟩) (pa_cons (pv 2) pa_nil)))
      (pss_one (ps_expr (pe_dpopT hu (pe_fld (pv 0) rfl) (pv 3) pe_non ⟨rfl, rfl, rfl, rfl⟩))))), ?_⟩
    refine ⟨_, rfl, _, rfl, rt, _, _, _, rfl, rfl, SqT.of hrt, atI_nat (j := 0) rfl, _, _, rfl, rfl, ⟨by decide, by decide⟩, (by show 2 ≤ sizeLine; decide), fun t ht => ?_⟩
    have ek : (x.minute : Int) / 1440 = ((x.minute / 1440 : Nat) : Int) := by omega
    have s1 : Same H (upd H t (.tup [nv x.card, .int ((x.minute : Int) / 1440)])) := Same.new ht
    have htk : (upd H t (.tup [nv x.card, .int ((x.minute : Int) / 1440)])) t = some (.tup ((k2 x.card (x.minute / 1440)).map kV)) := by
      rw [upd_same, ek]
      rfl
    generalize upd H t (.tup [nv x.card, .int ((x.minute : Int) / 1440)]) = H1 at s1 htk
    have n1 : ∀ b, H1 b = none → H b = none := fun b hb => s1.free hb
    have pop : ∀ (H4 : Hp) (l : Addr) (xs : List V) (kR' : List (List Key × V)), (∀ b o, H1 b = some o → b ≠ A.dR → b ≠ l → H4 b = some o) →
        ((valV A.kR (k2 x.card (x.minute / 1440)) = some (.ref l) ∧ H l = some (.lst xs) ∧ kR' = A.kR) ∨ (valV A.kR (k2 x.card (x.minute / 1440)) = none ∧ H l = none ∧ xs = [] ∧ kR' = putK A.kR (k2 x.card (x.minute / 1440)) (.ref l))) →
        H4 A.dR = some (.dT kR') → H4 l = some (.lst (xs ++ [.ref rt])) → H4 A.pc = some (.ins a.c_Centre A.dx (fs_Centre v0 v1 v2 v3 v4 (.ref A.dR) (.ref A.dW))) → H4 A.dW = some (.dT A.kW) → H4 t = some (.tup ((k2 x.card (x.minute / 1440)).map kV)) →
        tDPopT (tFld K (tVar 0) "ways") (tVar 3) (tC .non) [some (.ref A.pc), some (nv x.card), some (.ref rt), some (.ref t)] H4 (fun _ H5 => Q .non H5) := fun H4 l xs kR' fr ls h4R h4l h4p h4W h4t => by
      have nlW : l ≠ A.dW := ne_of h4l h4W (by intro z; cases z)
      refine ⟨_, rfl, A.pc, _, A.dx, _, _, rfl, h4p, T.cl_Centre, T.na_Centre_ways, lk_Centre_ways, A.dW, rfl, .inr ⟨_, Rd.of h4W⟩, _, rfl, A.kW, k2 x.card (x.minute / 1440), t, h4W, rfl, h4t, fun v hv => ?_, fun hv => ?_⟩
      · refine q _ l xs kR' (dropK A.kW (k2 x.card (x.minute / 1440))) ⟨fun b o e z1 z2 z3 => ?_, ls, ?_, ?_, upd_same, fun j => valV_drop, dropK_le _ _⟩
        · rw [upd_ne z2]
          exact fr b o (s1 _ _ e) z1 z3
        · rw [upd_ne nRW]
          exact h4R
        · rw [upd_ne nlW]
          exact h4l
      · refine q _ l xs kR' A.kW ⟨fun b o e z1 z2 z3 => fr b o (s1 _ _ e) z1 z3, ls, h4R, h4l, h4W, fun j => ?_, Nat.le_refl _⟩
        by_cases z : j = k2 x.card (x.minute / 1440)
        · rw [if_pos z, z, hv]
        · rw [if_neg z]
    have npR : A.pc ≠ A.dR := ne_of ob hR (by intro z; cases z)
    have ntR : t ≠ A.dR := ne_of htk (s1 _ _ hR) (by intro z; cases z)
    refine ⟨_, rfl, A.pc, _, A.dx, _, _, rfl, s1 _ _ ob, T.cl_Centre, T.na_Centre_rides, lk_Centre_rides, A.dR, rfl, .inr ⟨_, Rd.of (s1 _ _ hR)⟩, _, rfl, Nat.zero_le _, fun l0 hl0 => ?_⟩
    have s2 : Same H1 (upd H1 l0 (.lst [])) := Same.new hl0
    refine ⟨A.kR, k2 x.card (x.minute / 1440), t, s2 _ _ (s1 _ _ hR), rfl, s2 _ _ htk, sz, fun v hv => ?_, fun hv => ?_⟩
    · obtain ⟨l, xs, rfl, hl, hxs⟩ := lsz v hv
      have hl1 := s1 _ _ hl
      have nll : l ≠ l0 := ne_of_none hl1 hl0
      have nlR : l ≠ A.dR := ne_of hl hR (by intro z; cases z)
      have nlW : l ≠ A.dW := ne_of hl hW (by intro z; cases z)
      have npl : A.pc ≠ l := ne_of ob hl (by intro z; cases z)
      have ntl : t ≠ l := ne_of htk hl1 (by intro z; cases z)
      refine ⟨.inl ⟨rfl, _, SqL.of (s2 _ _ hl1)⟩, _, rfl, l, xs, _, rfl, rfl, s2 _ _ hl1, hxs, ?_⟩
      refine pop _ l xs A.kR (fun b o e z1 z2 => ?_) (.inl ⟨hv, hl, rfl⟩) ?_ upd_same ?_ ?_ ?_
      · rw [upd_ne z2]
        exact s2 _ _ e
      · rw [upd_ne nlR.symm]
        exact s2 _ _ (s1 _ _ hR)
      · rw [upd_ne npl]
        exact s2 _ _ (s1 _ _ ob)
      · rw [upd_ne nlW.symm]
        exact s2 _ _ (s1 _ _ hW)
      · rw [upd_ne ntl]
        exact s2 _ _ htk
    · have n0R : A.dR ≠ l0 := ne_of_none (s1 _ _ hR) hl0
      have n0W : A.dW ≠ l0 := ne_of_none (s1 _ _ hW) hl0
      have n0p : A.pc ≠ l0 := ne_of_none (s1 _ _ ob) hl0
      have n0t : t ≠ l0 := ne_of_none htk hl0
      have hl3 : (upd (upd H1 l0 (.lst [])) A.dR (.dT (putK A.kR (k2 x.card (x.minute / 1440)) (.ref l0)))) l0 = some (.lst []) := by
        rw [upd_ne n0R.symm, upd_same]
      refine ⟨.inl ⟨rfl, _, SqL.of hl3⟩, _, rfl, l0, [], _, rfl, rfl, hl3, (by show 0 < sizeLine; decide), ?_⟩
      refine pop _ l0 [] _ (fun b o e z1 z2 => ?_) (.inr ⟨hv, n1 _ hl0, rfl, rfl⟩) ?_ upd_same ?_ ?_ ?_
      · rw [upd_ne z2, upd_ne z1]
        exact s2 _ _ e
      · rw [upd_ne n0R, upd_same]
      · rw [upd_ne n0p, upd_ne npR]
        exact s2 _ _ (s1 _ _ ob)
      · rw [upd_ne n0W, upd_ne nRW.symm]
        exact s2 _ _ (s1 _ _ hW)
      · rw [upd_ne n0t, upd_ne ntR]
        exact s2 _ _ htk
end
end Fb
namespace Fb
open PySem PySem.Spec PyProof.Rows L2
theorem ixN_nat {n j : Nat} (h : j < n) : ixN n (j : Int) = some j := by
  unfold ixN
  rw [if_pos (by omega), if_pos (by omega), Int.toNat_natCast]
theorem putK_len (kvs : List (List Key × V)) (k : List Key) (v : V) {n : Nat} (h : kvs.length ≤ n) : (putK kvs k v).length ≤ n + 1 := by
  have := length_putK kvs k v
  omega
theorem CtAt.plus {a : Ad} {H H' : Hp} {A : CA} {c : Km347.Centre} {n u : Nat} {x : Km347.Tap} {l rt : Addr} {ys : List V} {kR' kW' : List (List Key × V)} (h : CtAt a H A c n) (hk : c.knows x.reader x.number = false) (hz : 1 ≤ x.zones ∧ x.zones < 256 ∧ x.number < 8192) (hr : x.reader < c.readers)
    (fr : ∀ b o, H b = some o → b ≠ A.dT → b ≠ A.dU → b ≠ A.dR → b ≠ A.dW → b ≠ l → H' b = some o)
    (ls : (valV A.kR (k2 x.card (x.minute / 1440)) = some (.ref l) ∧ H l = some (.lst ys) ∧ kR' = A.kR) ∨ (valV A.kR (k2 x.card (x.minute / 1440)) = none ∧ H l = none ∧ ys = [] ∧ kR' = putK A.kR (k2 x.card (x.minute / 1440)) (.ref l)))
    (hT : H' A.dT = some (.dT (putK A.kT (k2 x.reader x.number) (.bl true)))) (hU : H' A.dU = some (.lst ((A.us.set x.reader u).map nv))) (u1 : ∀ m, m < u → (Fb.plus c x).knows x.reader m = true) (u2 : (Fb.plus c x).knows x.reader u = false)
    (hR : H' A.dR = some (.dT kR')) (hl : H' l = some (.lst (ys ++ [.ref rt]))) (hrt : H' rt = some (.tup (tapV x))) (hW : H' A.dW = some (.dT kW')) (vW : ∀ j, valV kW' j = if j = k2 x.card (x.minute / 1440) then none else valV A.kW j) (wl : kW'.length ≤ A.kW.length) :
    CtAt a H' { A with us := A.us.set x.reader u, kT := putK A.kT (k2 x.reader x.number) (.bl true), kR := kR', kW := kW' } (Fb.plus c x) (n + 1) := by
  obtain ⟨dx, tob⟩ := h.tf.ob
  obtain ⟨a1, a2, a3, a4, a5, a6, a7, a8⟩ := h.ap
  have lnew : ∀ {b : Addr} {o : HO}, H b = some o → (∀ zs, o ≠ .lst zs) → b ≠ l := fun {b o} e ne => by
    rcases ls with ⟨_, e2, _⟩ | ⟨_, e2, _⟩
    · exact ne_of e e2 (ne _)
    · exact ne_of_none e e2
  have lap : l ≠ A.dS ∧ l ≠ A.dU ∧ l ≠ A.ls ∧ l ≠ A.lp := by
    rcases ls with ⟨e1, _, _⟩ | ⟨_, e2, _⟩
    · obtain ⟨l', e3, _, e4⟩ := h.rl _ _ e1
      cases e3
      exact e4
    · exact ⟨(ne_of_none h.hS e2).symm, (ne_of_none h.hU e2).symm, (ne_of_none h.tf.sg e2).symm, (ne_of_none h.tf.pp e2).symm⟩
  have kt : ∀ q xs, H q = some (.tup xs) → H' q = some (.tup xs) := fun q xs e =>
    fr q _ e (ne_of e h.hT (by intro z; cases z)) (ne_of e h.hU (by intro z; cases z)) (ne_of e h.hR (by intro z; cases z)) (ne_of e h.hW (by intro z; cases z)) (lnew e (by intro zs z; cases z))
  have kl : ∀ {b : Addr} {zs : List V}, H b = some (.lst zs) → b ≠ A.dU → b ≠ l → H' b = some (.lst zs) := fun {b zs} e n1 n2 =>
    fr b _ e (ne_of e h.hT (by intro z; cases z)) n1 (ne_of e h.hR (by intro z; cases z)) (ne_of e h.hW (by intro z; cases z)) n2
  have ki : ∀ {b C d : Addr} {fs : List (Str × V)}, H b = some (.ins C d fs) → H' b = some (.ins C d fs) := fun {b C d fs} e =>
    fr b _ e (ne_of e h.hT (by intro z; cases z)) (ne_of e h.hU (by intro z; cases z)) (ne_of e h.hR (by intro z; cases z)) (ne_of e h.hW (by intro z; cases z)) (lnew e (by intro zs z; cases z))
  have other : ∀ j, j ≠ k2 x.card (x.minute / 1440) → valV kR' j = valV A.kR j := fun j nj => by
    rcases ls with ⟨_, _, e⟩ | ⟨_, _, _, e⟩
    · rw [e]
    · rw [e, valV_put, if_neg nj]
  have self : valV kR' (k2 x.card (x.minute / 1440)) = some (.ref l) := by
    rcases ls with ⟨e1, _, e⟩ | ⟨_, _, _, e⟩
    · rw [e, e1]
    · rw [e, valV_put, if_pos rfl]
  have ndiff : ∀ j l', j ≠ k2 x.card (x.minute / 1440) → valV A.kR j = some (.ref l') → l' ≠ l := fun j l' nj e z => by
    rcases ls with ⟨e1, _, _⟩ | ⟨_, e2, _⟩
    · exact nj (h.inj _ _ _ e (by rw [z]; exact e1))
    · obtain ⟨l2, e3, ⟨zs, e4⟩, _⟩ := h.rl _ _ e
      cases e3
      rw [z, e2] at e4
      cases e4
  refine ⟨ki h.ob, ⟨⟨dx, ki tob⟩, kl h.tf.sg a7.symm lap.2.2.1.symm, kl h.tf.pp a8.symm lap.2.2.2.symm, h.tf.ps.keep kt, h.tf.s8, h.tf.p3⟩, hT, kl h.hS a4 lap.1.symm, hU, hR, hW, fun r m => ?_, h.vS.keep kt, ⟨?_, fun r v e => ?_⟩, fun card day => ?_, fun card day v e => ?_, fun k j l' e1 e2 => ?_, fun k v e => ?_, h.ap,
    ⟨putK_len _ _ _ h.few.1, ?_, Nat.le_trans wl (Nat.le_succ_of_le h.few.2.2.1), ?_⟩, h.ok.plus hz hk⟩
  · show valV (putK A.kT (k2 x.reader x.number) (.bl true)) (k2 r m) = _
    rw [valV_put, knows_plus, h.vT]
    by_cases z : k2 r m = k2 x.reader x.number
    · obtain ⟨z1, z2⟩ := k2_inj z
      rw [if_pos z, z1, z2, beq_self_eq_true, beq_self_eq_true]
      rfl
    · rw [if_neg z]
      have e : (x.reader == r && x.number == m) = false := by
        cases q : (x.reader == r && x.number == m) with
        | false => rfl
        | true =>
          rw [Bool.and_eq_true, beq_iff_eq, beq_iff_eq] at q
          exact absurd (by rw [q.1, q.2]) z
      rw [e, Bool.false_or]
  · show (A.us.set x.reader u).length = c.readers
    rw [List.length_set]
    exact h.vU.1
  · have e : (A.us.set x.reader u)[r]? = some v := e
    by_cases z : x.reader = r
    · subst z
      rw [List.getElem?_set_self (by rw [h.vU.1]; exact hr)] at e
      cases e
      exact ⟨u1, u2⟩
    · rw [List.getElem?_set_ne z] at e
      obtain ⟨y1, y2⟩ := h.vU.2 r v e
      have ek : ∀ m, (Fb.plus c x).knows r m = c.knows r m := fun m => by
        rw [knows_plus, show (x.reader == r) = false from beq_eq_false_iff_ne.mpr z, Bool.false_and, Bool.false_or]
      exact ⟨fun m hm => by rw [ek]; exact y1 m hm, by rw [ek]; exact y2⟩
  · by_cases z : k2 card day = k2 x.card (x.minute / 1440)
    · obtain ⟨z1, z2⟩ := k2_inj z
      subst z1
      subst z2
      have more := ofs_more (c := c) (x := x) (card := x.card) (day := x.minute / 1440) ⟨rfl, rfl⟩
      rcases h.vR x.card (x.minute / 1440) with ⟨v1, v2⟩ | ⟨l', as, xs, v1, v2, v3, v4⟩
      · have y0 : ys = [] := by
          rcases ls with ⟨e1, _, _⟩ | ⟨_, _, e3, _⟩
          · rw [v1] at e1
            cases e1
          · exact e3
        subst y0
        refine .inr ⟨l, [rt], [x], self, hl, ?_, TupsAt.snoc (as := []) (rows := []) TupsAt.nil hrt⟩
        rw [v2] at more
        exact more.symm
      · have el : l' = l ∧ as.map V.ref = ys := by
          rcases ls with ⟨e1, e2, _⟩ | ⟨e1, _⟩
          · rw [v1] at e1
            cases e1
            rw [v2] at e2
            cases e2
            exact ⟨rfl, rfl⟩
          · rw [v1] at e1
            cases e1
        obtain ⟨el1, el2⟩ := el
        subst el1
        refine .inr ⟨l', as ++ [rt], xs ++ [x], self, ?_, ?_, ?_⟩
        · rw [hl, ← el2, List.map_append]
          rfl
        · refine (List.perm_append_comm.trans ?_).trans more.symm
          exact v3.cons x
        · rw [List.map_append]
          exact TupsAt.snoc (v4.keep kt) hrt
    · have ne : ¬ (x.card = card ∧ x.minute / Km347.DAY = day) := fun y => z (by rw [← y.1, ← y.2]; rfl)
      rw [ofs_same ne]
      show (valV kR' (k2 card day) = none ∧ _) ∨ ∃ (l : Addr) (as : List Addr) (xs : List Km347.Tap), valV kR' (k2 card day) = some (.ref l) ∧ _
      rw [other _ z]
      rcases h.vR card day with y | ⟨l', as, xs, v1, v2, v3, v4⟩
      · exact .inl y
      · obtain ⟨l2, e3, _, _, e5, _⟩ := h.rl _ _ v1
        cases e3
        exact .inr ⟨l', as, xs, v1, kl v2 e5 (ndiff _ _ z v1), v3, v4.keep kt⟩
  · have e : valV kW' (k2 card day) = some v := e
    rw [vW] at e
    by_cases z : k2 card day = k2 x.card (x.minute / 1440)
    · rw [if_pos z] at e
      cases e
    · rw [if_neg z] at e
      have ne : ¬ (x.card = card ∧ x.minute / Km347.DAY = day) := fun y => z (by rw [← y.1, ← y.2]; rfl)
      obtain ⟨q, q1, q2⟩ := h.vW card day v e
      refine ⟨q, q1, ?_⟩
      rw [rides_same ne]
      exact kt _ _ q2
  · have e1 : valV kR' k = some (.ref l') := e1
    have e2 : valV kR' j = some (.ref l') := e2
    by_cases z1 : k = k2 x.card (x.minute / 1440)
    · by_cases z2 : j = k2 x.card (x.minute / 1440)
      · rw [z1, z2]
      · rw [z1, self] at e1
        cases e1
        rw [other _ z2] at e2
        exact absurd rfl (ndiff _ _ z2 e2)
    · by_cases z2 : j = k2 x.card (x.minute / 1440)
      · rw [z2, self] at e2
        cases e2
        rw [other _ z1] at e1
        exact absurd rfl (ndiff _ _ z1 e1)
      · rw [other _ z1] at e1
        rw [other _ z2] at e2
        exact h.inj _ _ _ e1 e2
  · have e : valV kR' k = some v := e
    by_cases z : k = k2 x.card (x.minute / 1440)
    · rw [z, self] at e
      cases e
      exact ⟨l, rfl, ⟨_, hl⟩, lap⟩
    · rw [other _ z] at e
      obtain ⟨l', e1, ⟨zs, e2⟩, e3⟩ := h.rl _ _ e
      subst e1
      exact ⟨l', rfl, ⟨zs, kl e2 e3.2.1 (ndiff _ _ z e)⟩, e3⟩
  · show kR'.length ≤ n + 1
    rcases ls with ⟨_, _, e⟩ | ⟨_, _, _, e⟩
    · rw [e]
      exact Nat.le_succ_of_le h.few.2.1
    · rw [e]
      exact putK_len _ _ _ h.few.2.1
  · show (Km347.insert x c.taps).length ≤ n + 1
    rw [(insert_perm x c.taps).length_eq, List.length_cons]
    exact Nat.succ_le_succ h.few.2.2.2
end Fb
namespace Fb
open PySem PySem.Spec PyProof.Rows L2
structure Became (a : Ad) (H H' : Hp) (A A' : CA) (c' : Km347.Centre) (m : Nat) : Prop where
  ct : CtAt a H' A' c' m
  pc : A'.pc = A.pc
  fr : ∀ b o, H b = some o → ¬ foot A b → H' b = some o
  nw : ∀ b, foot A' b → foot A b ∨ H b = none
  od : ∀ b, foot A b → foot A' b
theorem Became.same {a : Ad} {H H' : Hp} {A : CA} {c : Km347.Centre} {n m : Nat} (h : CtAt a H A c n) (s : Same H H') (hm : n ≤ m) : Became a H H' A A c m := ⟨(h.same s).more hm, rfl, fun b o e _ => s b o e, fun b f => .inl f, fun b f => f⟩
theorem Became.andSame {a : Ad} {H H' H2 : Hp} {A A' : CA} {c : Km347.Centre} {m : Nat} (h : Became a H H' A A' c m) (s : Same H' H2) : Became a H H2 A A' c m := ⟨h.ct.same s, h.pc, fun b o e n => s _ _ (h.fr b o e n), h.nw, h.od⟩
theorem Became.free {a : Ad} {H H' : Hp} {A A' : CA} {c : Km347.Centre} {m : Nat} (h : Became a H H' A A' c m) {b : Addr} (hb : H' b = none) : H b = none := by
  cases z : H b with
  | none => rfl
  | some o =>
    have nf : ¬ foot A b := fun f => h.ct.there (h.od b f) hb
    rw [h.fr b o z nf] at hb
    cases hb
section
variable {P : Program} {w : World} {K : PySem.W.Frag} {mg : Str → Option Value} {base : Heap}
theorem foot_ne {A : CA} {b : Addr} (h : ¬ foot A b) : b ≠ A.dT ∧ b ≠ A.dS ∧ b ≠ A.dU ∧ b ≠ A.dR ∧ b ≠ A.dW ∧ b ≠ A.pc := by
  refine ⟨fun z => h ?_, fun z => h ?_, fun z => h ?_, fun z => h ?_, fun z => h ?_, fun z => h ?_⟩ <;> rw [z] <;> simp [foot]
def spHeardTap (K : PySem.W.Frag) (a : Ad) : Sp := fun vs H Q _ => ∃ (A : CA) (c : Km347.Centre) (n : Nat) (d : Addr) (l : List Nat), vs = [.ref A.pc, .ref d] ∧ CtAt a H A c n ∧ n ≤ 100000 ∧ H d = some (.lst (l.map nv)) ∧ l.length = 20 ∧ (∀ x ∈ l, x < 256) ∧ ¬ foot A d ∧ tapB l = true ∧ gb l 1 < c.readers ∧
  (c.knows (tapX l).reader (tapX l).number = true → ∀ H', Same H H' → Q (.int 0) H') ∧ (c.knows (tapX l).reader (tapX l).number = false → ∀ H' A', Became a H H' A A' (Fb.plus c (tapX l)) (n + 1) → Q (.int 1) H')
theorem ok_z9 {a : Ad} (T : Tx K mg a) : FnOk P w K mg base CX0 3 a.f_z9 a.d_z9 ["self", "message"] (spHeardTap K a) := by
  have G_z6 := ok_z6 (P := P) (w := w) (base := base) T
  have G_z49 := ok_z49 (P := P) (w := w) (base := base) T
  have G_z32 := ok_z32 (P := P) (w := w) (base := base) T
  have G_z33 := ok_z33 (P := P) (w := w) (base := base) T
  have G_z38 := ok_z38 (P := P) (w := w) (base := base) T
  have G_z44 := ok_z44 (P := P) (w := w) (base := base) T
  refine T.F_z9.ok sc_z9 (fun vs H Q E h => ?_) (fun cdv A outer s H vs Q E hr h => ?_)
  · obtain ⟨A, c, n, d, l, rfl, _⟩ := h
    rfl
  · obtain ⟨A, c, n, d, l, rfl, ct, hn, hd, h20, hby, hdf, htb, hrd, q0, q1⟩ := h
    have hu := hu_of hr
    refine ⟨_, (pss_cons (ps_set (i := 2) sc_z9.nd rfl (Or.inl rfl) (pe_call G_z38 (hr.mono (by decide)) rfl T.m_z38 T.F_z38.kp T.b_z38 .nil pass0 (pa_cons (pv 1) pa_nil)))
      (pss_cons (ps_set (i := 3) sc_z9.nd rfl (Or.inl rfl) (pe_call G_z33 (hr.mono (by decide)) rfl T.m_z33 T.F_z33.kp T.b_z33 .nil pass0 (pa_cons (pv 1) pa_nil)))
      (pss_cons (ps_if (pt_cmp (pc_din hu (pe_tup (pa_cons (pv 2) (pa_cons (pv 3) pa_nil))) (pe_fld (pv 0) rfl)))
        (pss_one (ps_ret pe_int))
        pss_nil)
      (pss_cons (ps_dput hu (pe_fld (pv 0) rfl) (pe_tup (pa_cons (pv 2) (pa_cons (pv 3) pa_nil))) pe_bl rfl)
      (pss_cons (ps_while PassesOwn.never (pt_cmp (pc_din hu (pe_tup (pa_cons (pv 2) (pa_cons (pe_ix ix_list (pe_fld (pv 0) rfl) (pv 2) (fun _ _ => rfl)) pa_nil))) (pe_fld (pv 0) rfl)))
        (pss_one (ps_asg (pe_op op_add (pe_ix ix_list (pe_fld (pv 0) rfl) (pv 2) (fun _ _ => rfl)) pe_int) (pg_sub (pe_fld (pv 0) rfl) (pv 2) set_list))))
      (pss_cons (ps_expr (pe_meth (pv 0) T.cl_Centre T.h_z6 G_z6 (hr.mono (by decide)) T.b_z6 .nil pass0 (pa_cons (pe_call G_z49 (hr.mono (by decide)) rfl T.m_z49 T.F_z49.kp T.b_z49 .nil pass0 (pa_cons (pv 1) pa_nil)) (pa_cons (pe_tup (pa_cons (pe_call G_z32 (hr.mono (by decide)) rfl T.m_z32 T.F_z32.kp T.b_z32 .nil pass0 (pa_cons (pv 1) pa_nil)) (pa_cons (pv 2) (pa_cons (pv 3) (pa_cons (pe_call G_z44 (hr.mono (by decide)) rfl T.m_z44 T.F_z44.kp T.b_z44 .nil pass0 (pa_cons (pv 1) pa_nil)) pa_nil))))) pa_nil))))
      (pss_one (ps_ret pe_int)))))))), ?_⟩
    have m0 : MsgAt K H d l := ⟨SqL.of hd, h20, hby⟩
    have htb := of_decide_eq_true htb
    have ex1 : (tapX l).reader = gb l 1 := num1 (by omega)
    have ex5 : (tapX l).zones = gb l 2 := num1 (by omega)
    have hz : 1 ≤ (tapX l).zones ∧ (tapX l).zones < 256 ∧ (tapX l).number < 8192 := by
      rw [ex5]
      have := gb_lt (l := l) (k := 2) hby
      exact ⟨by omega, this, htb.2.2.2.1⟩
    have hrr : (tapX l).reader < c.readers := by
      rw [ex1]
      exact hrd
    obtain ⟨a1, a2, a3, a4, a5, a6, a7, a8⟩ := ct.ap
    obtain ⟨fd1, fd2, fd3, fd4, fd5, fd6⟩ := foot_ne hdf
    have small : ∀ {m : Nat}, m ≤ n → m < sizeLine := fun h => Nat.lt_of_le_of_lt (Nat.le_trans h hn) (by decide)
    refine ⟨_, rfl, d, l, rfl, m0, ?_⟩
    rw [← ex1]
    refine ⟨_, rfl, d, l, rfl, m0, ?_⟩
    show tSeq _ _ _ [some (.ref A.pc), some (.ref d), some (nv (tapX l).reader), some (nv (tapX l).number)] H
    refine ⟨_, rfl, _, rfl, (by show 2 ≤ sizeLine; decide), fun t1 ht1 => ?_⟩
    have s1 : Same H (upd H t1 (.tup [nv (tapX l).reader, nv (tapX l).number])) := Same.new ht1
    have htk1 : (upd H t1 (.tup [nv (tapX l).reader, nv (tapX l).number])) t1 = some (.tup ((k2 (tapX l).reader (tapX l).number).map kV)) := upd_same
    refine ⟨_, rfl, A.pc, _, A.dx, _, _, rfl, s1 _ _ ct.ob, T.cl_Centre, T.na_Centre_taps, lk_Centre_taps, A.dT, _, rfl, DGet.t (k := k2 (tapX l).reader (tapX l).number) (s1 _ _ ct.hT) htk1, _, rfl, ?_⟩
    rw [ct.vT]
    cases hkn : c.knows (tapX l).reader (tapX l).number with
    | true => exact iteT (q0 hkn _ s1)
    | false =>
      refine iteF ?_
      have q1 := q1 hkn
      generalize upd H t1 (.tup [nv (tapX l).reader, nv (tapX l).number]) = H1 at s1 htk1
      refine ⟨_, rfl, A.pc, _, A.dx, _, _, rfl, s1 _ _ ct.ob, T.cl_Centre, T.na_Centre_taps, lk_Centre_taps, _, rfl, _, rfl, (by show 2 ≤ sizeLine; decide), fun t2 ht2 => ?_⟩
      have s2 : Same H (upd H1 t2 (.tup [nv (tapX l).reader, nv (tapX l).number])) := s1.trans (Same.new ht2)
      refine ⟨A.dT, _, rfl, DPut.t (k := k2 (tapX l).reader (tapX l).number) (s2 _ _ ct.hT) upd_same (small ct.few.1), ?_⟩
      generalize upd H1 t2 (.tup [nv (tapX l).reader, nv (tapX l).number]) = H2 at s2
      obtain ⟨u0, hu0, hu1, hu2⟩ := ct.unh hrr
      have hul : (tapX l).reader < A.us.length := by
        rw [ct.vU.1]
        exact hrr
      have vT' : ∀ m, valV (putK A.kT (k2 (tapX l).reader (tapX l).number) (.bl true)) (k2 (tapX l).reader m) = if (Fb.plus c (tapX l)).knows (tapX l).reader m = true then some (.bl true) else none := fun m => by
        rw [valV_put, knows_plus, ct.vT]
        by_cases z : k2 (tapX l).reader m = k2 (tapX l).reader (tapX l).number
        · obtain ⟨_, z2⟩ := k2_inj z
          rw [if_pos z, z2, beq_self_eq_true, beq_self_eq_true]
          rfl
        · rw [if_neg z, beq_self_eq_true, Bool.true_and]
          have e : ((tapX l).number == m) = false := beq_eq_false_iff_ne.mpr fun y => z (by rw [y])
          rw [e, Bool.false_or]
      refine while_by (fun σ H' => ∃ u, σ = [some (.ref A.pc), some (.ref d), some (nv (tapX l).reader), some (nv (tapX l).number)] ∧ (∀ b o, H b = some o → b ≠ A.dT → b ≠ A.dU → H' b = some o) ∧ H' A.dT = some (.dT (putK A.kT (k2 (tapX l).reader (tapX l).number) (.bl true))) ∧
          H' A.dU = some (.lst ((A.us.set (tapX l).reader u).map nv)) ∧ (∀ m, m < u → (Fb.plus c (tapX l)).knows (tapX l).reader m = true) ∧ u ≤ 8192)
        (fun _ H' => 8192 - (match H' A.dU with
          | some (.lst xs) => match xs[(tapX l).reader]? with
            | some (.int z) => z.toNat
            | _ => 0
          | _ => 0)) ⟨u0, rfl, fun b o e n1 n2 => ?_, upd_same, ?_, fun m hm => ?_, ?_⟩ ?_ ?_
      · rw [upd_ne n1]
        exact s2 _ _ e
      · rw [upd_ne (ne_of ct.hU ct.hT (by intro z; cases z)), s2 _ _ ct.hU]
        have e : A.us.set (tapX l).reader u0 = A.us := by
          refine List.ext_getElem? fun i => ?_
          by_cases z : (tapX l).reader = i
          · subst z
            rw [List.getElem?_set_self hul, hu0]
          · rw [List.getElem?_set_ne z]
        rw [e]
      · rw [knows_plus, hu1 m hm, Bool.or_true]
      · by_cases z : u0 ≤ 8192
        · exact z
        · have e := hu1 8192 (by omega)
          obtain ⟨y, hy, _, e2⟩ := knows_iff.mp e
          have := (ct.ok.tp y hy).2.2
          omega
      · rintro σ H' ⟨u, rfl, fr, h3T, h3U, h3k, h38⟩
        have h3p : H' A.pc = _ := fr _ _ ct.ob (ne_of ct.ob ct.hT (by intro z; cases z)) (ne_of ct.ob ct.hU (by intro z; cases z))
        have gu : (A.us.set (tapX l).reader u)[(tapX l).reader]? = some u := List.getElem?_set_self hul
        refine ⟨_, rfl, _, rfl, A.pc, _, A.dx, _, _, rfl, h3p, T.cl_Centre, T.na_Centre_unheard, lk_Centre_unheard, _, rfl, A.dU, _, _, _, rfl, rfl, SqL.of h3U, atI_nat (get_map gu), (by show 2 ≤ sizeLine; decide), fun t3 ht3 => ?_⟩
        have s3 : Same H' (upd H' t3 (.tup [nv (tapX l).reader, nv u])) := Same.new ht3
        have htk3 : (upd H' t3 (.tup [nv (tapX l).reader, nv u])) t3 = some (.tup ((k2 (tapX l).reader u).map kV)) := upd_same
        refine ⟨_, rfl, A.pc, _, A.dx, _, _, rfl, s3 _ _ h3p, T.cl_Centre, T.na_Centre_taps, lk_Centre_taps, A.dT, _, rfl, DGet.t (k := k2 (tapX l).reader u) (s3 _ _ h3T) htk3, _, rfl, ?_⟩
        rw [vT' u]
        cases hku : (Fb.plus c (tapX l)).knows (tapX l).reader u with
        | true =>
          refine iteT ?_
          have h8 : u < 8192 := by
            obtain ⟨y, hy, _, e2⟩ := knows_iff.mp hku
            have := ((ct.ok.plus hz hkn).tp y hy).2.2
            omega
          refine ⟨_, rfl, A.pc, _, A.dx, _, _, rfl, s3 _ _ h3p, T.cl_Centre, T.na_Centre_unheard, lk_Centre_unheard, _, rfl, A.dU, _, _, _, rfl, rfl, SqL.of (s3 _ _ h3U), atI_nat (get_map gu), _, _, rfl, rfl, _, rfl, A.pc, _, A.dx, _, _, rfl, s3 _ _ h3p, T.cl_Centre, T.na_Centre_unheard, lk_Centre_unheard, _, rfl, A.dU, _, _, (tapX l).reader, rfl, rfl, s3 _ _ h3U, ixN_nat (by rw [List.length_map, List.length_set]; exact hul), ⟨u + 1, rfl, fun b o e n1 n2 => ?_, ?_, ?_, fun m hm => ?_, h8⟩, ?_⟩
          · rw [upd_ne n2]
            exact s3 _ _ (fr b o e n1 n2)
          · rw [upd_ne (ne_of ct.hT ct.hU (by intro z; cases z))]
            exact s3 _ _ h3T
          · rw [upd_same]
            have e : ((A.us.set (tapX l).reader u).map nv).set (tapX l).reader (V.int ((u : Int) + 1)) = (A.us.set (tapX l).reader (u + 1)).map nv := by
              rw [show V.int ((u : Int) + 1) = nv (u + 1) from rfl, ← List.map_set, List.set_set]
            exact congrArg (fun z => some (HO.lst z)) e
          · by_cases z : m = u
            · rw [z]
              exact hku
            · exact h3k m (by omega)
          · show 8192 - _ < 8192 - _
            have e1 : (upd (upd H' t3 (.tup [nv (tapX l).reader, nv u])) A.dU (.lst (((A.us.set (tapX l).reader u).map nv).set (tapX l).reader (V.int ((u : Int) + 1))))) A.dU = some (.lst (((A.us.set (tapX l).reader u).map nv).set (tapX l).reader (V.int ((u : Int) + 1)))) := upd_same
            have e2 : (((A.us.set (tapX l).reader u).map nv).set (tapX l).reader (V.int ((u : Int) + 1)))[(tapX l).reader]? = some (V.int ((u : Int) + 1)) := List.getElem?_set_self (by rw [List.length_map, List.length_set]; exact hul)
            have e3 : ((A.us.set (tapX l).reader u).map nv)[(tapX l).reader]? = some (nv u) := get_map gu
            dsimp only
            rw [e1, h3U]
            dsimp only
            rw [e2, e3]
            show 8192 - ((u : Int) + 1).toNat < 8192 - ((u : Int)).toNat
            rw [Int.toNat_natCast, show ((u : Int) + 1).toNat = u + 1 from rfl]
            omega
        | false =>
          refine iteF ?_
          generalize upd H' t3 (.tup [nv (tapX l).reader, nv u]) = H3 at s3 htk3
          have fr3 : ∀ b o, H b = some o → b ≠ A.dT → b ≠ A.dU → H3 b = some o := fun b o e n1 n2 => s3 _ _ (fr b o e n1 n2)
          have m3 : MsgAt K H3 d l := ⟨SqL.of (fr3 _ _ hd fd1 fd3), h20, hby⟩
          refine ⟨_, rfl, A.pc, A.dx, _, rfl, s3 _ _ h3p, nm_z6, _, rfl, d, l, rfl, m3, _, rfl, d, l, rfl, m3, _, rfl, _, rfl, _, rfl, d, l, rfl, m3, (by show 4 ≤ sizeLine; decide), fun rt hrt => ?_⟩
          have s4 : Same H3 (upd H3 rt (.tup [nv (Km347.num l 12 4), nv (tapX l).reader, nv (tapX l).number, nv (gb l 2)])) := Same.new hrt
          have hrt4 : (upd H3 rt (.tup [nv (Km347.num l 12 4), nv (tapX l).reader, nv (tapX l).number, nv (gb l 2)])) rt = some (.tup (tapV (tapX l))) := by
            rw [upd_same, ← ex5]
            rfl
          generalize upd H3 rt (.tup [nv (Km347.num l 12 4), nv (tapX l).reader, nv (tapX l).number, nv (gb l 2)]) = H4 at s4 hrt4
          have fr4 : ∀ b o, H b = some o → b ≠ A.dT → b ≠ A.dU → H4 b = some o := fun b o e n1 n2 => s4 _ _ (fr3 b o e n1 n2)
          have free4 : ∀ b, H4 b = none → H b = none := fun b hb => by
            cases z : H b with
            | none => rfl
            | some o =>
              by_cases z1 : b = A.dT
              · rw [z1, s4 _ _ (s3 _ _ h3T)] at hb
                cases hb
              · by_cases z2 : b = A.dU
                · rw [z2, s4 _ _ (s3 _ _ h3U)] at hb
                  cases hb
                · rw [fr4 b o z z1 z2] at hb
                  cases hb
          have h4R := fr4 _ _ ct.hR a1.symm (ne_of ct.hR ct.hU (by intro z; cases z))
          have h4W := fr4 _ _ ct.hW a2.symm (ne_of ct.hW ct.hU (by intro z; cases z))
          refine ⟨A, [], 0, rt, tapX l, rfl, ⟨_, _, _, _, _, s4 _ _ (s3 _ _ h3p)⟩, hrt4, h4R, h4W, a3, small ct.few.2.1, fun v hv => ?_, fun H5 lr ys kR' kW' kp => ?_⟩
          · rcases ct.vR (tapX l).card ((tapX l).minute / 1440) with ⟨v1, _⟩ | ⟨l', as, xs, v1, v2, v3, v4⟩
            · rw [v1] at hv
              cases hv
            · rw [v1] at hv
              cases hv
              obtain ⟨l2, e3, _, _, e5, _⟩ := ct.rl _ _ v1
              cases e3
              refine ⟨l', _, rfl, fr4 _ _ v2 (ne_of v2 ct.hT (by intro z; cases z)) e5, ?_⟩
              rw [List.length_map, v4.1, List.length_map, v3.length_eq]
              refine small (Nat.le_trans ?_ ct.few.2.2.2)
              exact List.length_filter_le _ _
          · have lfr : ∀ {b : Addr} {o : HO}, H4 b = some o → (∀ zs, o ≠ .lst zs) → b ≠ lr := fun {b o} e ne => by
              rcases kp.ls with ⟨_, e2, _⟩ | ⟨_, e2, _⟩
              · exact ne_of e e2 (ne _)
              · exact ne_of_none e e2
            have h5T : H5 A.dT = some (.dT (putK A.kT (k2 (tapX l).reader (tapX l).number) (.bl true))) := kp.fr _ _ (s4 _ _ (s3 _ _ h3T)) a1 a2 (lfr (s4 _ _ (s3 _ _ h3T)) (by intro zs z; cases z))
            have ls0 : (valV A.kR (k2 (tapX l).card ((tapX l).minute / 1440)) = some (.ref lr) ∧ H lr = some (.lst ys) ∧ kR' = A.kR) ∨ (valV A.kR (k2 (tapX l).card ((tapX l).minute / 1440)) = none ∧ H lr = none ∧ ys = [] ∧ kR' = putK A.kR (k2 (tapX l).card ((tapX l).minute / 1440)) (.ref lr)) := by
              rcases kp.ls with ⟨e1, e2, e3⟩ | ⟨e1, e2, e3⟩
              · obtain ⟨l2, e4, ⟨zs, e5⟩, _, e6, _⟩ := ct.rl _ _ e1
                cases e4
                have := fr4 _ _ e5 (ne_of e5 ct.hT (by intro z; cases z)) e6
                rw [this] at e2
                cases e2
                exact .inl ⟨e1, e5, e3⟩
              · exact .inr ⟨e1, free4 _ e2, e3⟩
            have nlU : lr ≠ A.dU := by
              rcases ls0 with ⟨e1, _, _⟩ | ⟨_, e2, _⟩
              · obtain ⟨l2, e4, _, _, e6, _⟩ := ct.rl _ _ e1
                cases e4
                exact e6
              · exact (ne_of_none ct.hU e2).symm
            have h5U : H5 A.dU = some (.lst ((A.us.set (tapX l).reader u).map nv)) := kp.fr _ _ (s4 _ _ (s3 _ _ h3U)) (ne_of ct.hU ct.hR (by intro z; cases z)) (ne_of ct.hU ct.hW (by intro z; cases z)) nlU.symm
            have frA : ∀ b o, H b = some o → b ≠ A.dT → b ≠ A.dU → b ≠ A.dR → b ≠ A.dW → b ≠ lr → H5 b = some o := fun b o e n1 n2 n3 n4 n5 => kp.fr _ _ (fr4 b o e n1 n2) n3 n4 n5
            have nrt : rt ≠ lr := lfr hrt4 (by intro zs z; cases z)
            refine q1 H5 _ ⟨ct.plus (u := u) (l := lr) (rt := rt) (ys := ys) hkn hz hrr frA ls0 h5T h5U h3k hku kp.hR kp.hl (kp.fr _ _ hrt4 (ne_of hrt4 h4R (by intro z; cases z)) (ne_of hrt4 h4W (by intro z; cases z)) nrt) kp.hW kp.vW kp.wl, rfl, fun b o e nf => ?_, fun b f => ?_, fun b f => ?_⟩
            · obtain ⟨n1, n2, n3, n4, n5, n6⟩ := foot_ne nf
              refine frA b o e n1 n3 n4 n5 fun z => ?_
              rcases ls0 with ⟨e1, _, _⟩ | ⟨_, e2, _⟩
              · refine nf ?_
                rw [z]
                exact .inr (.inr (.inr (.inr (.inr (.inr (.inr (.inr (.inr ⟨_, e1⟩))))))))
              · rw [z, e2] at e
                cases e
            · rcases f with z | z | z | z | z | z | z | z | z | ⟨k, z⟩
              · exact .inl (.inl z)
              · exact .inl (.inr (.inl z))
              · exact .inl (.inr (.inr (.inl z)))
              · exact .inl (.inr (.inr (.inr (.inl z))))
              · exact .inl (.inr (.inr (.inr (.inr (.inl z)))))
              · exact .inl (.inr (.inr (.inr (.inr (.inr (.inl z))))))
              · exact .inl (.inr (.inr (.inr (.inr (.inr (.inr (.inl z)))))))
              · exact .inl (.inr (.inr (.inr (.inr (.inr (.inr (.inr (.inl z))))))))
              · exact .inl (.inr (.inr (.inr (.inr (.inr (.inr (.inr (.inr (.inl z)))))))))
              · have z : valV kR' k = some (.ref b) := z
                rcases ls0 with ⟨_, _, e⟩ | ⟨_, e2, _, e⟩
                · rw [e] at z
                  exact .inl (.inr (.inr (.inr (.inr (.inr (.inr (.inr (.inr (.inr ⟨_, z⟩)))))))))
                · rw [e, valV_put] at z
                  by_cases y : k = k2 (tapX l).card ((tapX l).minute / 1440)
                  · rw [if_pos y] at z
                    cases z
                    exact .inr e2
                  · rw [if_neg y] at z
                    exact .inl (.inr (.inr (.inr (.inr (.inr (.inr (.inr (.inr (.inr ⟨_, z⟩)))))))))
            · rcases f with z | z | z | z | z | z | z | z | z | ⟨k, z⟩
              · exact .inl z
              · exact .inr (.inl z)
              · exact .inr (.inr (.inl z))
              · exact .inr (.inr (.inr (.inl z)))
              · exact .inr (.inr (.inr (.inr (.inl z))))
              · exact .inr (.inr (.inr (.inr (.inr (.inl z)))))
              · exact .inr (.inr (.inr (.inr (.inr (.inr (.inl z))))))
              · exact .inr (.inr (.inr (.inr (.inr (.inr (.inr (.inl z)))))))
              · exact .inr (.inr (.inr (.inr (.inr (.inr (.inr (.inr (.inl z))))))))
              · refine .inr (.inr (.inr (.inr (.inr (.inr (.inr (.inr (.inr ⟨k, ?_⟩))))))))
                show valV kR' k = some (.ref b)
                rcases ls0 with ⟨_, _, e⟩ | ⟨e1, _, _, e⟩
                · rw [e]
                  exact z
                · rw [e, valV_put]
                  by_cases y : k = k2 (tapX l).card ((tapX l).minute / 1440)
                  · rw [y, e1] at z
                    cases z
                  · rw [if_neg y]
                    exact z
      · rintro σ H' Q1 Q2 hq ⟨v1, e1, v2, e2, b1, C1, dx1, fs1, w1, e3, e4, e5, e6, e7, v3, e8, p1, xs1, i1, w2, e9, f1, f2, f3, f4, f5⟩
        refine ⟨v1, e1, v2, e2, b1, C1, dx1, fs1, w1, e3, e4, e5, e6, e7, v3, e8, p1, xs1, i1, w2, e9, f1, f2, f3, f4, fun t ht => ?_⟩
        obtain ⟨v4, g1, b2, C2, dx2, fs2, w3, g2, g3, g4, g5, g6, b3, o3, g7, g8, c3, g9, g10⟩ := f5 t ht
        exact ⟨v4, g1, b2, C2, dx2, fs2, w3, g2, g3, g4, g5, g6, b3, o3, g7, g8, c3, g9, hq _ _ g10⟩
end
end Fb
namespace Fb
open PySem PySem.Spec PyProof.Rows L2
def newer (c : Km347.Centre) (y : Km347.Seal) : Prop := (c.sealAt y.reader).2 < y.minute ∨ ((c.sealAt y.reader).2 = y.minute ∧ (c.sealAt y.reader).1 < y.many)
instance (c : Km347.Centre) (y : Km347.Seal) : Decidable (newer c y) := by
  unfold newer
  infer_instance
theorem le_newer (c : Km347.Centre) (y : Km347.Seal) : HT.lexLe [(y.minute : Int), (y.many : Int)] [((c.sealAt y.reader).2 : Int), ((c.sealAt y.reader).1 : Int)] = !decide (newer c y) := by
  have e : ∀ (p q r s : Nat), HT.lexLe [(p : Int), (q : Int)] [(r : Int), (s : Int)] = !decide (r < p ∨ (r = p ∧ s < q)) := fun p q r s => by
    unfold HT.lexLe
    by_cases h1 : (p : Int) = (r : Int)
    · rw [if_pos h1]
      unfold HT.lexLe
      by_cases h2 : (q : Int) = (s : Int)
      · rw [if_pos h2]
        unfold HT.lexLe
        rw [decide_eq_false (by omega)]
        rfl
      · rw [if_neg h2]
        by_cases h3 : (q : Int) ≤ (s : Int)
        · rw [decide_eq_true h3, decide_eq_false (by omega)]
          rfl
        · rw [decide_eq_false h3, decide_eq_true (by omega)]
          rfl
    · rw [if_neg h1]
      by_cases h3 : (p : Int) ≤ (r : Int)
      · rw [decide_eq_true h3, decide_eq_false (by omega)]
        rfl
      · rw [decide_eq_false h3, decide_eq_true (by omega)]
        rfl
  exact e _ _ _ _
theorem CtAt.sealing {a : Ad} {H H' : Hp} {A : CA} {c : Km347.Centre} {n r many minute : Nat} {t : Addr} (h : CtAt a H A c n) (hr : r < c.readers) (fr : ∀ b o, H b = some o → b ≠ A.dS → H' b = some o)
    (hS : H' A.dS = some (.lst ((A.sas.set r t).map V.ref))) (ht : H' t = some (.tup [nv minute, nv many])) : CtAt a H' { A with sas := A.sas.set r t } (Fb.withSeal c r many minute) n := by
  obtain ⟨dx, tob⟩ := h.tf.ob
  obtain ⟨a1, a2, a3, a4, a5, a6, a7, a8⟩ := h.ap
  have kt : ∀ q xs, H q = some (.tup xs) → H' q = some (.tup xs) := fun q xs e => fr q _ e (ne_of e h.hS (by intro z; cases z))
  have r8 := h.ok.r8
  have slen : A.sas.length = c.readers := by
    rw [h.vS.1, List.length_map, List.length_range]
  have hs8 : r < c.seals.length := by
    rw [h.ok.s8]
    omega
  refine ⟨fr _ _ h.ob (ne_of h.ob h.hS (by intro z; cases z)), ⟨⟨dx, fr _ _ tob (ne_of tob h.hS (by intro z; cases z))⟩, fr _ _ h.tf.sg a5.symm, fr _ _ h.tf.pp a6.symm, h.tf.ps.keep kt, h.tf.s8, h.tf.p3⟩, fr _ _ h.hT (ne_of h.hT h.hS (by intro z; cases z)), hS, fr _ _ h.hU a4.symm,
    fr _ _ h.hR (ne_of h.hR h.hS (by intro z; cases z)), fr _ _ h.hW (ne_of h.hW h.hS (by intro z; cases z)), h.vT, ⟨?_, fun i x e => ?_⟩, h.vU, fun card day => ?_, fun card day v e => ?_, h.inj, fun k v e => ?_, h.ap, h.few, h.ok.withSeal r many minute⟩
  · show (A.sas.set r t).length = _
    rw [List.length_set, slen, List.length_map, List.length_range]
    rfl
  · obtain ⟨j, hj, rfl⟩ := map_get e
    have hji : j = i ∧ i < c.readers := by
      obtain ⟨z1, z2⟩ := List.getElem?_eq_some_iff.mp hj
      rw [List.length_range] at z1
      rw [List.getElem_range] at z2
      exact ⟨z2.symm, z1⟩
    obtain ⟨rfl, hjr⟩ := hji
    show ∃ q, (A.sas.set r t)[j]? = some q ∧ _
    unfold sealV
    rw [sealAt_set hs8]
    by_cases z : r = j
    · subst z
      rw [if_pos rfl, List.getElem?_set_self (by rw [slen]; exact hr)]
      exact ⟨t, rfl, ht⟩
    · rw [if_neg z, List.getElem?_set_ne z]
      obtain ⟨q, q1, q2⟩ := h.sealed hjr
      exact ⟨q, q1, kt _ _ q2⟩
  · rcases h.vR card day with z | ⟨l, as, xs, z1, z2, z3, z4⟩
    · exact .inl z
    · obtain ⟨l2, e3, _, e4, _⟩ := h.rl _ _ z1
      cases e3
      exact .inr ⟨l, as, xs, z1, fr _ _ z2 e4, z3, z4.keep kt⟩
  · obtain ⟨q, e1, e2⟩ := h.vW card day v e
    exact ⟨q, e1, kt _ _ e2⟩
  · obtain ⟨l, e1, ⟨xs, e2⟩, e3⟩ := h.rl k v e
    exact ⟨l, e1, ⟨xs, fr _ _ e2 e3.1⟩, e3⟩
section
variable {P : Program} {w : World} {K : PySem.W.Frag} {mg : Str → Option Value} {base : Heap}
def spHeardSeal (K : PySem.W.Frag) (a : Ad) : Sp := fun vs H Q _ => ∃ (A : CA) (c : Km347.Centre) (n : Nat) (d : Addr) (l : List Nat), vs = [.ref A.pc, .ref d] ∧ CtAt a H A c n ∧ MsgAt K H d l ∧ gb l 1 < c.readers ∧
  (¬ newer c (sealX l) → ∀ H', Same H H' → Q (.int 0) H') ∧ (newer c (sealX l) → ∀ H' A', Became a H H' A A' (Fb.withSeal c (sealX l).reader (sealX l).many (sealX l).minute) n → Q (.int 1) H')
theorem ok_z2 {a : Ad} (T : Tx K mg a) : FnOk P w K mg base CX0 3 a.f_z2 a.d_z2 ["self", "message"] (spHeardSeal K a) := by
  have G_z32 := ok_z32 (P := P) (w := w) (base := base) T
  have G_z33 := ok_z33 (P := P) (w := w) (base := base) T
  have G_z38 := ok_z38 (P := P) (w := w) (base := base) T
  refine T.F_z2.ok sc_z2 (fun vs H Q E h => ?_) (fun cdv A outer s H vs Q E hr h => ?_)
  · obtain ⟨A, c, n, d, l, rfl, _⟩ := h
    rfl
  · obtain ⟨A, c, n, d, l, rfl, ct, m, hrd, q0, q1⟩ := h
    have hu := hu_of hr
    refine ⟨_, (pss_cons (ps_set (i := 2) sc_z2.nd rfl (Or.inl rfl) (pe_call G_z38 (hr.mono (by decide)) rfl T.m_z38 T.F_z38.kp T.b_z38 .nil pass0 (pa_cons (pv 1) pa_nil)))
      (pss_cons (ps_set (i := 3) sc_z2.nd rfl (Or.inl rfl) (pe_tup (pa_cons (pe_call G_z32 (hr.mono (by decide)) rfl T.m_z32 T.F_z32.kp T.b_z32 .nil pass0 (pa_cons (pv 1) pa_nil)) (pa_cons (pe_call G_z33 (hr.mono (by decide)) rfl T.m_z33 T.F_z33.kp T.b_z33 .nil pass0 (pa_cons (pv 1) pa_nil)) pa_nil))))
      (pss_cons (ps_if (pt_cmpR (op_leT (Nat.lt_of_succ_lt hu)) (pv 3) (pe_ix ix_list (pe_fld (pv 0) rfl) (pv 2) (fun _ _ => rfl)) (nomark _))
        (pss_one (ps_ret pe_int))
        pss_nil)
      (pss_cons (ps_asg (pv 3) (pg_sub (pe_fld (pv 0) rfl) (pv 2) set_list))
      (pss_one (ps_ret pe_int)))))), ?_⟩
    have ex1 : (sealX l).reader = gb l 1 := num1 (by rw [m.ln]; decide)
    rw [← ex1] at hrd
    obtain ⟨q, hq1, hq2⟩ := ct.sealed hrd
    refine ⟨_, rfl, d, l, rfl, m, ?_⟩
    rw [← ex1]
    refine ⟨_, rfl, d, l, rfl, m, _, rfl, d, l, rfl, m, (by show 2 ≤ sizeLine; decide), fun t ht => ?_⟩
    have s1 : Same H (upd H t (.tup [nv (sealX l).minute, nv (sealX l).many])) := Same.new ht
    have ht1 : (upd H t (.tup [nv (sealX l).minute, nv (sealX l).many])) t = some (.tup [nv (sealX l).minute, nv (sealX l).many]) := upd_same
    show tSeq _ _ _ [some (.ref A.pc), some (.ref d), some (nv (sealX l).reader), some (.ref t)] (upd H t (.tup [nv (sealX l).minute, nv (sealX l).many]))
    generalize upd H t (.tup [nv (sealX l).minute, nv (sealX l).many]) = H1 at s1 ht1
    refine ⟨_, rfl, _, rfl, A.pc, _, A.dx, _, _, rfl, s1 _ _ ct.ob, T.cl_Centre, T.na_Centre_seals, lk_Centre_seals, _, rfl, A.dS, _, _, _, rfl, rfl, SqL.of (s1 _ _ ct.hS), atI_nat (get_map hq1), t, q, [((sealX l).minute : Int), ((sealX l).many : Int)], [((c.sealAt (sealX l).reader).2 : Int), ((c.sealAt (sealX l).reader).1 : Int)], rfl, rfl, SqT.of ht1, SqT.of (s1 _ _ hq2), _, rfl, ?_⟩
    rw [le_newer]
    by_cases nw : newer c (sealX l)
    · rw [decide_eq_true nw]
      refine iteF ?_
      have slen : A.sas.length = c.readers := by
        rw [ct.vS.1, List.length_map, List.length_range]
      refine ⟨_, rfl, _, rfl, A.pc, _, A.dx, _, _, rfl, s1 _ _ ct.ob, T.cl_Centre, T.na_Centre_seals, lk_Centre_seals, _, rfl, A.dS, _, _, (sealX l).reader, rfl, rfl, s1 _ _ ct.hS, ixN_nat (by rw [List.length_map, slen]; exact hrd), ?_⟩
      have ntS : t ≠ A.dS := ne_of ht1 (s1 _ _ ct.hS) (by intro z; cases z)
      refine q1 nw _ { A with sas := A.sas.set (sealX l).reader t } ⟨ct.sealing hrd (fun b o e nb => ?_) ?_ ?_, rfl, fun b o e nf => ?_, fun b f => .inl f, fun b f => f⟩
      · rw [upd_ne nb]
        exact s1 _ _ e
      · rw [upd_same, List.map_set]
      · rw [upd_ne ntS]
        exact ht1
      · rw [upd_ne (foot_ne nf).2.1]
        exact s1 _ _ e
    · rw [decide_eq_false nw]
      exact iteT (q0 nw _ s1)
def spHeard (a : Ad) : Sp := fun vs H Q _ => ∃ (A : CA) (c : Km347.Centre) (n : Nat) (d : Addr) (l : List Nat), vs = [.ref A.pc, .ref d] ∧ CtAt a H A c n ∧ n ≤ 100000 ∧ H d = some (.lst (l.map nv)) ∧ l.length = 20 ∧ (∀ x ∈ l, x < 256) ∧ ¬ foot A d ∧
  ∀ (H' : Hp) (A' : CA) (p : Addr), Became a H H' A A' (Km347.cDoes c (.cHeard l)).1 (n + 1) → H p = none → ¬ foot A' p → H' p = some (.lst ((Km347Neutral.told (Km347.cDoes c (.cHeard l)).2).map V.int)) → Q (.ref p) H'
theorem ok_z12 {a : Ad} (T : Tx K mg a) : FnOk P w K mg base CX0 5 a.f_z12 a.d_z12 ["self", "message"] (spHeard a) := by
  have G_z2 := ok_z2 (P := P) (w := w) (base := base) T
  have G_z9 := ok_z9 (P := P) (w := w) (base := base) T
  have G_z43 := ok_z43 (P := P) (w := w) (base := base) T
  have G_z51 := ok_z51 (P := P) (w := w) (base := base) T
  have G_z38 := ok_z38 (P := P) (w := w) (base := base) T
  refine T.F_z12.ok sc_z12 (fun vs H Q E h => ?_) (fun cdv A outer s H vs Q E hr h => ?_)
  · obtain ⟨A, c, n, d, l, rfl, _⟩ := h
    rfl
  · obtain ⟨A, c, n, d, l, rfl, ct, hn, hd, h20, hby, hdf, k⟩ := h
    refine ⟨_, (pss_cons (ps_if (PW.pt (pw_or (pt_not (pt_val (pe_call G_z43 (hr.mono (by decide)) rfl T.m_z43 T.F_z43.kp T.b_z43 .nil pass0 (pa_cons (pv 1) pa_nil)))) (pw_or1 (pt_cmpR op_ge (pe_call G_z38 (hr.mono (by decide)) rfl T.m_z38 T.F_z38.kp T.b_z38 .nil pass0 (pa_cons (pv 1) pa_nil)) (pe_fld (pv 0) rfl) (nomark _)))))
        (pss_one (ps_ret (pe_lst (pa_cons (pe_gint rfl T.g_WRONG_MESSAGE) pa_nil))))
        pss_nil)
      (pss_cons (ps_if (pt_val (pe_call G_z51 (hr.mono (by decide)) rfl T.m_z51 T.F_z51.kp T.b_z51 .nil pass0 (pa_cons (pv 1) pa_nil)))
        (pss_one (ps_ret (pe_lst (pa_cons (pe_meth (pv 0) T.cl_Centre T.h_z9 G_z9 (hr.mono (by decide)) T.b_z9 .nil pass0 (pa_cons (pv 1) pa_nil)) pa_nil))))
        pss_nil)
      (pss_one (ps_ret (pe_lst (pa_cons (pe_meth (pv 0) T.cl_Centre T.h_z2 G_z2 (hr.mono (by decide)) T.b_z2 .nil pass0 (pa_cons (pv 1) pa_nil)) pa_nil)))))), ?_⟩
    have m0 : MsgAt K H d l := ⟨SqL.of hd, h20, hby⟩
    have et := tapOf_eq h20 hby
    have es := sealOf_eq h20 hby
    have gx1 : (tapX l).reader = gb l 1 := num1 (by omega)
    have gs1 : (sealX l).reader = gb l 1 := num1 (by omega)
    have fin : ∀ (H1 : Hp) (A' : CA) (v : Int), Became a H H1 A A' (Km347.cDoes c (.cHeard l)).1 (n + 1) → (Km347.cDoes c (.cHeard l)).2 = Km347.only v → 1 ≤ sizeLine ∧ ∀ p, H1 p = none → Q (.ref p) (upd H1 p (.lst [.int v])) := fun H1 A' v bc ev => by
      refine ⟨by decide, fun p hp => k _ A' p (bc.andSame (Same.new hp)) (bc.free hp) (fun f => bc.ct.there f hp) ?_⟩
      rw [upd_same, ev, told_only]
    have bad : c.hears l = none → ∀ H1, Same H H1 → 1 ≤ sizeLine ∧ ∀ p, H1 p = none → Q (.ref p) (upd H1 p (.lst [.int (-71)])) := fun e H1 s1 => by
      have ed : Km347.cDoes c (.cHeard l) = (c, Km347.only (-71)) := by
        simp only [Km347.cDoes, e]
      refine fin H1 A (-71) ?_ (by rw [ed])
      rw [ed]
      exact Became.same ct s1 (Nat.le_succ _)
    have good : ∀ (c' : Km347.Centre) (v : Nat), c.hears l = some (c', v) → Km347.cDoes c (.cHeard l) = (c', Km347.only (v : Int)) := fun c' v e => by
      simp only [Km347.cDoes, e]
    refine ⟨_, rfl, d, l, rfl, m0, fun H1 s1 => ⟨_, rfl, ?_⟩⟩
    have ct1 := ct.same s1
    have m1 := m0.same s1
    have back : ∀ {H2 A' c' m}, Became a H1 H2 A A' c' m → m ≤ n + 1 → Became a H H2 A A' c' (n + 1) := fun {H2 A' c' m} b hm =>
      ⟨b.ct.more hm, b.pc, fun x o e nf => b.fr _ _ (s1 _ _ e) nf, fun x f => (b.nw x f).imp id fun z => s1.free z, b.od⟩
    cases hrb : rightB l with
    | false =>
      refine iteT (iteT (bad ?_ H1 s1))
      have h1 : ¬ (Km347.checked (l.take 16) = l ∧ gb l 1 < 8 ∧ tapB l = true) := fun z => by
        unfold rightB at hrb
        rw [decide_eq_true ⟨z.1, z.2.1⟩, z.2.2] at hrb
        cases hrb
      have h2 : ¬ (Km347.checked (l.take 16) = l ∧ gb l 1 < 8 ∧ sealB l = true) := fun z => by
        unfold rightB at hrb
        rw [decide_eq_true ⟨z.1, z.2.1⟩, z.2.2, Bool.or_true] at hrb
        cases hrb
      rw [if_neg h1] at et
      rw [if_neg h2] at es
      simp only [Km347.Centre.hears, et, es]
    | true =>
      have hrb2 := hrb
      unfold rightB at hrb2
      rw [Bool.and_eq_true, decide_eq_true_eq] at hrb2
      obtain ⟨⟨w1, w2⟩, w3⟩ := hrb2
      refine iteF ⟨_, rfl, d, l, rfl, m1, _, rfl, A.pc, _, A.dx, _, _, rfl, ct1.ob, T.cl_Centre, T.na_Centre_reader_count, lk_Centre_reader_count, _, _, rfl, rfl, _, rfl, iteD (fun c1 => ?_) (fun c1 => ?_)⟩
      · have c1 := of_decide_eq_true c1
        refine bad ?_ H1 s1
        cases htb : tapB l with
        | true =>
          rw [if_pos ⟨w1, w2, htb⟩] at et
          simp only [Km347.Centre.hears, et]
          rw [if_pos (by rw [gx1]; omega)]
        | false =>
          rw [htb, Bool.false_or] at w3
          rw [if_neg (fun z => by rw [htb] at z; cases z.2.2)] at et
          rw [if_pos ⟨w1, w2, w3⟩] at es
          simp only [Km347.Centre.hears, et, es]
          rw [if_pos (by rw [gs1]; omega)]
      · have c1 := of_decide_eq_false c1
        have hrd : gb l 1 < c.readers := by omega
        refine ⟨_, rfl, d, l, rfl, m1, _, rfl, ?_⟩
        cases htb : tapB l with
        | true =>
          rw [if_pos ⟨w1, w2, htb⟩] at et
          refine iteT ⟨_, rfl, A.pc, A.dx, _, rfl, ct1.ob, nm_z9, _, rfl, A, c, n, d, l, rfl, ct1, hn, s1 _ _ hd, h20, hby, hdf, htb, hrd, fun kn H2 s2 => ?_, fun kn H2 A' bc => ?_⟩
          · have e := good c 0 (by
              simp only [Km347.Centre.hears, et]
              rw [if_neg (by rw [gx1]; omega), if_pos kn])
            refine fin H2 A 0 ?_ (by rw [e]; rfl)
            rw [e]
            exact Became.same ct (s1.trans s2) (Nat.le_succ _)
          · have e := good (Fb.plus c (tapX l)) 1 (by
              simp only [Km347.Centre.hears, et]
              rw [if_neg (by rw [gx1]; omega), if_neg (by rw [kn]; exact Bool.false_ne_true)]
              rfl)
            refine fin H2 A' 1 ?_ (by rw [e]; rfl)
            rw [e]
            exact back bc (Nat.le_refl _)
        | false =>
          rw [htb, Bool.false_or] at w3
          rw [if_neg (fun z => by rw [htb] at z; cases z.2.2)] at et
          rw [if_pos ⟨w1, w2, w3⟩] at es
          refine iteF ⟨_, rfl, A.pc, A.dx, _, rfl, ct1.ob, nm_z2, _, rfl, A, c, n, d, l, rfl, ct1, m1, hrd, fun nw H2 s2 => ?_, fun nw H2 A' bc => ?_⟩
          · have nw2 := nw
            unfold newer at nw2
            have e := good c 0 (by
              simp only [Km347.Centre.hears, et, es]
              rw [if_neg (by rw [gs1]; omega), if_neg nw2])
            refine fin H2 A 0 ?_ (by rw [e]; rfl)
            rw [e]
            exact Became.same ct (s1.trans s2) (Nat.le_succ _)
          · have nw2 := nw
            unfold newer at nw2
            have e := good (Fb.withSeal c (sealX l).reader (sealX l).many (sealX l).minute) 1 (by
              simp only [Km347.Centre.hears, et, es]
              rw [if_neg (by rw [gs1]; omega), if_pos nw2]
              rfl)
            refine fin H2 A' 1 ?_ (by rw [e]; rfl)
            rw [e]
            exact back bc (Nat.le_succ _)
end
end Fb
namespace Fb
open PySem PySem.Spec PyProof.Rows L2
def tapI (H : Hp) (card : Nat) (q : Addr) : Km347.Tap := ⟨((rowI H q).getD 1 0).toNat, ((rowI H q).getD 2 0).toNat, card, ((rowI H q).getD 0 0).toNat, ((rowI H q).getD 3 0).toNat⟩
def rowT (x : Km347.Tap) : List Int := [(x.minute : Int), (x.reader : Int), (x.number : Int), (x.zones : Int)]
theorem rowI_tap {H : Hp} {q : Addr} {x : Km347.Tap} (h : H q = some (.tup (tapV x))) : rowI H q = rowT x := by
  unfold rowI
  rw [h]
  rfl
theorem tapI_eq {H : Hp} {q : Addr} {x : Km347.Tap} (h : H q = some (.tup (tapV x))) : tapI H x.card q = x := by
  unfold tapI
  rw [rowI_tap h]
  rfl
theorem le3_of {x y : Km347.Tap} (h : HT.lexLt (rowT y) (rowT x) = false) : le3 x y := by
  unfold rowT at h
  rw [HT.lexLt_cons] at h
  unfold le3
  by_cases h1 : (y.minute : Int) = (x.minute : Int)
  · rw [if_pos h1, HT.lexLt_cons] at h
    by_cases h2 : (y.reader : Int) = (x.reader : Int)
    · rw [if_pos h2, HT.lexLt_cons] at h
      by_cases h3 : (y.number : Int) = (x.number : Int)
      · omega
      · rw [if_neg h3] at h
        have := of_decide_eq_false h
        omega
    · rw [if_neg h2] at h
      have := of_decide_eq_false h
      omega
  · rw [if_neg h1] at h
    have := of_decide_eq_false h
    omega
theorem sorted_is {H : Hp} {c : Km347.Centre} (ok : COk c) {card day : Nat} {as as' : List Addr} {xs : List Km347.Tap} (hx : xs.Perm (ofs c card day)) (ta : TupsAt H as (xs.map tapV)) (hp : as'.Perm as) (hs : as'.Pairwise (fun x y => HT.lexLt (rowI H y) (rowI H x) = false)) :
    TupsAt H as' ((c.of card day).map tapV) := by
  have card_of : ∀ x ∈ xs, x.card = card := fun x h => (mem_ofs.mp (hx.mem_iff.mp h)).2.1
  have at_ : ∀ (i : Nat) (q : Addr), as[i]? = some q → ∃ x, xs[i]? = some x ∧ H q = some (.tup (tapV x)) := fun i q e => by
    have hi : i < xs.length := by
      have l1 := ta.1
      rw [List.length_map] at l1
      rw [← l1]
      exact (List.getElem?_eq_some_iff.mp e).1
    obtain ⟨q2, e1, e2⟩ := ta.2 i _ (get_map (List.getElem?_eq_getElem hi))
    rw [e] at e1
    cases e1
    exact ⟨_, List.getElem?_eq_getElem hi, e2⟩
  have mem_ : ∀ q ∈ as, ∃ x ∈ xs, H q = some (.tup (tapV x)) := fun q hq => by
    obtain ⟨i, hi⟩ := List.mem_iff_getElem?.mp hq
    obtain ⟨x, e1, e2⟩ := at_ i q hi
    exact ⟨x, List.mem_of_getElem? e1, e2⟩
  have tq : ∀ q ∈ as, H q = some (.tup (tapV (tapI H card q))) := fun q hq => by
    obtain ⟨x, h1, h2⟩ := mem_ q hq
    rw [← card_of x h1, tapI_eq h2]
    exact h2
  have e0 : as.map (tapI H card) = xs := by
    refine List.ext_getElem? fun i => ?_
    rw [List.getElem?_map]
    cases z : as[i]? with
    | none =>
      have l1 := ta.1
      rw [List.length_map] at l1
      have := List.getElem?_eq_none_iff.mp z
      rw [List.getElem?_eq_none (by omega)]
      rfl
    | some q =>
      obtain ⟨x, e1, e2⟩ := at_ i q z
      rw [e1]
      show some (tapI H card q) = some x
      rw [← card_of x (List.mem_of_getElem? e1), tapI_eq e2]
  have perm : (as'.map (tapI H card)).Perm (ofs c card day) := by
    have := hp.map (tapI H card)
    rw [e0] at this
    exact this.trans hx
  have srt : (as'.map (tapI H card)).Pairwise le3 := by
    rw [List.pairwise_map]
    refine List.Pairwise.imp_of_mem ?_ hs
    intro a b ha hb h
    have t1 := tq a (hp.mem_iff.mp ha)
    have t2 := tq b (hp.mem_iff.mp hb)
    rw [rowI_tap t1, rowI_tap t2] at h
    exact le3_of h
  have e := of_eq ok perm srt
  rw [← e]
  refine ⟨by rw [List.length_map, List.length_map], fun i x hx2 => ?_⟩
  obtain ⟨y, hy, rfl⟩ := map_get hx2
  obtain ⟨q, hq, rfl⟩ := map_get hy
  exact ⟨q, hq, tq q (hp.mem_iff.mp (List.mem_of_getElem? hq))⟩
theorem rides_sorted (c : Km347.Centre) (card day : Nat) : Sorted (c.rides card day) := by
  unfold Km347.Centre.rides Sorted
  rw [List.pairwise_map]
  refine List.Pairwise.imp ?_ (of_ok c card day).1
  intro a b h
  unfold le3 at h
  show a.minute ≤ b.minute
  omega
theorem rides_zones {c : Km347.Centre} (ok : COk c) (card day : Nat) : ∀ r ∈ c.rides card day, 1 ≤ r.zones ∧ r.zones < 256 := fun r hr => by
  unfold Km347.Centre.rides at hr
  obtain ⟨x, hx, rfl⟩ := List.mem_map.mp hr
  have := ok.tp x (mem_ofs.mp ((of_ok c card day).2.mem_iff.mp hx)).1
  exact ⟨this.1, this.2.1⟩
theorem CtAt.wayPut {a : Ad} {H H' : Hp} {A : CA} {c : Km347.Centre} {n card day : Nat} {q : Addr} (h : CtAt a H A c n) (fr : ∀ b o, H b = some o → b ≠ A.dW → H' b = some o) (hW : H' A.dW = some (.dT (putK A.kW (k2 card day) (.ref q))))
    (hq : H' q = some (.tup [nv (tgtOf c.tariff (c.rides card day)).1, nv (tgtOf c.tariff (c.rides card day)).2])) : CtAt a H' { A with kW := putK A.kW (k2 card day) (.ref q) } c (n + 1) := by
  obtain ⟨dx, tob⟩ := h.tf.ob
  obtain ⟨a1, a2, a3, a4, a5, a6, a7, a8⟩ := h.ap
  have kt : ∀ q xs, H q = some (.tup xs) → H' q = some (.tup xs) := fun q xs e => fr q _ e (ne_of e h.hW (by intro z; cases z))
  have kl : ∀ {b : Addr} {zs : List V}, H b = some (.lst zs) → H' b = some (.lst zs) := fun {b zs} e => fr b _ e (ne_of e h.hW (by intro z; cases z))
  refine ⟨fr _ _ h.ob (ne_of h.ob h.hW (by intro z; cases z)), ⟨⟨dx, fr _ _ tob (ne_of tob h.hW (by intro z; cases z))⟩, kl h.tf.sg, kl h.tf.pp, h.tf.ps.keep kt, h.tf.s8, h.tf.p3⟩, fr _ _ h.hT a2, kl h.hS, kl h.hU, fr _ _ h.hR a3, hW, h.vT, h.vS.keep kt, h.vU, fun cd dy => ?_, fun cd dy v e => ?_, h.inj, fun k v e => ?_, h.ap,
    ⟨Nat.le_succ_of_le h.few.1, Nat.le_succ_of_le h.few.2.1, putK_len _ _ _ h.few.2.2.1, Nat.le_succ_of_le h.few.2.2.2⟩, h.ok⟩
  · rcases h.vR cd dy with z | ⟨l, as, xs, z1, z2, z3, z4⟩
    · exact .inl z
    · exact .inr ⟨l, as, xs, z1, kl z2, z3, z4.keep kt⟩
  · have e : valV (putK A.kW (k2 card day) (.ref q)) (k2 cd dy) = some v := e
    rw [valV_put] at e
    by_cases z : k2 cd dy = k2 card day
    · obtain ⟨z1, z2⟩ := k2_inj z
      rw [if_pos z] at e
      cases e
      rw [z1, z2]
      exact ⟨q, rfl, hq⟩
    · rw [if_neg z] at e
      obtain ⟨q', e1, e2⟩ := h.vW cd dy v e
      exact ⟨q', e1, kt _ _ e2⟩
  · obtain ⟨l, e1, ⟨xs, e2⟩, e3⟩ := h.rl k v e
    exact ⟨l, e1, ⟨xs, kl e2⟩, e3⟩
theorem take_rides {l : List Km347.Tap} {i : Nat} {x : Km347.Tap} (h : l[i]? = some x) : ((l.map fun x => (⟨x.minute, x.zones⟩ : Km347.Ride)).take (i + 1)).map rideV = ((l.map fun x => (⟨x.minute, x.zones⟩ : Km347.Ride)).take i).map rideV ++ [[nv x.minute, nv x.zones]] := by
  rw [take_snoc (get_map h), List.map_append]
  rfl
section
variable {P : Program} {w : World} {K : PySem.W.Frag} {mg : Str → Option Value} {base : Heap}
def spWay (a : Ad) : Sp := fun vs H Q _ => ∃ (A : CA) (c : Km347.Centre) (n card day : Nat), vs = [.ref A.pc, nv card, nv day] ∧ CtAt a H A c n ∧ n ≤ 100000 ∧ (c.rides card day).length ≤ 32 ∧
  ∀ (H' : Hp) (A' : CA) (q : Addr), Became a H H' A A' c (n + 1) → H' q = some (.tup [nv (tgtOf c.tariff (c.rides card day)).1, nv (tgtOf c.tariff (c.rides card day)).2]) → Q (.ref q) H'
theorem ok_z11 {a : Ad} (T : Tx K mg a) : FnOk P w K mg base CX0 5 a.f_z11 a.d_z11 ["self", "card", "day"] (spWay a) := by
  have G_z40 := ok_z40 (P := P) (w := w) (base := base) T
  refine T.F_z11.ok sc_z11 (fun vs H Q E h => ?_) (fun cdv A outer s H vs Q E hr h => ?_)
  · obtain ⟨A, c, n, card, day, rfl, _⟩ := h
    rfl
  · obtain ⟨A, c, n, card, day, rfl, ct, hn, h32, k⟩ := h
    have hu := hu_of hr
    refine ⟨_, (pss_cons (ps_set (i := 3) sc_z11.nd rfl (Or.inl rfl) (pe_tup (pa_cons (pv 1) (pa_cons (pv 2) pa_nil))))
      (pss_cons (ps_if (pt_cmp (pc_dnotin hu (pv 3) (pe_fld (pv 0) rfl)))
        (pss_cons (ps_setLc (i := 4) rfl sc_z11.nd rfl rfl (sw_true rfl rfl rfl rfl) (pi_list (pe_callB cr_sortedT rfl T.n_sorted PyProof.Rows.boot_sorted (pa_cons (pe_dget2 hu (pe_fld (pv 0) rfl) (pv 3) (pe_lst pa_nil) ⟨rfl, rfl, rfl, rfl⟩) pa_nil))) (blkOk_by (own := [("ride", 5)]) (show blkC ["self", "card", "day", "key", "rides", "ride"] (defScope s_z11) _ [("ride", 5)] = true by decide +kernel)) (fun _ _ _ _ _ => (pg_name (i := 5) sc_z11.nd rfl (Or.inl rfl))) (fun _ _ _ _ _ => pts_nil) (fun _ _ _ _ _ => (pe_tup (pa_cons (pe_ix (ix_tupK (K := K) rfl) (pv 5) pe_int (fun _ _ => rfl)) (pa_cons (pe_ix (ix_tupK (K := K) rfl) (pv 5) pe_int (fun _ _ => rfl)) pa_nil)))))
        (pss_one (ps_dput hu (pe_fld (pv 0) rfl) (pv 3) (pe_call G_z40 (hr.mono (by decide)) rfl T.m_z40 T.F_z40.kp T.b_z40 .nil pass0 (pa_cons (pe_fld (pv 0) rfl) (pa_cons (pv 4) pa_nil))) rfl)))
        pss_nil)
      (pss_one (ps_ret (pe_dget hu (pe_fld (pv 0) rfl) (pv 3) (fun _ _ => rfl)))))), ?_⟩
    refine ⟨_, rfl, _, rfl, (by show 2 ≤ sizeLine; decide), fun t ht => ?_⟩
    have s1 : Same H (upd H t (.tup [nv card, nv day])) := Same.new ht
    have htk : (upd H t (.tup [nv card, nv day])) t = some (.tup ((k2 card day).map kV)) := upd_same
    generalize upd H t (.tup [nv card, nv day]) = H1 at s1 htk
    refine ⟨_, rfl, _, rfl, A.pc, _, A.dx, _, _, rfl, s1 _ _ ct.ob, T.cl_Centre, T.na_Centre_ways, lk_Centre_ways, A.dW, _, rfl, DGet.t (k := k2 card day) (s1 _ _ ct.hW) htk, _, rfl, ?_⟩
    cases hv : valV A.kW (k2 card day) with
    | some v =>
      refine iteF ?_
      obtain ⟨q, rfl, hq⟩ := ct.vW card day v hv
      have g := DGet.t (k := k2 card day) (s1 _ _ ct.hW) htk
      rw [hv] at g
      exact ⟨_, rfl, A.pc, _, A.dx, _, _, rfl, s1 _ _ ct.ob, T.cl_Centre, T.na_Centre_ways, lk_Centre_ways, _, rfl, A.dW, _, rfl, g, k H1 A q (Became.same ct s1 (Nat.le_succ _)) (s1 _ _ hq)⟩
    | none =>
      refine iteT ?_
      refine ⟨_, rfl, A.pc, _, A.dx, _, _, rfl, s1 _ _ ct.ob, T.cl_Centre, T.na_Centre_rides, lk_Centre_rides, A.dR, rfl, .inr ⟨_, Rd.of (s1 _ _ ct.hR)⟩, _, rfl, Nat.zero_le _, fun l0 hl0 => ?_⟩
      have s2 : Same H1 (upd H1 l0 (.lst [])) := Same.new hl0
      have hl02 : (upd H1 l0 (.lst [])) l0 = some (.lst []) := upd_same
      generalize upd H1 l0 (.lst []) = H2 at s2 hl02
      have s12 := s1.trans s2
      refine ⟨_, DGet.t (k := k2 card day) (s12 _ _ ct.hR) (s2 _ _ htk), ?_⟩
      obtain ⟨l1, as, xs, e1, e2, e3, e4⟩ : ∃ (l1 : Addr) (as : List Addr) (xs : List Km347.Tap), (valV A.kR (k2 card day)).getD (.ref l0) = .ref l1 ∧ H2 l1 = some (.lst (as.map V.ref)) ∧ xs.Perm (ofs c card day) ∧ TupsAt H2 as (xs.map tapV) := by
        rcases ct.vR card day with ⟨v1, v2⟩ | ⟨l, as, xs, v1, v2, v3, v4⟩
        · exact ⟨l0, [], [], by rw [v1]; rfl, hl02, by rw [v2], TupsAt.nil⟩
        · exact ⟨l, as, xs, by rw [v1]; rfl, s12 _ _ v2, v3, v4.keep fun q xs e => s12 _ _ e⟩
      rw [e1]
      have rows : ∀ q ∈ as, H2 q = some (.tup ((rowI H2 q).map V.int)) ∧ rowI H2 q ≠ [] := fun q hq => by
        obtain ⟨i, hi⟩ := List.mem_iff_getElem?.mp hq
        have hl : i < xs.length := by
          have l1 := e4.1
          rw [List.length_map] at l1
          rw [← l1]
          exact (List.getElem?_eq_some_iff.mp hi).1
        obtain ⟨q2, z1, z2⟩ := e4.2 i _ (get_map (List.getElem?_eq_getElem hl))
        rw [hi] at z1
        cases z1
        rw [rowI_tap z2]
        exact ⟨z2, by unfold rowT; simp⟩
      refine ⟨l1, as, rowI H2, rfl, SqL.of e2, rows, fun as' p hperm hsort hp => ?_⟩
      have st := sorted_is ct.ok e3 e4 hperm hsort
      have s3 : Same H2 (upd H2 p (.lst (as'.map V.ref))) := Same.new hp
      have hp3 : (upd H2 p (.lst (as'.map V.ref))) p = some (.lst (as'.map V.ref)) := upd_same
      have st3 : TupsAt (upd H2 p (.lst (as'.map V.ref))) as' ((c.of card day).map tapV) := st.keep fun q xs e => s3 _ _ e
      generalize upd H2 p (.lst (as'.map V.ref)) = H3 at s3 hp3 st3
      have s13 := s12.trans s3
      refine ⟨p, rfl, ⟨_, SqL.of hp3⟩, fun D hD => ?_⟩
      have s4 : Same H3 (upd H3 D (.lst [])) := Same.new hD
      have olen : as'.length = (c.of card day).length := by
        have := st3.1
        rw [List.length_map] at this
        exact this
      refine lc_list (K := K) (a := p) (xs := as'.map V.ref) (fun i H' => ∃ bs, H' D = some (.lst (bs.map V.ref)) ∧ TupsAt H' bs (((c.rides card day).take i).map rideV) ∧ Same H3 H' ∧ bs.length = i) ⟨[], upd_same, TupsAt.nil, s4, rfl⟩ (fun i H' _ ⟨_, _, _, s, _⟩ => SqL.of (s _ _ hp3)) ?_ ?_
      · rintro i y H' hi ⟨bs, hb1, hb2, hb3, hb4⟩
        obtain ⟨qa, hqa, rfl⟩ := map_get hi
        have hil : i < (c.of card day).length := by
          rw [← olen]
          exact (List.getElem?_eq_some_iff.mp hqa).1
        obtain ⟨x, hx⟩ : ∃ x, (c.of card day)[i]? = some x := ⟨_, List.getElem?_eq_getElem hil⟩
        obtain ⟨q2, z1, z2⟩ := st3.2 i _ (get_map hx)
        rw [hqa] at z1
        cases z1
        have hq := hb3 _ _ z2
        refine ⟨rfl, _, rfl, qa, _, _, _, rfl, rfl, SqT.of hq, atI_nat (j := 0) rfl, _, rfl, qa, _, _, _, rfl, rfl, SqT.of hq, atI_nat (j := 3) rfl, (by show 2 ≤ sizeLine; decide), fun t5 ht5 => ?_⟩
        have n5 : H3 D = none := hD
        obtain ⟨g1, g2, g3⟩ := grow (row := [nv x.minute, nv x.zones]) hb3 n5 hb1 hb2 ht5
        have g0 : (upd H' t5 (.tup [nv x.minute, nv x.zones])) D = some (.lst (bs.map V.ref)) := by
          rw [upd_ne (ne_of_none hb1 ht5)]
          exact hb1
        refine ⟨bs.map V.ref, g0, ?_, bs ++ [t5], g2, ?_, g1, by rw [List.length_append, hb4]; rfl⟩
        · rw [List.length_map, hb4]
          have : i < 32 := by
            have l1 := h32
            unfold Km347.Centre.rides at l1
            rw [List.length_map] at l1
            omega
          exact Nat.lt_of_lt_of_le this (by decide)
        · unfold Km347.Centre.rides
          rw [take_rides hx]
          exact g3
      · rintro H4 ⟨bs, hb1, hb2, hb3, hb4⟩
        have etk : (c.rides card day).take (as'.map V.ref).length = c.rides card day := by
          refine List.take_of_length_le ?_
          unfold Km347.Centre.rides
          rw [List.length_map, List.length_map, olen]
          exact Nat.le_refl _
        rw [etk] at hb2
        have s14 := s13.trans hb3
        have ct4 := ct.same s14
        refine ⟨_, rfl, A.pc, _, A.dx, _, _, rfl, ct4.ob, T.cl_Centre, T.na_Centre_tariff, lk_Centre_tariff, _, rfl, A.pt, A.ls, A.lp, D, A.pas, bs, c.tariff, c.rides card day, rfl, ct4.tf, hb1, hb2, h32, rides_sorted c card day, rides_zones ct.ok card day, fun H5 q s5 hq => ?_⟩
        have s15 := s14.trans s5
        have ct5 := ct.same s15
        have ht5 : H5 t = some (.tup ((k2 card day).map kV)) := s5 _ _ (hb3 _ _ (s3 _ _ (s2 _ _ htk)))
        refine ⟨_, rfl, A.pc, _, A.dx, _, _, rfl, ct5.ob, T.cl_Centre, T.na_Centre_ways, lk_Centre_ways, _, rfl, A.dW, _, rfl, DPut.t (k := k2 card day) ct5.hW ht5 (Nat.lt_of_le_of_lt (Nat.le_trans ct.few.2.2.1 hn) (by decide)), ?_⟩
        have nqW : q ≠ A.dW := ne_of hq ct5.hW (by intro z; cases z)
        have ntW : t ≠ A.dW := ne_of ht5 ct5.hW (by intro z; cases z)
        have npW : A.pc ≠ A.dW := ne_of ct5.ob ct5.hW (by intro z; cases z)
        have hq6 : (upd H5 A.dW (.dT (putK A.kW (k2 card day) (.ref q)))) q = some (.tup [nv (tgtOf c.tariff (c.rides card day)).1, nv (tgtOf c.tariff (c.rides card day)).2]) := by
          rw [upd_ne nqW]
          exact hq
        have hp6 : (upd H5 A.dW (.dT (putK A.kW (k2 card day) (.ref q)))) A.pc = some (.ins a.c_Centre A.dx (fs_Centre (nv c.readers) (.ref A.pt) (.ref A.dT) (.ref A.dS) (.ref A.dU) (.ref A.dR) (.ref A.dW))) := by
          rw [upd_ne npW]
          exact ct5.ob
        have g : DGet (upd H5 A.dW (.dT (putK A.kW (k2 card day) (.ref q)))) A.dW (.ref t) (some (.ref q)) := by
          have := DGet.t (H := upd H5 A.dW (.dT (putK A.kW (k2 card day) (.ref q)))) (a := A.dW) (b := t) (k := k2 card day) upd_same (by rw [upd_ne ntW]; exact ht5)
          rw [valV_put, if_pos rfl] at this
          exact this
        refine ⟨_, rfl, A.pc, _, A.dx, _, _, rfl, hp6, T.cl_Centre, T.na_Centre_ways, lk_Centre_ways, _, rfl, A.dW, _, rfl, g, k _ { A with kW := putK A.kW (k2 card day) (.ref q) } q ⟨ct.wayPut (fun b o e nb => ?_) upd_same hq6, rfl, fun b o e nf => ?_, fun b f => .inl f, fun b f => f⟩ hq6⟩
        · rw [upd_ne nb]
          exact s15 _ _ e
        · rw [upd_ne (foot_ne nf).2.2.2.2.1]
          exact s15 _ _ e
end
end Fb
namespace Fb
open PySem PySem.Spec PyProof.Rows L2
section
variable {P : Program} {w : World} {K : PySem.W.Frag} {mg : Str → Option Value} {base : Heap}
def spAsk (a : Ad) (ask : Nat → Nat → Km347.Call) : Sp := fun vs H Q _ => ∃ (A : CA) (c : Km347.Centre) (n card day : Nat), vs = [.ref A.pc, nv card, nv day] ∧ CtAt a H A c n ∧ n ≤ 100000 ∧
  ∀ (H' : Hp) (A' : CA) (p : Addr), Became a H H' A A' c (n + 1) → H p = none → ¬ foot A' p → H' p = some (.lst ((Km347Neutral.told (Km347.cDoes c (ask card day)).2).map V.int)) → Q (.ref p) H'
theorem ok_z20 {a : Ad} (T : Tx K mg a) : FnOk P w K mg base CX0 6 a.f_z20 a.d_z20 ["self", "card", "day"] (spAsk a .cBill) := by
  have G_z5 := ok_z5 (P := P) (w := w) (base := base) T
  have G_z3 := ok_z3 (P := P) (w := w) (base := base) T
  have G_z1 := ok_z1 (P := P) (w := w) (base := base) T
  have G_z11 := ok_z11 (P := P) (w := w) (base := base) T
  refine T.F_z20.ok sc_z20 (fun vs H Q E h => ?_) (fun cdv A outer s H vs Q E hr h => ?_)
  · obtain ⟨A, c, n, card, day, rfl, _⟩ := h
    rfl
  · obtain ⟨A, c, n, card, day, rfl, ct, hn, k⟩ := h
    refine ⟨_, (pss_cons (ps_set (i := 3) sc_z20.nd rfl (Or.inl rfl) (pe_meth (pv 0) T.cl_Centre T.h_z3 G_z3 (hr.mono (by decide)) T.b_z3 .nil pass0 (pa_cons (pv 1) (pa_cons (pv 2) pa_nil))))
      (pss_cons (ps_if (pt_cmpR op_lt (pv 3) pe_int (nomark _))
        (pss_one (ps_ret (pe_lst (pa_cons (pv 3) pa_nil))))
        pss_nil)
      (pss_cons (ps_set (i := 4) sc_z20.nd rfl (Or.inl rfl) (pe_ifExp (pt_val (pe_meth (pv 0) T.cl_Centre T.h_z5 G_z5 (hr.mono (by decide)) T.b_z5 .nil pass0 (pa_cons (pv 2) pa_nil))) pe_int pe_int))
      (pss_one (ps_ret (pe_lst (pa_cons (pv 4) (pa_cons (pe_ix ix_tup (pe_meth (pv 0) T.cl_Centre T.h_z11 G_z11 (hr.mono (by decide)) T.b_z11 .nil pass0 (pa_cons (pv 1) (pa_cons (pv 2) pa_nil))) pe_int (fun _ _ => rfl)) (pa_cons (pe_meth (pv 0) T.cl_Centre T.h_z1 G_z1 (hr.mono (by decide)) T.b_z1 .nil pass0 (pa_cons (pv 1) (pa_cons (pv 2) pa_nil))) pa_nil))))))))), ?_⟩
    have fin : ∀ (H1 : Hp) (A' : CA), Became a H H1 A A' c (n + 1) → ∀ p xs, H1 p = none → xs = (Km347Neutral.told (Km347.cDoes c (.cBill card day)).2).map V.int → Q (.ref p) (upd H1 p (.lst xs)) := fun H1 A' bc p xs hp e => by
      refine k _ A' p (bc.andSame (Same.new hp)) (bc.free hp) (fun f => bc.ct.there f hp) ?_
      rw [upd_same, e]
    refine ⟨_, rfl, A.pc, A.dx, _, rfl, ct.ob, nm_z3, _, rfl, _, rfl, A, c, n, card, day, rfl, ct, fun H1 s1 => ?_⟩
    have ct1 := ct.same s1
    have back : ∀ {H2 A' c' m}, Became a H1 H2 A A' c' m → Became a H H2 A A' c' m := fun {H2 A' c' m} b => ⟨b.ct, b.pc, fun x o e nf => b.fr _ _ (s1 _ _ e) nf, fun x f => (b.nw x f).imp id fun z => s1.free z, b.od⟩
    by_cases hm : Km347.MINUTES ≤ Km347.DAY * day
    · have er : rf c card day = -22 := by
        unfold rf
        rw [if_pos hm]
      rw [er]
      refine ⟨_, rfl, _, _, rfl, rfl, _, rfl, iteT ⟨_, rfl, (by show 1 ≤ sizeLine; decide), fun p hp => fin H1 A (Became.same ct s1 (Nat.le_succ _)) p _ hp ?_⟩⟩
      simp only [Km347.cDoes, if_pos hm, told_only]
    · by_cases hr32 : Km347.RIDES < (c.rides card day).length
      · have er : rf c card day = -28 := by
          unfold rf
          rw [if_neg hm, if_pos hr32]
        rw [er]
        refine ⟨_, rfl, _, _, rfl, rfl, _, rfl, iteT ⟨_, rfl, (by show 1 ≤ sizeLine; decide), fun p hp => fin H1 A (Became.same ct s1 (Nat.le_succ _)) p _ hp ?_⟩⟩
        simp only [Km347.cDoes, if_neg hm, if_pos hr32, told_only]
      · have er : rf c card day = 0 := by
          unfold rf
          rw [if_neg hm, if_neg hr32]
        have h32 : (c.rides card day).length ≤ 32 := by
          unfold Km347.RIDES at hr32
          omega
        rw [er]
        refine ⟨_, rfl, _, _, rfl, rfl, _, rfl, iteF ⟨_, rfl, A.pc, A.dx, _, rfl, ct1.ob, nm_z5, _, rfl, A, c, n, day, rfl, ct1, _, rfl, ?_⟩⟩
        cases hc : c.closed day with
        | true =>
        refine iteT ?_
        refine ⟨_, rfl, _, rfl, A.pc, A.dx, _, rfl, ct1.ob, nm_z11, _, rfl, _, rfl, A, c, n, card, day, rfl, ct1, hn, h32, fun H2 A' q bc hq => ?_⟩
        refine ⟨q, _, _, _, rfl, rfl, SqT.of hq, atI_nat (j := 0) rfl, _, rfl, A.pc, A'.dx, _, rfl, (by rw [← bc.pc]; exact bc.ct.ob), nm_z1, _, rfl, _, rfl, A', c, n + 1, card, day, (by rw [bc.pc]; rfl), bc.ct, fun H3 s3 => ⟨(by show 3 ≤ sizeLine; decide), fun p hp => ?_⟩⟩
        refine fin H3 A' (back (bc.andSame s3)) p _ hp ?_
        rw [told_map]
        simp only [Km347.cDoes, if_neg hm, if_neg hr32, hc]
        rfl
        | false =>
        refine iteF ?_
        refine ⟨_, rfl, _, rfl, A.pc, A.dx, _, rfl, ct1.ob, nm_z11, _, rfl, _, rfl, A, c, n, card, day, rfl, ct1, hn, h32, fun H2 A' q bc hq => ?_⟩
        refine ⟨q, _, _, _, rfl, rfl, SqT.of hq, atI_nat (j := 0) rfl, _, rfl, A.pc, A'.dx, _, rfl, (by rw [← bc.pc]; exact bc.ct.ob), nm_z1, _, rfl, _, rfl, A', c, n + 1, card, day, (by rw [bc.pc]; rfl), bc.ct, fun H3 s3 => ⟨(by show 3 ≤ sizeLine; decide), fun p hp => ?_⟩⟩
        refine fin H3 A' (back (bc.andSame s3)) p _ hp ?_
        rw [told_map]
        simp only [Km347.cDoes, if_neg hm, if_neg hr32, hc]
        rfl
theorem ok_z27 {a : Ad} (T : Tx K mg a) : FnOk P w K mg base CX0 6 a.f_z27 a.d_z27 ["self", "card", "day"] (spAsk a .cHow) := by
  have G_z3 := ok_z3 (P := P) (w := w) (base := base) T
  have G_z1 := ok_z1 (P := P) (w := w) (base := base) T
  have G_z11 := ok_z11 (P := P) (w := w) (base := base) T
  have G_z42 := ok_z42 (P := P) (w := w) (base := base) T
  refine T.F_z27.ok sc_z27 (fun vs H Q E h => ?_) (fun cdv A outer s H vs Q E hr h => ?_)
  · obtain ⟨A, c, n, card, day, rfl, _⟩ := h
    rfl
  · obtain ⟨A, c, n, card, day, rfl, ct, hn, k⟩ := h
    refine ⟨_, (pss_cons (ps_set (i := 3) sc_z27.nd rfl (Or.inl rfl) (pe_meth (pv 0) T.cl_Centre T.h_z3 G_z3 (hr.mono (by decide)) T.b_z3 .nil pass0 (pa_cons (pv 1) (pa_cons (pv 2) pa_nil))))
      (pss_cons (ps_if (pt_cmpR op_lt (pv 3) pe_int (nomark _))
        (pss_one (ps_ret (pe_lst (pa_cons (pv 3) pa_nil))))
        pss_nil)
      (pss_one (ps_ret (pe_op op_cat (pe_lst (pa_cons (pe_meth (pv 0) T.cl_Centre T.h_z1 G_z1 (hr.mono (by decide)) T.b_z1 .nil pass0 (pa_cons (pv 1) (pa_cons (pv 2) pa_nil))) pa_nil)) (pe_call G_z42 (hr.mono (by decide)) rfl T.m_z42 T.F_z42.kp T.b_z42 .nil pass0 (pa_cons (pe_ix ix_tup (pe_meth (pv 0) T.cl_Centre T.h_z11 G_z11 (hr.mono (by decide)) T.b_z11 .nil pass0 (pa_cons (pv 1) (pa_cons (pv 2) pa_nil))) pe_int (fun _ _ => rfl)) pa_nil))))))), ?_⟩
    have fin : ∀ (H1 : Hp) (A' : CA), Became a H H1 A A' c (n + 1) → ∀ p xs, H1 p = none → xs = (Km347Neutral.told (Km347.cDoes c (.cHow card day)).2).map V.int → Q (.ref p) (upd H1 p (.lst xs)) := fun H1 A' bc p xs hp e => by
      refine k _ A' p (bc.andSame (Same.new hp)) (bc.free hp) (fun f => bc.ct.there f hp) ?_
      rw [upd_same, e]
    refine ⟨_, rfl, A.pc, A.dx, _, rfl, ct.ob, nm_z3, _, rfl, _, rfl, A, c, n, card, day, rfl, ct, fun H1 s1 => ?_⟩
    have ct1 := ct.same s1
    by_cases hm : Km347.MINUTES ≤ Km347.DAY * day
    · have er : rf c card day = -22 := by
        unfold rf
        rw [if_pos hm]
      rw [er]
      refine ⟨_, rfl, _, _, rfl, rfl, _, rfl, iteT ⟨_, rfl, (by show 1 ≤ sizeLine; decide), fun p hp => fin H1 A (Became.same ct s1 (Nat.le_succ _)) p _ hp ?_⟩⟩
      simp only [Km347.cDoes, if_pos hm, told_only]
    · by_cases hr32 : Km347.RIDES < (c.rides card day).length
      · have er : rf c card day = -28 := by
          unfold rf
          rw [if_neg hm, if_pos hr32]
        rw [er]
        refine ⟨_, rfl, _, _, rfl, rfl, _, rfl, iteT ⟨_, rfl, (by show 1 ≤ sizeLine; decide), fun p hp => fin H1 A (Became.same ct s1 (Nat.le_succ _)) p _ hp ?_⟩⟩
        simp only [Km347.cDoes, if_neg hm, if_pos hr32, told_only]
      · have er : rf c card day = 0 := by
          unfold rf
          rw [if_neg hm, if_neg hr32]
        have h32 : (c.rides card day).length ≤ 32 := by
          unfold Km347.RIDES at hr32
          omega
        rw [er]
        refine ⟨_, rfl, _, _, rfl, rfl, _, rfl, iteF ⟨_, rfl, A.pc, A.dx, _, rfl, ct1.ob, nm_z1, _, rfl, _, rfl, A, c, n, card, day, rfl, ct1, fun H2 s2 => ⟨(by show 1 ≤ sizeLine; decide), fun p1 hp1 => ?_⟩⟩⟩
        have s3 : Same H2 (upd H2 p1 (.lst [nv (c.rides card day).length])) := Same.new hp1
        have hl3 : (upd H2 p1 (.lst [nv (c.rides card day).length])) p1 = some (.lst [nv (c.rides card day).length]) := upd_same
        generalize upd H2 p1 (.lst [nv (c.rides card day).length]) = H3 at s3 hl3
        have s13 := s1.trans (s2.trans s3)
        have ct3 := ct.same s13
        have np1 : ¬ foot A p1 := fun f => (ct.same (s1.trans s2)).there f hp1
        have back : ∀ {H4 A' c' m}, Became a H3 H4 A A' c' m → Became a H H4 A A' c' m := fun {H4 A' c' m} b => ⟨b.ct, b.pc, fun x o e nf => b.fr _ _ (s13 _ _ e) nf, fun x f => (b.nw x f).imp id fun z => s13.free z, b.od⟩
        refine ⟨_, rfl, A.pc, A.dx, _, rfl, ct3.ob, nm_z11, _, rfl, _, rfl, A, c, n, card, day, rfl, ct3, hn, h32, fun H4 A' q bc hq => ?_⟩
        refine ⟨q, _, _, _, rfl, rfl, SqT.of hq, atI_nat (j := 1) rfl, (tgtOf c.tariff (c.rides card day)).2, rfl, fun H5 p5 s5 n5 h5 => ?_⟩
        refine ⟨p1, p5, _, _, rfl, rfl, s5 _ _ (bc.fr _ _ hl3 np1), h5, (by rw [List.length_map, List.length_map, List.length_range]; show 33 ≤ sizeLine; decide), fun p hp => ?_⟩
        refine fin H5 A' (back (bc.andSame s5)) p _ hp ?_
        rw [told_map]
        simp only [Km347.cDoes, if_neg hm, if_neg hr32]
        have e := how_list (t := c.tariff) (rs := c.rides card day) h32 ct.tf.p3
        unfold tgtOf
        dsimp only
        rw [e]
        rfl
structure Born (a : Ad) (H H' : Hp) (A' : CA) (pc pt ls lp : Addr) (pas : List Addr) (c : Km347.Centre) : Prop where
  ct : CtAt a H' A' c 0
  pc_ : A'.pc = pc
  fr : ∀ b o, H b = some o → b ≠ pc → H' b = some o
  nw : ∀ b, foot A' b → b = pc ∨ b = pt ∨ b = ls ∨ b = lp ∨ H b = none
theorem rep_one {α : Type} (k : Nat) (x : α) : (List.replicate k [x]).flatten = List.replicate k x := by
  induction k with
  | zero => rfl
  | succ k ih =>
    rw [List.replicate_succ, List.flatten_cons, ih, List.replicate_succ]
    rfl
def spCentreInit (a : Ad) : Sp := fun vs H Q _ => ∃ (pc dx pt ls lp : Addr) (pas : List Addr) (t : Km347.Tariff) (n : Nat), vs = [.ref pc, nv n, .ref pt] ∧ H pc = some (.ins a.c_Centre dx []) ∧ TfAt a.c_Tariff H pt ls lp pas t ∧ 1 ≤ n ∧ n ≤ 8 ∧
  ∀ (H' : Hp) (A' : CA), Born a H H' A' pc pt ls lp pas (Km347.centre0 t n) → Q .non H'
end
end Fb
namespace Fb
open PySem PySem.Spec PyProof.Rows L2
section
variable {P : Program} {w : World} {K : PySem.W.Frag} {mg : Str → Option Value} {base : Heap}
theorem upd_keep {H : Hp} {p b : Addr} {o u : HO} (n : b ≠ p) (e : H b = some u) : upd H p o b = some u := by
  rw [upd_ne n]
  exact e
theorem ok_z23 {a : Ad} (T : Tx K mg a) : FnOk P w K mg base CX0 1 a.f_z23 a.d_z23 ["self", "reader_count", "tariff"] (spCentreInit a) := by
  refine T.F_z23.ok sc_z23 (fun vs H Q E h => ?_) (fun cdv A outer s H vs Q E hr h => ?_)
  · obtain ⟨pc, dx, pt, ls, lp, pas, t, n, rfl, _⟩ := h
    rfl
  · obtain ⟨pc, dx, pt, ls, lp, pas, t, n, rfl, hpc, tf, n1, n8, k⟩ := h
    refine ⟨_, (pss_cons (ps_fld (pv 0) (pv 1) rfl)
      (pss_cons (ps_fld (pv 0) (pv 2) rfl)
      (pss_cons (ps_fld (pv 0) pe_dnewT rfl)
      (pss_cons (ps_fld (pv 0) (pe_op op_rep (pe_lst (pa_cons (pe_tup (pa_cons pe_int (pa_cons pe_int pa_nil))) pa_nil)) (pv 1)) rfl)
      (pss_cons (ps_fld (pv 0) (pe_op op_rep (pe_lst (pa_cons pe_int pa_nil)) (pv 1)) rfl)
      (pss_cons (ps_fld (pv 0) pe_dnewT rfl)
      (pss_one (ps_fld (pv 0) pe_dnewT rfl)))))))), ?_⟩
    obtain ⟨tdx, tob⟩ := tf.ob
    refine ⟨_, rfl, _, rfl, pc, _, dx, [], rfl, hpc, T.cl_Centre, T.na_Centre_reader_count, (by show 0 < 1000; decide), ?_⟩
    refine ⟨_, rfl, _, rfl, pc, _, dx, _, rfl, upd_same, T.cl_Centre, T.na_Centre_tariff, (by rw [putF_nil]; show 1 < 1000; decide), ?_⟩
    rw [upd_upd]
    have f2 : putF "tariff" (.ref pt) (putF "reader_count" (nv n) []) = ([("reader_count", nv n), ("tariff", .ref pt)] : List (Str × V)) := by
      rw [putF_nil, putF_ne (by decide +kernel), putF_nil]
    rw [f2]
    have fr2 : ∀ b o, H b = some o → b ≠ pc → (upd H pc (.ins a.c_Centre dx [("reader_count", nv n), ("tariff", .ref pt)])) b = some o := fun b o e nb => upd_keep nb e
    have pc2 : (upd H pc (.ins a.c_Centre dx [("reader_count", nv n), ("tariff", .ref pt)])) pc = some (.ins a.c_Centre dx [("reader_count", nv n), ("tariff", .ref pt)]) := upd_same
    generalize upd H pc (.ins a.c_Centre dx [("reader_count", nv n), ("tariff", .ref pt)]) = H2 at fr2 pc2
    intro dT hdT
    have ndT : dT ≠ pc := fun z => by rw [z, pc2] at hdT; cases hdT
    refine ⟨_, rfl, pc, _, dx, _, rfl, upd_keep ndT.symm pc2, T.cl_Centre, T.na_Centre_taps, (by show 2 < 1000; decide), ?_⟩
    have f3 : putF "taps" (.ref dT) [("reader_count", nv n), ("tariff", .ref pt)] = ([("reader_count", nv n), ("tariff", .ref pt), ("taps", .ref dT)] : List (Str × V)) := by
      rw [putF_ne (by decide +kernel), putF_ne (by decide +kernel), putF_nil]
    rw [f3]
    have s3 : ∀ b o, H2 b = some o → b ≠ pc → (upd (upd H2 dT (.dT [])) pc (.ins a.c_Centre dx [("reader_count", nv n), ("tariff", .ref pt), ("taps", .ref dT)])) b = some o := fun b o e nb => upd_keep nb (upd_keep (ne_of_none e hdT) e)
    have dT3 : (upd (upd H2 dT (.dT [])) pc (.ins a.c_Centre dx [("reader_count", nv n), ("tariff", .ref pt), ("taps", .ref dT)])) dT = some (.dT []) := upd_keep ndT upd_same
    have pc3 : (upd (upd H2 dT (.dT [])) pc (.ins a.c_Centre dx [("reader_count", nv n), ("tariff", .ref pt), ("taps", .ref dT)])) pc = some (.ins a.c_Centre dx [("reader_count", nv n), ("tariff", .ref pt), ("taps", .ref dT)]) := upd_same
    generalize upd (upd H2 dT (.dT [])) pc (.ins a.c_Centre dx [("reader_count", nv n), ("tariff", .ref pt), ("taps", .ref dT)]) = H3 at s3 dT3 pc3
    have fr3 : ∀ b o, H b = some o → b ≠ pc → H3 b = some o := fun b o e nb => s3 _ _ (fr2 b o e nb) nb
    refine ⟨(by show 2 ≤ sizeLine; decide), fun t0 ht0 => ⟨(by show 1 ≤ sizeLine; decide), fun l1 hl1 => ?_⟩⟩
    have sa : Same H3 (upd H3 t0 (.tup [.int 0, .int 0])) := Same.new ht0
    have t0a : (upd H3 t0 (.tup [.int 0, .int 0])) t0 = some (.tup [nv 0, nv 0]) := upd_same
    generalize upd H3 t0 (.tup [.int 0, .int 0]) = H3a at sa t0a hl1
    have sb : Same H3a (upd H3a l1 (.lst [.ref t0])) := Same.new hl1
    have l1b : (upd H3a l1 (.lst [.ref t0])) l1 = some (.lst [.ref t0]) := upd_same
    refine ⟨_, rfl, l1, _, _, rfl, rfl, l1b, (by show -(2 ^ 63) ≤ ((n : Nat) : Int); omega), (by show ((n : Nat) : Int) < 2 ^ 63; omega), (by rw [Int.toNat_natCast, List.length_cons, List.length_nil, Nat.zero_add, Nat.one_mul]; exact Nat.le_trans n8 (by decide)), fun dS hdS => ?_⟩
    generalize upd H3a l1 (.lst [.ref t0]) = H3b at sb l1b hdS
    rw [Int.toNat_natCast, rep_one]
    have sab := sa.trans sb
    have ndS : dS ≠ pc := fun z => by rw [z, sab _ _ pc3] at hdS; cases hdS
    refine ⟨_, rfl, pc, _, dx, _, rfl, upd_keep ndS.symm (sab _ _ pc3), T.cl_Centre, T.na_Centre_seals, (by show 3 < 1000; decide), ?_⟩
    have f4 : putF "seals" (.ref dS) [("reader_count", nv n), ("tariff", .ref pt), ("taps", .ref dT)] = ([("reader_count", nv n), ("tariff", .ref pt), ("taps", .ref dT), ("seals", .ref dS)] : List (Str × V)) := by
      rw [putF_ne (by decide +kernel), putF_ne (by decide +kernel), putF_ne (by decide +kernel), putF_nil]
    rw [f4]
    have s4 : ∀ b o, H3 b = some o → b ≠ pc → (upd (upd H3b dS (.lst (List.replicate n (.ref t0)))) pc (.ins a.c_Centre dx [("reader_count", nv n), ("tariff", .ref pt), ("taps", .ref dT), ("seals", .ref dS)])) b = some o := fun b o e nb => upd_keep nb (upd_keep (ne_of_none (sab _ _ e) hdS) (sab _ _ e))
    have dS4 : (upd (upd H3b dS (.lst (List.replicate n (.ref t0)))) pc (.ins a.c_Centre dx [("reader_count", nv n), ("tariff", .ref pt), ("taps", .ref dT), ("seals", .ref dS)])) dS = some (.lst (List.replicate n (.ref t0))) := upd_keep ndS upd_same
    have nt0 : t0 ≠ pc := fun z => by rw [z, pc3] at ht0; cases ht0
    have t04 : (upd (upd H3b dS (.lst (List.replicate n (.ref t0)))) pc (.ins a.c_Centre dx [("reader_count", nv n), ("tariff", .ref pt), ("taps", .ref dT), ("seals", .ref dS)])) t0 = some (.tup [nv 0, nv 0]) := upd_keep nt0 (upd_keep (ne_of_none (sb _ _ t0a) hdS) (sb _ _ t0a))
    have pc4 : (upd (upd H3b dS (.lst (List.replicate n (.ref t0)))) pc (.ins a.c_Centre dx [("reader_count", nv n), ("tariff", .ref pt), ("taps", .ref dT), ("seals", .ref dS)])) pc = some (.ins a.c_Centre dx [("reader_count", nv n), ("tariff", .ref pt), ("taps", .ref dT), ("seals", .ref dS)]) := upd_same
    have nS : ∀ b o, H b = some o → b ≠ pc → b ≠ dS := fun b o e nb => ne_of_none (sab _ _ (fr3 b o e nb)) hdS
    have nS0 : H dS = none := by
      cases z : H dS with
      | none => rfl
      | some o => exact absurd rfl (nS dS o z ndS)
    generalize upd (upd H3b dS (.lst (List.replicate n (.ref t0)))) pc (.ins a.c_Centre dx [("reader_count", nv n), ("tariff", .ref pt), ("taps", .ref dT), ("seals", .ref dS)]) = H4 at s4 dS4 t04 pc4
    have fr4 : ∀ b o, H b = some o → b ≠ pc → H4 b = some o := fun b o e nb => s4 _ _ (fr3 b o e nb) nb
    refine ⟨(by show 1 ≤ sizeLine; decide), fun l2 hl2 => ?_⟩
    have sc : Same H4 (upd H4 l2 (.lst [.int 0])) := Same.new hl2
    have l2c : (upd H4 l2 (.lst [.int 0])) l2 = some (.lst [nv 0]) := upd_same
    refine ⟨_, rfl, l2, _, _, rfl, rfl, l2c, (by show -(2 ^ 63) ≤ ((n : Nat) : Int); omega), (by show ((n : Nat) : Int) < 2 ^ 63; omega), (by rw [Int.toNat_natCast, List.length_cons, List.length_nil, Nat.zero_add, Nat.one_mul]; exact Nat.le_trans n8 (by decide)), fun dU hdU => ?_⟩
    generalize upd H4 l2 (.lst [.int 0]) = H4a at sc l2c hdU
    rw [Int.toNat_natCast, rep_one]
    have ndU : dU ≠ pc := fun z => by rw [z, sc _ _ pc4] at hdU; cases hdU
    refine ⟨_, rfl, pc, _, dx, _, rfl, upd_keep ndU.symm (sc _ _ pc4), T.cl_Centre, T.na_Centre_unheard, (by show 4 < 1000; decide), ?_⟩
    have f5 : putF "unheard" (.ref dU) [("reader_count", nv n), ("tariff", .ref pt), ("taps", .ref dT), ("seals", .ref dS)] = ([("reader_count", nv n), ("tariff", .ref pt), ("taps", .ref dT), ("seals", .ref dS), ("unheard", .ref dU)] : List (Str × V)) := by
      rw [putF_ne (by decide +kernel), putF_ne (by decide +kernel), putF_ne (by decide +kernel), putF_ne (by decide +kernel), putF_nil]
    rw [f5]
    have s5 : ∀ b o, H4 b = some o → b ≠ pc → (upd (upd H4a dU (.lst (List.replicate n (nv 0)))) pc (.ins a.c_Centre dx [("reader_count", nv n), ("tariff", .ref pt), ("taps", .ref dT), ("seals", .ref dS), ("unheard", .ref dU)])) b = some o := fun b o e nb => upd_keep nb (upd_keep (ne_of_none (sc _ _ e) hdU) (sc _ _ e))
    have dU5 : (upd (upd H4a dU (.lst (List.replicate n (nv 0)))) pc (.ins a.c_Centre dx [("reader_count", nv n), ("tariff", .ref pt), ("taps", .ref dT), ("seals", .ref dS), ("unheard", .ref dU)])) dU = some (.lst (List.replicate n (nv 0))) := upd_keep ndU upd_same
    have pc5 : (upd (upd H4a dU (.lst (List.replicate n (nv 0)))) pc (.ins a.c_Centre dx [("reader_count", nv n), ("tariff", .ref pt), ("taps", .ref dT), ("seals", .ref dS), ("unheard", .ref dU)])) pc = some (.ins a.c_Centre dx [("reader_count", nv n), ("tariff", .ref pt), ("taps", .ref dT), ("seals", .ref dS), ("unheard", .ref dU)]) := upd_same
    have nSU : dS ≠ dU := ne_of_none (sc _ _ dS4) hdU
    have nU : ∀ b o, H b = some o → b ≠ pc → b ≠ dU := fun b o e nb => ne_of_none (sc _ _ (fr4 b o e nb)) hdU
    have nU0 : H dU = none := by
      cases z : H dU with
      | none => rfl
      | some o => exact absurd rfl (nU dU o z ndU)
    generalize upd (upd H4a dU (.lst (List.replicate n (nv 0)))) pc (.ins a.c_Centre dx [("reader_count", nv n), ("tariff", .ref pt), ("taps", .ref dT), ("seals", .ref dS), ("unheard", .ref dU)]) = H5 at s5 dU5 pc5
    have fr5 : ∀ b o, H b = some o → b ≠ pc → H5 b = some o := fun b o e nb => s5 _ _ (fr4 b o e nb) nb
    have dT5 := s5 _ _ (s4 _ _ dT3 ndT) ndT
    have dS5 := s5 _ _ dS4 ndS
    have t05 := s5 _ _ t04 nt0
    intro dR hdR
    have ndR : dR ≠ pc := fun z => by rw [z, pc5] at hdR; cases hdR
    refine ⟨_, rfl, pc, _, dx, _, rfl, upd_keep ndR.symm pc5, T.cl_Centre, T.na_Centre_rides, (by show 5 < 1000; decide), ?_⟩
    have f6 : putF "rides" (.ref dR) [("reader_count", nv n), ("tariff", .ref pt), ("taps", .ref dT), ("seals", .ref dS), ("unheard", .ref dU)] = ([("reader_count", nv n), ("tariff", .ref pt), ("taps", .ref dT), ("seals", .ref dS), ("unheard", .ref dU), ("rides", .ref dR)] : List (Str × V)) := by
      rw [putF_ne (by decide +kernel), putF_ne (by decide +kernel), putF_ne (by decide +kernel), putF_ne (by decide +kernel), putF_ne (by decide +kernel), putF_nil]
    rw [f6]
    have nR : ∀ b o, H b = some o → b ≠ pc → b ≠ dR := fun b o e nb => ne_of_none (fr5 b o e nb) hdR
    have nR0 : H dR = none := by
      cases z : H dR with
      | none => rfl
      | some o => exact absurd rfl (nR dR o z ndR)
    have nTR : dT ≠ dR := ne_of_none dT5 hdR
    have s6 : ∀ b o, H5 b = some o → b ≠ pc → (upd (upd H5 dR (.dT [])) pc (.ins a.c_Centre dx [("reader_count", nv n), ("tariff", .ref pt), ("taps", .ref dT), ("seals", .ref dS), ("unheard", .ref dU), ("rides", .ref dR)])) b = some o := fun b o e nb => upd_keep nb (upd_keep (ne_of_none e hdR) e)
    have dR6 : (upd (upd H5 dR (.dT [])) pc (.ins a.c_Centre dx [("reader_count", nv n), ("tariff", .ref pt), ("taps", .ref dT), ("seals", .ref dS), ("unheard", .ref dU), ("rides", .ref dR)])) dR = some (.dT []) := upd_keep ndR upd_same
    have pc6 : (upd (upd H5 dR (.dT [])) pc (.ins a.c_Centre dx [("reader_count", nv n), ("tariff", .ref pt), ("taps", .ref dT), ("seals", .ref dS), ("unheard", .ref dU), ("rides", .ref dR)])) pc = some (.ins a.c_Centre dx [("reader_count", nv n), ("tariff", .ref pt), ("taps", .ref dT), ("seals", .ref dS), ("unheard", .ref dU), ("rides", .ref dR)]) := upd_same
    generalize upd (upd H5 dR (.dT [])) pc (.ins a.c_Centre dx [("reader_count", nv n), ("tariff", .ref pt), ("taps", .ref dT), ("seals", .ref dS), ("unheard", .ref dU), ("rides", .ref dR)]) = H6 at s6 dR6 pc6
    have fr6 : ∀ b o, H b = some o → b ≠ pc → H6 b = some o := fun b o e nb => s6 _ _ (fr5 b o e nb) nb
    intro dW hdW
    have ndW : dW ≠ pc := fun z => by rw [z, pc6] at hdW; cases hdW
    refine ⟨_, rfl, pc, _, dx, _, rfl, upd_keep ndW.symm pc6, T.cl_Centre, T.na_Centre_ways, (by show 6 < 1000; decide), ?_⟩
    have f7 : putF "ways" (.ref dW) [("reader_count", nv n), ("tariff", .ref pt), ("taps", .ref dT), ("seals", .ref dS), ("unheard", .ref dU), ("rides", .ref dR)] = fs_Centre (nv n) (.ref pt) (.ref dT) (.ref dS) (.ref dU) (.ref dR) (.ref dW) := by
      rw [putF_ne (by decide +kernel), putF_ne (by decide +kernel), putF_ne (by decide +kernel), putF_ne (by decide +kernel), putF_ne (by decide +kernel), putF_ne (by decide +kernel), putF_nil]
      rfl
    rw [f7]
    have nW : ∀ b o, H b = some o → b ≠ pc → b ≠ dW := fun b o e nb => ne_of_none (fr6 b o e nb) hdW
    have nW0 : H dW = none := by
      cases z : H dW with
      | none => rfl
      | some o => exact absurd rfl (nW dW o z ndW)
    have dT6 := s6 _ _ dT5 ndT
    have nTW : dT ≠ dW := ne_of_none dT6 hdW
    have nRW : dR ≠ dW := ne_of_none dR6 hdW
    have s7 : ∀ b o, H6 b = some o → b ≠ pc → (upd (upd H6 dW (.dT [])) pc (.ins a.c_Centre dx (fs_Centre (nv n) (.ref pt) (.ref dT) (.ref dS) (.ref dU) (.ref dR) (.ref dW)))) b = some o := fun b o e nb => upd_keep nb (upd_keep (ne_of_none e hdW) e)
    have dW7 : (upd (upd H6 dW (.dT [])) pc (.ins a.c_Centre dx (fs_Centre (nv n) (.ref pt) (.ref dT) (.ref dS) (.ref dU) (.ref dR) (.ref dW)))) dW = some (.dT []) := upd_keep ndW upd_same
    have pc7 : (upd (upd H6 dW (.dT [])) pc (.ins a.c_Centre dx (fs_Centre (nv n) (.ref pt) (.ref dT) (.ref dS) (.ref dU) (.ref dR) (.ref dW)))) pc = some (.ins a.c_Centre dx (fs_Centre (nv n) (.ref pt) (.ref dT) (.ref dS) (.ref dU) (.ref dR) (.ref dW))) := upd_same
    generalize upd (upd H6 dW (.dT [])) pc (.ins a.c_Centre dx (fs_Centre (nv n) (.ref pt) (.ref dT) (.ref dS) (.ref dU) (.ref dR) (.ref dW))) = H7 at s7 dW7 pc7
    have fr7 : ∀ b o, H b = some o → b ≠ pc → H7 b = some o := fun b o e nb => s7 _ _ (fr6 b o e nb) nb
    have nT0 : H dT = none := by
      cases z : H dT with
      | none => rfl
      | some o =>
        rw [fr2 dT o z ndT] at hdT
        cases hdT
    have npt : pt ≠ pc := fun z => by
      rw [z, hpc] at tob
      injection tob with e
      injection e with _ _ e
      cases e
    have nls : ls ≠ pc := ne_of tf.sg hpc (by intro z; cases z)
    have nlp : lp ≠ pc := ne_of tf.pp hpc (by intro z; cases z)
    have kn : ∀ r m, (Km347.centre0 t n).knows r m = false := fun r m => rfl
    refine k H7 { pc := pc, pt := pt, ls := ls, lp := lp, dT := dT, dS := dS, dU := dU, dR := dR, dW := dW, dx := dx, pas := pas, sas := List.replicate n t0, us := List.replicate n 0, kT := [], kR := [], kW := [] } ⟨⟨pc7, ⟨⟨tdx, fr7 _ _ tob npt⟩, fr7 _ _ tf.sg nls, fr7 _ _ tf.pp nlp, tf.ps.keep (fun q xs e => fr7 _ _ e (ne_of e hpc (by intro z; cases z))), tf.s8, tf.p3⟩,
      s7 _ _ dT6 ndT, ?_, ?_, s7 _ _ dR6 ndR, dW7, fun r m => ?_, ⟨?_, fun i x e => ?_⟩, ⟨?_, fun r u e => ?_⟩, fun card day => .inl ⟨rfl, rfl⟩, fun card day v e => ?_, fun j1 j2 l e => ?_, fun j v e => ?_, ⟨nTR, nTW, nRW, nSU, (nS _ _ tf.sg nls).symm, (nS _ _ tf.pp nlp).symm, (nU _ _ tf.sg nls).symm, (nU _ _ tf.pp nlp).symm⟩, ⟨Nat.le_refl _, Nat.le_refl _, Nat.le_refl _, Nat.le_refl _⟩, COk.start n1 n8⟩, rfl, fr7, fun b f => ?_⟩
    · show H7 dS = some (.lst ((List.replicate n t0).map V.ref))
      rw [List.map_replicate]
      exact s7 _ _ (s6 _ _ dS5 ndS) ndS
    · show H7 dU = some (.lst ((List.replicate n 0).map nv))
      rw [List.map_replicate]
      exact s7 _ _ (s6 _ _ dU5 ndU) ndU
    · rw [kn]
      rfl
    · show (List.replicate n t0).length = _
      rw [List.length_replicate, List.length_map, List.length_range]
      rfl
    · obtain ⟨j, hj, rfl⟩ := map_get e
      obtain ⟨z1, z2⟩ := List.getElem?_eq_some_iff.mp hj
      rw [List.length_range] at z1
      have z1 : i < n := z1
      rw [List.getElem_range] at z2
      refine ⟨t0, ?_, ?_⟩
      · show (List.replicate n t0)[i]? = some t0
        rw [List.getElem?_replicate, if_pos z1]
      · have e : sealV (Km347.centre0 t n) j = [nv 0, nv 0] := by
          have e2 : (Km347.centre0 t n).sealAt j = (0, 0) := by
            unfold Km347.Centre.sealAt Km347.centre0
            rw [List.getD_eq_getElem?_getD, List.getElem?_replicate]
            split <;> rfl
          unfold sealV
          rw [e2]
        rw [e]
        exact s7 _ _ (s6 _ _ t05 nt0) nt0
    · show (List.replicate n 0).length = n
      rw [List.length_replicate]
    · have e : (List.replicate n 0)[r]? = some u := e
      rw [List.getElem?_replicate] at e
      split at e
      · cases e
        exact ⟨fun m hm => by omega, kn _ _⟩
      · cases e
    · cases e
    · cases e
    · cases e
    · rcases f with z | z | z | z | z | z | z | z | z | ⟨j, z⟩
      · exact .inl z
      · exact .inr (.inl z)
      · exact .inr (.inr (.inl z))
      · exact .inr (.inr (.inr (.inl z)))
      · rw [z]
        exact .inr (.inr (.inr (.inr nT0)))
      · rw [z]
        exact .inr (.inr (.inr (.inr nS0)))
      · rw [z]
        exact .inr (.inr (.inr (.inr nU0)))
      · rw [z]
        exact .inr (.inr (.inr (.inr nR0)))
      · rw [z]
        exact .inr (.inr (.inr (.inr nW0)))
      · cases z
end
end Fb
namespace Fb
open PySem PySem.Spec PyProof.Rows L2
theorem RdAt.keep {C : Addr} {H H' : Hp} {p l : Addr} {r : Km347.Reader} (h : RdAt C H p l r) (kp : ∀ o, H p = some o → H' p = some o) (kl : ∀ o, H l = some o → H' l = some o) (kt : ∀ q xs, H q = some (.tup xs) → H' q = some (.tup xs)) : RdAt C H' p l r := by
  obtain ⟨⟨dx, ob⟩, ⟨as, h1, h2, h3⟩, ok, few⟩ := h
  refine ⟨⟨dx, kp _ ob⟩, ⟨as, kl _ h1, h2, fun i x e => ?_⟩, ok, few⟩
  obtain ⟨q, e1, e2⟩ := h3 i x e
  exact ⟨q, e1, kt _ _ e2⟩
structure LA where
  p : Addr
  lr : Addr
  dx : Addr
  rds : List (Option (Addr × Addr))
  ca : Option CA
def rv : Option (Addr × Addr) → V
  | none => .non
  | some x => .ref x.1
def cv : Option CA → V
  | none => .non
  | some A => .ref A.pc
def rfoot (L : LA) (b : Addr) : Prop := ∃ (i : Nat) (x : Addr × Addr), L.rds[i]? = some (some x) ∧ (b = x.1 ∨ b = x.2)
def lfoot (L : LA) (b : Addr) : Prop := b = L.p ∨ b = L.lr ∨ rfoot L b ∨ ∃ A, L.ca = some A ∧ foot A b
structure LineAt (a : Ad) (H : Hp) (L : LA) (rs : List (Option Km347.Reader)) (oc : Option Km347.Centre) (n : Nat) : Prop where
  ob : H L.p = some (.ins a.c_Line L.dx (fs_Line (.ref L.lr) (cv L.ca)))
  ls : H L.lr = some (.lst (L.rds.map rv))
  l4 : L.rds.length = 4
  r4 : rs.length = 4
  rd : ∀ (i : Nat) (x : Addr × Addr), L.rds[i]? = some (some x) → ∃ r, rs[i]? = some (some r) ∧ RdAt a.c_Reader H x.1 x.2 r
  rn : ∀ i : Nat, L.rds[i]? = some none → rs[i]? = some none
  ct : ∀ A, L.ca = some A → ∃ c, oc = some c ∧ CtAt a H A c n
  cn : L.ca = none → oc = none
  a1 : ∀ b, rfoot L b → b ≠ L.p ∧ b ≠ L.lr
  a2 : ∀ A, L.ca = some A → ¬ foot A L.p ∧ ¬ foot A L.lr ∧ ∀ b, rfoot L b → ¬ foot A b
  a3 : ∀ (i j : Nat) (x y : Addr × Addr), L.rds[i]? = some (some x) → L.rds[j]? = some (some y) → (x.1 = y.1 ∨ x.1 = y.2 ∨ x.2 = y.1 ∨ x.2 = y.2) → i = j
structure Next (H H' : Hp) (L L' : LA) : Prop where
  p_ : L'.p = L.p
  fr : ∀ b o, H b = some o → ¬ lfoot L b → H' b = some o
  nw : ∀ b, lfoot L' b → lfoot L b ∨ H b = none
theorem LineAt.there {a : Ad} {H : Hp} {L : LA} {rs : List (Option Km347.Reader)} {oc : Option Km347.Centre} {n : Nat} (h : LineAt a H L rs oc n) {b : Addr} (f : lfoot L b) : H b ≠ none := by
  intro e
  rcases f with z | z | ⟨i, x, z1, z2⟩ | ⟨A, z1, z2⟩
  · rw [z, h.ob] at e
    cases e
  · rw [z, h.ls] at e
    cases e
  · obtain ⟨r, _, R⟩ := h.rd i x z1
    obtain ⟨dx, o1⟩ := R.ob
    obtain ⟨as, o2, _⟩ := R.ls
    rcases z2 with z | z
    · rw [z, o1] at e
      cases e
    · rw [z, o2] at e
      cases e
  · obtain ⟨c, _, C⟩ := h.ct A z1
    exact C.there z2 e
theorem LineAt.noTup {a : Ad} {H : Hp} {L : LA} {rs : List (Option Km347.Reader)} {oc : Option Km347.Centre} {n : Nat} (h : LineAt a H L rs oc n) {b : Addr} {xs : List V} (e : H b = some (.tup xs)) : ¬ lfoot L b := by
  rintro (z | z | ⟨i, x, z1, z2⟩ | ⟨A, z1, z2⟩)
  · rw [z, h.ob] at e
    cases e
  · rw [z, h.ls] at e
    cases e
  · obtain ⟨r, _, R⟩ := h.rd i x z1
    obtain ⟨dx, o1⟩ := R.ob
    obtain ⟨as, o2, _⟩ := R.ls
    rcases z2 with z | z
    · rw [z, o1] at e
      cases e
    · rw [z, o2] at e
      cases e
  · obtain ⟨c, _, C⟩ := h.ct A z1
    exact C.noTup e z2
theorem LineAt.keep {a : Ad} {H H' : Hp} {L : LA} {rs : List (Option Km347.Reader)} {oc : Option Km347.Centre} {n m : Nat} (h : LineAt a H L rs oc n) (kf : ∀ b o, H b = some o → lfoot L b → H' b = some o) (kt : ∀ q xs, H q = some (.tup xs) → H' q = some (.tup xs)) (hm : n ≤ m) : LineAt a H' L rs oc m := by
  refine ⟨kf _ _ h.ob (.inl rfl), kf _ _ h.ls (.inr (.inl rfl)), h.l4, h.r4, fun i x e => ?_, h.rn, fun A e => ?_, h.cn, h.a1, h.a2, h.a3⟩
  · obtain ⟨r, e1, R⟩ := h.rd i x e
    exact ⟨r, e1, R.keep (fun o z => kf _ _ z (.inr (.inr (.inl ⟨i, x, e, .inl rfl⟩)))) (fun o z => kf _ _ z (.inr (.inr (.inl ⟨i, x, e, .inr rfl⟩)))) kt⟩
  · obtain ⟨c, e1, C⟩ := h.ct A e
    exact ⟨c, e1, (C.keep (fun b o z f => kf _ _ z (.inr (.inr (.inr ⟨A, e, f⟩)))) kt).more hm⟩
theorem LineAt.same {a : Ad} {H H' : Hp} {L : LA} {rs : List (Option Km347.Reader)} {oc : Option Km347.Centre} {n m : Nat} (h : LineAt a H L rs oc n) (s : Same H H') (hm : n ≤ m) : LineAt a H' L rs oc m := h.keep (fun b o e _ => s _ _ e) (fun q xs e => s _ _ e) hm
theorem Next.same {H H' : Hp} {L : LA} (s : Same H H') : Next H H' L L := ⟨rfl, fun b o e _ => s _ _ e, fun b f => .inl f⟩
theorem LineAt.reader {a : Ad} {H H' : Hp} {L : LA} {rs : List (Option Km347.Reader)} {oc : Option Km347.Centre} {n m k : Nat} {x : Addr × Addr} {r' : Km347.Reader} (h : LineAt a H L rs oc n) (e : L.rds[k]? = some (some x)) (R : RdAt a.c_Reader H' x.1 x.2 r') (fr : Fr [x.1, x.2] H H') (hm : n ≤ m) :
    LineAt a H' L (rs.set k (some r')) oc m ∧ Next H H' L L := by
  have f1 : rfoot L x.1 := ⟨k, x, e, .inl rfl⟩
  have f2 : rfoot L x.2 := ⟨k, x, e, .inr rfl⟩
  have kk : ∀ b o, H b = some o → b ≠ x.1 → b ≠ x.2 → H' b = some o := fun b o z n1 n2 => fr b o z fun y => by
    rcases List.mem_cons.mp y with w | w
    · exact n1 w
    · exact n2 (List.mem_singleton.mp w)
  have kt : ∀ q xs, H q = some (.tup xs) → H' q = some (.tup xs) := fun q xs z => kk q _ z (fun w => h.noTup z (by rw [w]; exact .inr (.inr (.inl f1)))) (fun w => h.noTup z (by rw [w]; exact .inr (.inr (.inl f2))))
  refine ⟨⟨kk _ _ h.ob (h.a1 _ f1).1.symm (h.a1 _ f2).1.symm, kk _ _ h.ls (h.a1 _ f1).2.symm (h.a1 _ f2).2.symm, h.l4, by rw [List.length_set]; exact h.r4, fun i y z => ?_, fun i z => ?_, fun A z => ?_, h.cn, h.a1, h.a2, h.a3⟩, rfl, fun b o z nf => ?_, fun b f => .inl f⟩
  · by_cases q : k = i
    · subst q
      rw [e] at z
      cases z
      have hk : k < rs.length := by
        rw [h.r4, ← h.l4]
        exact (List.getElem?_eq_some_iff.mp e).1
      exact ⟨r', List.getElem?_set_self hk, R⟩
    · obtain ⟨r, e1, R1⟩ := h.rd i y z
      refine ⟨r, by rw [List.getElem?_set_ne q]; exact e1, R1.keep (fun o w => kk _ _ w ?_ ?_) (fun o w => kk _ _ w ?_ ?_) kt⟩
      · exact fun w => q (h.a3 k i x y e z (.inl w.symm))
      · exact fun w => q (h.a3 k i x y e z (.inr (.inr (.inl w.symm))))
      · exact fun w => q (h.a3 k i x y e z (.inr (.inl w.symm)))
      · exact fun w => q (h.a3 k i x y e z (.inr (.inr (.inr w.symm))))
  · by_cases q : k = i
    · subst q
      rw [e] at z
      cases z
    · rw [List.getElem?_set_ne q]
      exact h.rn i z
  · obtain ⟨c, e1, C⟩ := h.ct A z
    obtain ⟨_, _, a2⟩ := h.a2 A z
    exact ⟨c, e1, (C.keep (fun b o w f => kk _ _ w (fun y => a2 _ f1 (by rw [← y]; exact f)) (fun y => a2 _ f2 (by rw [← y]; exact f))) kt).more hm⟩
  · exact kk b o z (fun w => nf (by rw [w]; exact .inr (.inr (.inl f1)))) (fun w => nf (by rw [w]; exact .inr (.inr (.inl f2))))
theorem LineAt.centre {a : Ad} {H H' : Hp} {L : LA} {rs : List (Option Km347.Reader)} {c c' : Km347.Centre} {n m : Nat} {A A' : CA} (h : LineAt a H L rs (some c) n) (e : L.ca = some A) (b : Became a H H' A A' c' m) : LineAt a H' { L with ca := some A' } rs (some c') m ∧ Next H H' L { L with ca := some A' } := by
  obtain ⟨n1, n2, n3⟩ := h.a2 A e
  obtain ⟨c0, _, C⟩ := h.ct A e
  have kt : ∀ q xs, H q = some (.tup xs) → H' q = some (.tup xs) := fun q xs z => b.fr _ _ z fun f => C.noTup z f
  have nin : ∀ {x : Addr}, H x ≠ none → ¬ foot A x → ¬ foot A' x := fun {x} hx hf f => by
    rcases b.nw x f with z | z
    · exact hf z
    · exact hx z
  have rth : ∀ x, rfoot L x → H x ≠ none := fun x f => h.there (.inr (.inr (.inl f)))
  refine ⟨⟨?_, b.fr _ _ h.ls n2, h.l4, h.r4, fun i x z => ?_, h.rn, fun A2 z => ?_, fun z => (by cases z), h.a1, fun A2 z => ?_, h.a3⟩, rfl, fun x o z nf => b.fr _ _ z fun f => nf (.inr (.inr (.inr ⟨A, e, f⟩))), fun x f => ?_⟩
  · have o := b.fr _ _ h.ob n1
    rw [e] at o
    show H' L.p = some (.ins a.c_Line L.dx (fs_Line (.ref L.lr) (.ref A'.pc)))
    rw [b.pc]
    exact o
  · obtain ⟨r, e1, R⟩ := h.rd i x z
    exact ⟨r, e1, R.keep (fun o w => b.fr _ _ w (n3 _ ⟨i, x, z, .inl rfl⟩)) (fun o w => b.fr _ _ w (n3 _ ⟨i, x, z, .inr rfl⟩)) kt⟩
  · cases z
    exact ⟨c', rfl, b.ct⟩
  · cases z
    exact ⟨nin (by rw [h.ob]; simp) n1, nin (by rw [h.ls]; simp) n2, fun x f => nin (rth x f) (n3 x f)⟩
  · rcases f with z | z | z | ⟨A2, z1, z2⟩
    · exact .inl (.inl z)
    · exact .inl (.inr (.inl z))
    · exact .inl (.inr (.inr (.inl z)))
    · cases z1
      rcases b.nw x z2 with y | y
      · exact .inl (.inr (.inr (.inr ⟨A, e, y⟩)))
      · exact .inr y
section
variable {P : Program} {w : World} {K : PySem.W.Frag} {mg : Str → Option Value} {base : Heap}
def spTariffInit (a : Ad) : Sp := fun vs H Q _ => ∃ (p dx ls lp : Addr), vs = [.ref p, .ref ls, .ref lp] ∧ H p = some (.ins a.c_Tariff dx []) ∧ Q .non (upd H p (.ins a.c_Tariff dx (fs_Tariff (.ref ls) (.ref lp))))
theorem ok_z18 {a : Ad} (T : Tx K mg a) : FnOk P w K mg base CX0 1 a.f_z18 a.d_z18 ["self", "single", "passes"] (spTariffInit a) := by
  refine T.F_z18.ok sc_z18 (fun vs H Q E h => ?_) (fun cdv A outer s H vs Q E hr h => ?_)
  · obtain ⟨p, dx, ls, lp, rfl, _⟩ := h
    rfl
  · obtain ⟨p, dx, ls, lp, rfl, hp, k⟩ := h
    refine ⟨_, (pss_cons (ps_fld (pv 0) (pv 1) rfl)
      (pss_one (ps_fld (pv 0) (pv 2) rfl))), ?_⟩
    refine ⟨_, rfl, _, rfl, p, _, dx, [], rfl, hp, T.cl_Tariff, T.na_Tariff_single, (by show 0 < 1000; decide), ?_⟩
    refine ⟨_, rfl, _, rfl, p, _, dx, _, rfl, upd_same, T.cl_Tariff, T.na_Tariff_passes, (by rw [putF_nil]; show 1 < 1000; decide), ?_⟩
    rw [upd_upd, ini_Tariff]
    exact k
def spRowAt (K : PySem.W.Frag) : Sp := fun vs H Q _ => ∃ (d : Addr) (l r rest : List Int) (k : Nat), vs = [.ref d, nv k] ∧ SqL K H d (l.map V.int) ∧ l.drop k = (r.length : Int) :: (r ++ rest) ∧ New H Q (r.map V.int)
theorem ok_z52 {a : Ad} (T : Tx K mg a) : FnOk P w K mg base CX0 1 a.f_z52 a.d_z52 ["numbers", "place"] (spRowAt K) := by
  refine T.F_z52.ok sc_z52 (fun vs H Q E h => ?_) (fun cdv A outer s H vs Q E hr h => ?_)
  · obtain ⟨d, l, r, rest, k, rfl, _⟩ := h
    rfl
  · obtain ⟨d, l, r, rest, k, rfl, hS, hd, q⟩ := h
    refine ⟨_, (pss_cons (ps_set (i := 2) sc_z52.nd rfl (Or.inl rfl) (pe_op op_add (pv 1) pe_int))
      (pss_one (ps_ret (pe_slice sl_list (pv 0) (po_some (pv 2)) (po_some (pe_op op_add (pv 2) (pe_ix ix_list (pv 0) (pv 1) (fun _ _ => rfl)))))))), ?_⟩
    have a0 : atI (l.map V.int) (k : Int) = some (.int (r.length : Int)) := drop_at0 (xs := r ++ rest) (rest := []) (by rw [List.append_nil]; exact hd)
    refine ⟨_, rfl, _, _, rfl, rfl, _, rfl, _, rfl, _, rfl, _, rfl, _, rfl, _, rfl, d, _, _, _, rfl, rfl, hS, a0, _, _, rfl, rfl, _, rfl, d, _, rfl, hS, fun t ht => ?_⟩
    refine q _ t (Same.new ht) ht ?_
    rw [upd_same]
    have hl : k + 1 + r.length ≤ l.length := by
      have e := congrArg List.length hd
      rw [List.length_drop, List.length_cons, List.length_append] at e
      omega
    have e := cut_mid (l.map V.int) (k + 1) r.length (by rw [List.length_map]; exact hl)
    have e2 : (l.drop (k + 1)).take r.length = r := by
      rw [← List.drop_drop, hd, List.drop_one, List.tail_cons, List.take_left]
    rw [← List.map_drop, ← List.map_take, e2] at e
    exact congrArg (fun z => some (HO.lst z)) e
def spLineInit (a : Ad) : Sp := fun vs H Q _ => ∃ (p dx : Addr), vs = [.ref p] ∧ H p = some (.ins a.c_Line dx []) ∧ ∀ (H' : Hp) (L : LA), LineAt a H' L [none, none, none, none] none 0 → L.p = p → (∀ b o, H b = some o → b ≠ p → H' b = some o) → (∀ b, lfoot L b → b = p ∨ H b = none) → Q .non H'
theorem ok_z39 {a : Ad} (T : Tx K mg a) : FnOk P w K mg base CX0 1 a.f_z39 a.d_z39 ["self"] (spLineInit a) := by
  refine T.F_z39.ok sc_z39 (fun vs H Q E h => ?_) (fun cdv A outer s H vs Q E hr h => ?_)
  · obtain ⟨p, dx, rfl, _⟩ := h
    rfl
  · obtain ⟨p, dx, rfl, hp, k⟩ := h
    refine ⟨_, (pss_cons (ps_fld (pv 0) (pe_lst (pa_cons pe_non (pa_cons pe_non (pa_cons pe_non (pa_cons pe_non pa_nil))))) rfl)
      (pss_one (ps_fld (pv 0) pe_non rfl))), ?_⟩
    refine ⟨(by show 4 ≤ sizeLine; decide), fun lr hlr => ?_⟩
    have nlp : p ≠ lr := ne_of_none hp hlr
    refine ⟨_, rfl, p, _, dx, [], rfl, upd_keep nlp hp, T.cl_Line, T.na_Line_readers, (by show 0 < 1000; decide), ?_⟩
    refine ⟨_, rfl, p, _, dx, _, rfl, upd_same, T.cl_Line, T.na_Line_centre, (by rw [putF_nil]; show 1 < 1000; decide), ?_⟩
    rw [upd_upd, ini_Line]
    have nor : ∀ b, ¬ rfoot ⟨p, lr, dx, [none, none, none, none], none⟩ b := by
      rintro b ⟨i, x, e, _⟩
      have e : ([none, none, none, none] : List (Option (Addr × Addr)))[i]? = some (some x) := e
      have := List.mem_of_getElem? e
      simp at this
    refine k _ ⟨p, lr, dx, [none, none, none, none], none⟩ ⟨upd_same, upd_keep nlp.symm upd_same, rfl, rfl, fun i x e => absurd (show rfoot ⟨p, lr, dx, [none, none, none, none], none⟩ x.1 from ⟨i, x, e, .inl rfl⟩) (nor _), fun i e => ?_, fun A e => (by cases e), fun _ => rfl, fun b f => absurd f (nor b), fun A e => (by cases e), fun i j x y e => absurd (show rfoot ⟨p, lr, dx, [none, none, none, none], none⟩ x.1 from ⟨i, x, e, .inl rfl⟩) (nor _)⟩ rfl (fun b o e nb => upd_keep nb (upd_keep (ne_of_none e hlr) e)) (fun b f => ?_)
    · have hi : i < 4 := (List.getElem?_eq_some_iff.mp e).1
      have cs : i = 0 ∨ i = 1 ∨ i = 2 ∨ i = 3 := by omega
      rcases cs with rfl | rfl | rfl | rfl <;> rfl
    · rcases f with z | z | z | ⟨A, z, _⟩
      · exact .inl z
      · rw [z]
        exact .inr hlr
      · exact absurd z (nor b)
      · cases z
def spOfReader (a : Ad) : Sp := fun vs H Q _ => ∃ (p l dc : Addr) (r : Km347.Reader) (x : Km347.Call) (ns : List Int), vs = [.ref p, .ref dc] ∧ RdAt a.c_Reader H p l r ∧ H dc = some (.lst (ns.map V.int)) ∧
  ((∃ (k : Int) (c m z : Nat), ns = [1, k, (c : Int), (m : Int), (z : Int)] ∧ x = .rTap c m z) ∨ (∃ (k : Int) (m : Nat), ns = [2, k, (m : Int)] ∧ x = .rSeal m) ∨ ∃ (k : Int) (n : Nat), ns = [3, k, (n : Int)] ∧ x = .rAgain n) ∧
  ∀ (H' : Hp) (q : Addr), RdAt a.c_Reader H' p l (Km347.rDoes r x).1 → Fr [p, l] H H' → H q = none → H' q = some (.lst ((Km347Neutral.told (Km347.rDoes r x).2).map V.int)) → Q (.ref q) H'
theorem ok_z7 {a : Ad} (T : Tx K mg a) : FnOk P w K mg base CX0 6 a.f_z7 a.d_z7 ["reader", "call"] (spOfReader a) := by
  have G_z16 := ok_z16 (P := P) (w := w) (base := base) T
  have G_z22 := ok_z22 (P := P) (w := w) (base := base) T
  have G_z26 := ok_z26 (P := P) (w := w) (base := base) T
  refine T.F_z7.ok sc_z7 (fun vs H Q E h => ?_) (fun cdv A outer s H vs Q E hr h => ?_)
  · obtain ⟨p, l, dc, r, x, ns, rfl, _⟩ := h
    rfl
  · obtain ⟨p, l, dc, r, x, ns, rfl, R, hdc, alt, k⟩ := h
    refine ⟨_, (pss_cons (ps_if (pt_cmpR op_eq (pe_ix ix_list (pv 1) pe_int (fun _ _ => rfl)) (pe_gint rfl T.g_NR_TAP) (nomark _))
        (pss_one (ps_ret (pe_meth (pv 0) T.cl_Reader T.h_z26 G_z26 (hr.mono (by decide)) T.b_z26 .nil pass0 (pa_cons (pe_ix ix_list (pv 1) pe_int (fun _ _ => rfl)) (pa_cons (pe_ix ix_list (pv 1) pe_int (fun _ _ => rfl)) (pa_cons (pe_ix ix_list (pv 1) pe_int (fun _ _ => rfl)) pa_nil))))))
        pss_nil)
      (pss_cons (ps_if (pt_cmpR op_eq (pe_ix ix_list (pv 1) pe_int (fun _ _ => rfl)) (pe_gint rfl T.g_NR_SEAL) (nomark _))
        (pss_one (ps_ret (pe_meth (pv 0) T.cl_Reader T.h_z22 G_z22 (hr.mono (by decide)) T.b_z22 .nil pass0 (pa_cons (pe_ix ix_list (pv 1) pe_int (fun _ _ => rfl)) pa_nil))))
        pss_nil)
      (pss_one (ps_ret (pe_meth (pv 0) T.cl_Reader T.h_z16 G_z16 (hr.mono (by decide)) T.b_z16 .nil pass0 (pa_cons (pe_ix ix_list (pv 1) pe_int (fun _ _ => rfl)) pa_nil)))))), ?_⟩
    obtain ⟨dx, ob⟩ := R.ob
    rcases alt with ⟨kk, c, m, z, rfl, rfl⟩ | ⟨kk, m, rfl, rfl⟩ | ⟨kk, n, rfl, rfl⟩
    · refine ⟨_, rfl, dc, _, _, _, rfl, rfl, SqL.of hdc, atI_nat (j := 0) rfl, rfl, _, rfl, iteD (fun _ => ?_) fun z => absurd rfl (eqI_f z)⟩
      exact ⟨_, rfl, p, dx, _, rfl, ob, nm_z26, _, rfl, dc, _, _, _, rfl, rfl, SqL.of hdc, atI_nat (j := 2) rfl, _, rfl, dc, _, _, _, rfl, rfl, SqL.of hdc, atI_nat (j := 3) rfl, _, rfl, dc, _, _, _, rfl, rfl, SqL.of hdc, atI_nat (j := 4) rfl, p, l, r, c, m, z, rfl, R, k⟩
    · refine ⟨_, rfl, dc, _, _, _, rfl, rfl, SqL.of hdc, atI_nat (j := 0) rfl, rfl, _, rfl, iteD (fun z => absurd (eqI_t z) (by decide)) fun _ => ⟨_, rfl, dc, _, _, _, rfl, rfl, SqL.of hdc, atI_nat (j := 0) rfl, rfl, _, rfl, iteD (fun _ => ?_) fun z => absurd rfl (eqI_f z)⟩⟩
      exact ⟨_, rfl, p, dx, _, rfl, ob, nm_z22, _, rfl, dc, _, _, _, rfl, rfl, SqL.of hdc, atI_nat (j := 2) rfl, p, l, r, m, rfl, R, k⟩
    · refine ⟨_, rfl, dc, _, _, _, rfl, rfl, SqL.of hdc, atI_nat (j := 0) rfl, rfl, _, rfl, iteD (fun z => absurd (eqI_t z) (by decide)) fun _ => ⟨_, rfl, dc, _, _, _, rfl, rfl, SqL.of hdc, atI_nat (j := 0) rfl, rfl, _, rfl, iteD (fun z => absurd (eqI_t z) (by decide)) fun _ => ?_⟩⟩
      refine ⟨_, rfl, p, dx, _, rfl, ob, nm_z16, _, rfl, dc, _, _, _, rfl, rfl, SqL.of hdc, atI_nat (j := 2) rfl, p, l, r, n, rfl, R, fun H' q s n' h' => ?_⟩
      exact k H' q (R.same s) (Fr.of_same s) n' h'
def spOfCentre (a : Ad) : Sp := fun vs H Q _ => ∃ (A : CA) (c : Km347.Centre) (n : Nat) (dc : Addr) (x : Km347.Call) (ns : List Int), vs = [.ref A.pc, .ref dc] ∧ CtAt a H A c n ∧ n ≤ 100000 ∧ H dc = some (.lst (ns.map V.int)) ∧
  ((∃ l : List Nat, ns = 5 :: (l.length : Int) :: (l.map fun (n : Nat) => (n : Int)) ∧ l.length = 20 ∧ (∀ y ∈ l, y < 256) ∧ x = .cHeard l) ∨ (∃ r : Nat, ns = [6, (r : Int)] ∧ x = .cLacks r) ∨ (∃ cd d : Nat, ns = [7, (cd : Int), (d : Int)] ∧ x = .cBill cd d) ∨ ∃ cd d : Nat, ns = [8, (cd : Int), (d : Int)] ∧ x = .cHow cd d) ∧
  ∀ (H' : Hp) (A' : CA) (q : Addr), Became a H H' A A' (Km347.cDoes c x).1 (n + 1) → H q = none → ¬ foot A' q → H' q = some (.lst ((Km347Neutral.told (Km347.cDoes c x).2).map V.int)) → Q (.ref q) H'
theorem ok_z8 {a : Ad} (T : Tx K mg a) : FnOk P w K mg base CX0 7 a.f_z8 a.d_z8 ["centre", "call"] (spOfCentre a) := by
  have G_z20 := ok_z20 (P := P) (w := w) (base := base) T
  have G_z12 := ok_z12 (P := P) (w := w) (base := base) T
  have G_z27 := ok_z27 (P := P) (w := w) (base := base) T
  have G_z13 := ok_z13 (P := P) (w := w) (base := base) T
  have G_z52 := ok_z52 (P := P) (w := w) (base := base) T
  refine T.F_z8.ok sc_z8 (fun vs H Q E h => ?_) (fun cdv A outer s H vs Q E hr h => ?_)
  · obtain ⟨A, c, n, dc, x, ns, rfl, _⟩ := h
    rfl
  · obtain ⟨A, c, n, dc, x, ns, rfl, ct, hn, hdc, alt, k⟩ := h
    refine ⟨_, (pss_cons (ps_if (pt_cmpR op_eq (pe_ix ix_list (pv 1) pe_int (fun _ _ => rfl)) (pe_gint rfl T.g_NC_HEARD) (nomark _))
        (pss_one (ps_ret (pe_meth (pv 0) T.cl_Centre T.h_z12 G_z12 (hr.mono (by decide)) T.b_z12 .nil pass0 (pa_cons (pe_call G_z52 (hr.mono (by decide)) rfl T.m_z52 T.F_z52.kp T.b_z52 .nil pass0 (pa_cons (pv 1) (pa_cons pe_int pa_nil))) pa_nil))))
        pss_nil)
      (pss_cons (ps_if (pt_cmpR op_eq (pe_ix ix_list (pv 1) pe_int (fun _ _ => rfl)) (pe_gint rfl T.g_NC_LACKS) (nomark _))
        (pss_one (ps_ret (pe_meth (pv 0) T.cl_Centre T.h_z13 G_z13 (hr.mono (by decide)) T.b_z13 .nil pass0 (pa_cons (pe_ix ix_list (pv 1) pe_int (fun _ _ => rfl)) pa_nil))))
        pss_nil)
      (pss_cons (ps_if (pt_cmpR op_eq (pe_ix ix_list (pv 1) pe_int (fun _ _ => rfl)) (pe_gint rfl T.g_NC_BILL) (nomark _))
        (pss_one (ps_ret (pe_meth (pv 0) T.cl_Centre T.h_z20 G_z20 (hr.mono (by decide)) T.b_z20 .nil pass0 (pa_cons (pe_ix ix_list (pv 1) pe_int (fun _ _ => rfl)) (pa_cons (pe_ix ix_list (pv 1) pe_int (fun _ _ => rfl)) pa_nil)))))
        pss_nil)
      (pss_one (ps_ret (pe_meth (pv 0) T.cl_Centre T.h_z27 G_z27 (hr.mono (by decide)) T.b_z27 .nil pass0 (pa_cons (pe_ix ix_list (pv 1) pe_int (fun _ _ => rfl)) (pa_cons (pe_ix ix_list (pv 1) pe_int (fun _ _ => rfl)) pa_nil)))))))), ?_⟩
    rcases alt with ⟨l, rfl, h20, hby, rfl⟩ | ⟨r, rfl, rfl⟩ | ⟨cd, d, rfl, rfl⟩ | ⟨cd, d, rfl, rfl⟩
    · refine ⟨_, rfl, dc, _, _, _, rfl, rfl, SqL.of hdc, atI_nat (j := 0) rfl, rfl, _, rfl, iteD (fun _ => ?_) fun z => absurd rfl (eqI_f z)⟩
      refine ⟨_, rfl, A.pc, A.dx, _, rfl, ct.ob, nm_z12, _, rfl, dc, _, l.map (fun (n : Nat) => (n : Int)), [], 1, rfl, SqL.of hdc, ?_, fun H1 d s1 n1 h1 => ?_⟩
      · show (l.length : Int) :: (l.map fun (n : Nat) => (n : Int)) = _
        rw [List.length_map, List.append_nil]
      · have hd1 : H1 d = some (.lst (l.map nv)) := by
          rw [h1, ← nv_ints]
        refine ⟨A, c, n, d, l, rfl, ct.same s1, hn, hd1, h20, hby, fun f => ct.there f n1, fun H' A' q b hq nf hq2 => ?_⟩
        exact k H' A' q ⟨b.ct, b.pc, fun y o e nf => b.fr _ _ (s1 _ _ e) nf, fun y f => (b.nw y f).imp id fun z => s1.free z, b.od⟩ (s1.free hq) nf hq2
    · refine ⟨_, rfl, dc, _, _, _, rfl, rfl, SqL.of hdc, atI_nat (j := 0) rfl, rfl, _, rfl, iteD (fun z => absurd (eqI_t z) (by decide)) fun _ => ⟨_, rfl, dc, _, _, _, rfl, rfl, SqL.of hdc, atI_nat (j := 0) rfl, rfl, _, rfl, iteD (fun _ => ?_) fun z => absurd rfl (eqI_f z)⟩⟩
      refine ⟨_, rfl, A.pc, A.dx, _, rfl, ct.ob, nm_z13, _, rfl, dc, _, _, _, rfl, rfl, SqL.of hdc, atI_nat (j := 1) rfl, A, c, n, r, rfl, ct, fun H' q s nq hq => ?_⟩
      exact k H' A q (Became.same ct s (Nat.le_succ _)) nq (fun f => ct.there f nq) hq
    · refine ⟨_, rfl, dc, _, _, _, rfl, rfl, SqL.of hdc, atI_nat (j := 0) rfl, rfl, _, rfl, iteD (fun z => absurd (eqI_t z) (by decide)) fun _ => ⟨_, rfl, dc, _, _, _, rfl, rfl, SqL.of hdc, atI_nat (j := 0) rfl, rfl, _, rfl, iteD (fun z => absurd (eqI_t z) (by decide)) fun _ => ⟨_, rfl, dc, _, _, _, rfl, rfl, SqL.of hdc, atI_nat (j := 0) rfl, rfl, _, rfl, iteD (fun _ => ?_) fun z => absurd rfl (eqI_f z)⟩⟩⟩
      exact ⟨_, rfl, A.pc, A.dx, _, rfl, ct.ob, nm_z20, _, rfl, dc, _, _, _, rfl, rfl, SqL.of hdc, atI_nat (j := 1) rfl, _, rfl, dc, _, _, _, rfl, rfl, SqL.of hdc, atI_nat (j := 2) rfl, A, c, n, cd, d, rfl, ct, hn, fun H' A' q b nq nf hq => k H' A' q b nq nf hq⟩
    · refine ⟨_, rfl, dc, _, _, _, rfl, rfl, SqL.of hdc, atI_nat (j := 0) rfl, rfl, _, rfl, iteD (fun z => absurd (eqI_t z) (by decide)) fun _ => ⟨_, rfl, dc, _, _, _, rfl, rfl, SqL.of hdc, atI_nat (j := 0) rfl, rfl, _, rfl, iteD (fun z => absurd (eqI_t z) (by decide)) fun _ => ⟨_, rfl, dc, _, _, _, rfl, rfl, SqL.of hdc, atI_nat (j := 0) rfl, rfl, _, rfl, iteD (fun z => absurd (eqI_t z) (by decide)) fun _ => ?_⟩⟩⟩
      exact ⟨_, rfl, A.pc, A.dx, _, rfl, ct.ob, nm_z27, _, rfl, dc, _, _, _, rfl, rfl, SqL.of hdc, atI_nat (j := 1) rfl, _, rfl, dc, _, _, _, rfl, rfl, SqL.of hdc, atI_nat (j := 2) rfl, A, c, n, cd, d, rfl, ct, hn, fun H' A' q b nq nf hq => k H' A' q b nq nf hq⟩
end
end Fb
namespace Fb
open PySem PySem.Spec PyProof.Rows L2
theorem LineAt.startR {a : Ad} {H H' : Hp} {L : LA} {rs : List (Option Km347.Reader)} {oc : Option Km347.Centre} {n m k : Nat} {x : Addr × Addr} {r : Km347.Reader} (h : LineAt a H L rs oc n) (hk : k < 4) (hm : n ≤ m) (n1 : H x.1 = none) (n2 : H x.2 = none)
    (R : RdAt a.c_Reader H' x.1 x.2 r) (fr : ∀ b o, H b = some o → b ≠ L.lr → H' b = some o) (hl : H' L.lr = some (.lst ((L.rds.map rv).set k (.ref x.1)))) :
    LineAt a H' { L with rds := L.rds.set k (some x) } (rs.set k (some r)) oc m ∧ Next H H' L { L with rds := L.rds.set k (some x) } := by
  have nlp : L.p ≠ L.lr := ne_of h.ob h.ls (by intro q; cases q)
  have kt : ∀ q xs, H q = some (.tup xs) → H' q = some (.tup xs) := fun q xs z => fr q _ z fun w => h.noTup z (.inr (.inl w))
  have hk2 : k < L.rds.length := by rw [h.l4]; exact hk
  have hk3 : k < rs.length := by rw [h.r4]; exact hk
  have old : ∀ b, rfoot { L with rds := L.rds.set k (some x) } b → rfoot L b ∨ b = x.1 ∨ b = x.2 := by
    rintro b ⟨i, y, e, hb⟩
    have e : (L.rds.set k (some x))[i]? = some (some y) := e
    by_cases q : k = i
    · subst q
      rw [List.getElem?_set_self hk2] at e
      cases e
      exact .inr hb
    · rw [List.getElem?_set_ne q] at e
      exact .inl ⟨i, y, e, hb⟩
  have gone : ∀ {b}, lfoot L b → b ≠ x.1 ∧ b ≠ x.2 := fun {b} f => ⟨fun z => h.there f (by rw [z]; exact n1), fun z => h.there f (by rw [z]; exact n2)⟩
  refine ⟨⟨fr _ _ h.ob nlp, ?_, by rw [List.length_set]; exact h.l4, by rw [List.length_set]; exact h.r4, fun i y z => ?_, fun i z => ?_, fun A z => ?_, h.cn, fun b f => ?_, fun A z => ?_, fun i j y1 y2 e1 e2 cs => ?_⟩, rfl, fun b o z nf => fr b o z fun w => nf (.inr (.inl w)), fun b f => ?_⟩
  · show H' L.lr = some (.lst ((L.rds.set k (some x)).map rv))
    rw [List.map_set]
    exact hl
  · have z : (L.rds.set k (some x))[i]? = some (some y) := z
    by_cases q : k = i
    · subst q
      rw [List.getElem?_set_self hk2] at z
      cases z
      exact ⟨r, List.getElem?_set_self hk3, R⟩
    · rw [List.getElem?_set_ne q] at z
      obtain ⟨r1, e1, R1⟩ := h.rd i y z
      exact ⟨r1, by rw [List.getElem?_set_ne q]; exact e1, R1.keep (fun o w => fr _ _ w (h.a1 _ ⟨i, y, z, .inl rfl⟩).2) (fun o w => fr _ _ w (h.a1 _ ⟨i, y, z, .inr rfl⟩).2) kt⟩
  · have z : (L.rds.set k (some x))[i]? = some none := z
    by_cases q : k = i
    · subst q
      rw [List.getElem?_set_self hk2] at z
      cases z
    · rw [List.getElem?_set_ne q] at z
      rw [List.getElem?_set_ne q]
      exact h.rn i z
  · obtain ⟨c, e1, C⟩ := h.ct A z
    exact ⟨c, e1, (C.keep (fun b o w f => fr _ _ w (fun y => (h.a2 A z).2.1 (by rw [← y]; exact f))) kt).more hm⟩
  · rcases old b f with z | z
    · exact h.a1 b z
    · have gp := gone (b := L.p) (.inl rfl)
      have gl := gone (b := L.lr) (.inr (.inl rfl))
      rcases z with z | z
      · rw [z]
        exact ⟨gp.1.symm, gl.1.symm⟩
      · rw [z]
        exact ⟨gp.2.symm, gl.2.symm⟩
  · obtain ⟨w1, w2, w3⟩ := h.a2 A z
    refine ⟨w1, w2, fun b f => ?_⟩
    rcases old b f with y | y
    · exact w3 b y
    · intro ff
      have := gone (b := b) (.inr (.inr (.inr ⟨A, z, ff⟩)))
      rcases y with y | y
      · exact this.1 y
      · exact this.2 y
  · have e1 : (L.rds.set k (some x))[i]? = some (some y1) := e1
    have e2 : (L.rds.set k (some x))[j]? = some (some y2) := e2
    by_cases q1 : k = i
    · by_cases q2 : k = j
      · exact q1.symm.trans q2
      · subst q1
        rw [List.getElem?_set_self hk2] at e1
        rw [List.getElem?_set_ne q2] at e2
        cases e1
        have g1 := gone (b := y2.1) (.inr (.inr (.inl ⟨j, y2, e2, .inl rfl⟩)))
        have g2 := gone (b := y2.2) (.inr (.inr (.inl ⟨j, y2, e2, .inr rfl⟩)))
        rcases cs with c | c | c | c
        · exact absurd c.symm g1.1
        · exact absurd c.symm g2.1
        · exact absurd c.symm g1.2
        · exact absurd c.symm g2.2
    · rw [List.getElem?_set_ne q1] at e1
      by_cases q2 : k = j
      · subst q2
        rw [List.getElem?_set_self hk2] at e2
        cases e2
        have g1 := gone (b := y1.1) (.inr (.inr (.inl ⟨i, y1, e1, .inl rfl⟩)))
        have g2 := gone (b := y1.2) (.inr (.inr (.inl ⟨i, y1, e1, .inr rfl⟩)))
        rcases cs with c | c | c | c
        · exact absurd c g1.1
        · exact absurd c g1.2
        · exact absurd c g2.1
        · exact absurd c g2.2
      · rw [List.getElem?_set_ne q2] at e2
        exact h.a3 i j y1 y2 e1 e2 cs
  · rcases f with z | z | z | z
    · exact .inl (.inl z)
    · exact .inl (.inr (.inl z))
    · rcases old b z with y | y | y
      · exact .inl (.inr (.inr (.inl y)))
      · rw [y]
        exact .inr n1
      · rw [y]
        exact .inr n2
    · exact .inl (.inr (.inr (.inr z)))
theorem LineAt.startC {a : Ad} {H H' : Hp} {L : LA} {rs : List (Option Km347.Reader)} {oc : Option Km347.Centre} {n m : Nat} {A : CA} {c : Km347.Centre} (h : LineAt a H L rs oc n) (C : CtAt a H' A c m)
    (fr : ∀ b o, H b = some o → b ≠ L.p → H' b = some o) (hp : H' L.p = some (.ins a.c_Line L.dx (fs_Line (.ref L.lr) (.ref A.pc)))) (nw : ∀ b, foot A b → ¬ lfoot L b) :
    LineAt a H' { L with ca := some A } rs (some c) m := by
  have nlp : L.p ≠ L.lr := ne_of h.ob h.ls (by intro q; cases q)
  have kt : ∀ q xs, H q = some (.tup xs) → H' q = some (.tup xs) := fun q xs z => fr q _ z fun w => h.noTup z (.inl w)
  refine ⟨hp, fr _ _ h.ls nlp.symm, h.l4, h.r4, fun i y z => ?_, h.rn, fun A2 z => ?_, fun z => (by cases z), h.a1, fun A2 z => ?_, h.a3⟩
  · obtain ⟨r1, e1, R1⟩ := h.rd i y z
    exact ⟨r1, e1, R1.keep (fun o w => fr _ _ w (h.a1 _ ⟨i, y, z, .inl rfl⟩).1) (fun o w => fr _ _ w (h.a1 _ ⟨i, y, z, .inr rfl⟩).1) kt⟩
  · cases z
    exact ⟨c, rfl, C⟩
  · cases z
    exact ⟨fun f => nw _ f (.inl rfl), fun f => nw _ f (.inr (.inl rfl)), fun b f g => nw _ g (.inr (.inr (.inl f)))⟩
theorem LineAt.gives {a : Ad} {H H' : Hp} {L L' : LA} {rs : List (Option Km347.Reader)} {oc : Option Km347.Centre} {m : Nat} {q : Addr} {o : HO} (h : LineAt a H' L' rs oc m) (nx : Next H H' L L') (back : ∀ b, H' b = none → H b = none) (hq : H' q = none) :
    LineAt a (upd H' q o) L' rs oc m ∧ Next H (upd H' q o) L L' ∧ H q = none ∧ ¬ lfoot L' q :=
  ⟨h.same (Same.new hq) (Nat.le_refl _), ⟨nx.p_, fun b u e nf => Same.new hq _ _ (nx.fr b u e nf), nx.nw⟩, back q hq, fun f => h.there f hq⟩
section
variable {P : Program} {w : World} {K : PySem.W.Frag} {mg : Str → Option Value} {base : Heap}
def spStartR (a : Ad) : Sp := fun vs H Q _ => ∃ (L : LA) (rs : List (Option Km347.Reader)) (oc : Option Km347.Centre) (n k me : Nat), vs = [.ref L.p, nv k, nv me] ∧ LineAt a H L rs oc n ∧ k < 4 ∧
  (8 ≤ me → ∀ (H' : Hp) (q : Addr), Same H H' → H q = none → H' q = some (.lst [.int (-22)]) → Q (.ref q) H') ∧
  (¬ 8 ≤ me → ∀ (H' : Hp) (L' : LA) (q : Addr), LineAt a H' L' (rs.set k (some (Km347.reader0 me))) oc n → Next H H' L L' → H q = none → ¬ lfoot L' q → H' q = some (.lst [.int 0]) → Q (.ref q) H')
theorem ok_z0 {a : Ad} (T : Tx K mg a) : FnOk P w K mg base CX0 3 a.f_z0 a.d_z0 ["self", "which", "me"] (spStartR a) := by
  have G_z24 := ok_z24 (P := P) (w := w) (base := base) T
  refine T.F_z0.ok sc_z0 (fun vs H Q E h => ?_) (fun cdv A outer s H vs Q E hr h => ?_)
  · obtain ⟨L, rs, oc, n, k, me, rfl, _⟩ := h
    rfl
  · obtain ⟨L, rs, oc, n, k, me, rfl, la, hk, q1, q2⟩ := h
    refine ⟨_, (pss_cons (ps_if (pt_cmpR op_ge (pv 2) (pe_gint rfl T.g_MOST_READERS) (nomark _))
        (pss_one (ps_ret (pe_lst (pa_cons (pe_gint rfl T.g_WRONG_VALUE) pa_nil))))
        pss_nil)
      (pss_cons (ps_asg (pe_make T.k_Reader G_z24 (hr.mono (by decide)) rfl T.m_Reader T.b_z24 .nil pass0 (pa_cons (pv 2) pa_nil)) (pg_sub (pe_fld (pv 0) rfl) (pv 1) set_list))
      (pss_one (ps_ret (pe_lst (pa_cons pe_int pa_nil)))))), ?_⟩
    refine ⟨_, rfl, _, _, rfl, rfl, _, rfl, iteD (fun c => ?_) (fun c => ?_)⟩
    · have c := of_decide_eq_true c
      refine ⟨(by show 1 ≤ sizeLine; decide), fun p hp => q1 (by omega) _ p (Same.new hp) hp upd_same⟩
    · have c := of_decide_eq_false c
      refine ⟨_, rfl, fun x dx nx ndx nex => ⟨x, dx, me, rfl, upd_same, fun H1 l hl R fr => ⟨rfl, ?_⟩⟩⟩
      have lx : l ≠ x := fun z => by
        rw [z, upd_same] at hl
        cases hl
      have ldx : l ≠ dx := fun z => by
        rw [z, upd_ne nex, upd_same] at hl
        cases hl
      have nl : H l = none := by
        rw [upd_ne lx, upd_ne ldx] at hl
        exact hl
      have s1 : Same H H1 := fun b o e => fr _ _ (upd_keep (ne_of_none e nx) (upd_keep (ne_of_none e ndx) e)) fun z => ne_of_none e nx (List.mem_singleton.mp z)
      obtain ⟨dx2, Ro⟩ := R.ob
      obtain ⟨as, Rl, _⟩ := id R.ls
      refine ⟨_, rfl, L.p, _, L.dx, _, _, rfl, s1 _ _ la.ob, T.cl_Line, T.na_Line_readers, lk_Line_readers, _, rfl, L.lr, _, _, k, rfl, rfl, s1 _ _ la.ls, ixN_nat (by rw [List.length_map, la.l4]; exact hk), ?_⟩
      have xlr : x ≠ L.lr := fun z => by
        rw [z, la.ls] at nx
        cases nx
      have llr : l ≠ L.lr := fun z => by
        rw [z, la.ls] at nl
        cases nl
      have st := la.startR (H' := upd H1 L.lr (.lst ((L.rds.map rv).set k (.ref x)))) (x := (x, l)) (r := Km347.reader0 me) hk (Nat.le_refl _) nx nl (R.keep (fun o e => upd_keep xlr e) (fun o e => upd_keep llr e) (fun q xs e => upd_keep (ne_of e (s1 _ _ la.ls) (by intro z; cases z)) e)) (fun b o e nb => upd_keep nb (s1 _ _ e)) upd_same
      refine ⟨(by show 1 ≤ sizeLine; decide), fun p hp => ?_⟩
      obtain ⟨g1, g2, g3, g4⟩ := st.1.gives (o := .lst [.int 0]) st.2 (fun b e => by
        by_cases z : b = L.lr
        · rw [z, upd_same] at e
          cases e
        · rw [upd_ne z] at e
          exact s1.free e) hp
      exact q2 (by omega) _ _ p g1 g2 g3 g4 upd_same
def spStartC (a : Ad) : Sp := fun vs H Q _ => ∃ (L : LA) (rs : List (Option Km347.Reader)) (oc : Option Km347.Centre) (m n : Nat) (ls lp : Addr) (ss : List Nat) (as : List Addr) (ps : List Km347.Pass), vs = [.ref L.p, nv n, .ref ls, .ref lp] ∧ LineAt a H L rs oc m ∧
  H ls = some (.lst (ss.map nv)) ∧ H lp = some (.lst (as.map V.ref)) ∧ TupsAt H as (ps.map passV) ∧ ss.length = 8 ∧ ¬ lfoot L ls ∧ ¬ lfoot L lp ∧
  (badStart ⟨ss, ps⟩ ps.length n → ∀ (H' : Hp) (q : Addr), Same H H' → H q = none → H' q = some (.lst [.int (-22)]) → Q (.ref q) H') ∧
  (¬ badStart ⟨ss, ps⟩ ps.length n → ∀ (H' : Hp) (L' : LA) (q : Addr), LineAt a H' L' rs (some (Km347.centre0 ⟨ss, ps⟩ n)) m → L'.p = L.p → (∀ b o, H b = some o → ¬ lfoot L b → H' b = some o) → (∀ b, lfoot L' b → lfoot L b ∨ b = ls ∨ b = lp ∨ H b = none) →
    H q = none → ¬ lfoot L' q → H' q = some (.lst [.int 0]) → Q (.ref q) H')
theorem good_iff {ss : List Nat} {ps : List Km347.Pass} (h8 : ss.length = 8) : (Km347.Tariff.good ⟨ss, ps⟩ = true) ↔ (ps.length ≤ 3 ∧ (∀ x ∈ ss, x < 2 ^ 24) ∧ ∀ x ∈ ps, Km347.okPass x = true) := by
  unfold Km347.Tariff.good
  rw [Bool.and_eq_true, Bool.and_eq_true, Bool.and_eq_true, beq_iff_eq, decide_eq_true_eq, List.all_eq_true, List.all_eq_true]
  constructor
  · rintro ⟨_, h1, h2, h3⟩
    exact ⟨h2, fun x hx => of_decide_eq_true (h1 x hx), h3⟩
  · rintro ⟨h2, h1, h3⟩
    exact ⟨h8, fun x hx => decide_eq_true (h1 x hx), h2, h3⟩
theorem ok_z4 {a : Ad} (T : Tx K mg a) : FnOk P w K mg base CX0 4 a.f_z4 a.d_z4 ["self", "reader_count", "single", "passes"] (spStartC a) := by
  have G_z23 := ok_z23 (P := P) (w := w) (base := base) T
  have G_z18 := ok_z18 (P := P) (w := w) (base := base) T
  have G_z35 := ok_z35 (P := P) (w := w) (base := base) T
  refine T.F_z4.ok sc_z4 (fun vs H Q E h => ?_) (fun cdv A outer s H vs Q E hr h => ?_)
  · obtain ⟨L, rs, oc, m, n, ls, lp, ss, as, ps, rfl, _⟩ := h
    rfl
  · obtain ⟨L, rs, oc, m, n, ls, lp, ss, as, ps, rfl, la, hls, hlp, ta, h8, nls, nlp, q1, q2⟩ := h
    refine ⟨_, (pss_cons (ps_if (PW.pt (pw_or (pt_not (pt_chain op_le op_le pe_int (pv 1) (pe_gint rfl T.g_MOST_READERS))) (pw_or1 (pt_not (pt_val (pe_call G_z35 (hr.mono (by decide)) rfl T.m_z35 T.F_z35.kp T.b_z35 .nil pass0 (pa_cons (pv 2) (pa_cons (pv 3) pa_nil))))))))
        (pss_one (ps_ret (pe_lst (pa_cons (pe_gint rfl T.g_WRONG_VALUE) pa_nil))))
        pss_nil)
      (pss_cons (ps_fld (pv 0) (pe_make T.k_Centre G_z23 (hr.mono (by decide)) rfl T.m_Centre T.b_z23 .nil pass0 (pa_cons (pv 1) (pa_cons (pe_make T.k_Tariff G_z18 (hr.mono (by decide)) rfl T.m_Tariff T.b_z18 .nil pass0 (pa_cons (pv 2) (pa_cons (pv 3) pa_nil))) pa_nil))) rfl)
      (pss_one (ps_ret (pe_lst (pa_cons pe_int pa_nil)))))), ?_⟩
    have eR : Km347.READERS = 8 := rfl
    have bad : badStart ⟨ss, ps⟩ ps.length n → 1 ≤ sizeLine ∧ ∀ p, H p = none → Q (.ref p) (upd H p (.lst [.int (-22)])) := fun z => ⟨by decide, fun p hp => q1 z _ p (Same.new hp) hp upd_same⟩
    refine ⟨_, rfl, _, _, rfl, rfl, _, rfl, iteD (fun c1 => ⟨_, _, rfl, rfl, _, rfl, iteD (fun c2 => iteT (bad ?_)) (fun c2 => ?_)⟩) (fun c1 => ⟨_, rfl, iteT (iteT (bad ?_))⟩)⟩
    · have c2 : ¬ (n : Int) ≤ 8 := by
        intro q
        rw [decide_eq_true q] at c2
        cases c2
      exact .inr (.inl (by omega))
    · have c1 := of_decide_eq_true c1
      have c2 : (n : Int) ≤ 8 := by
        by_cases q : (n : Int) ≤ 8
        · exact q
        · rw [decide_eq_false q] at c2
          cases c2
      refine ⟨_, rfl, _, rfl, ls, lp, ss, as, ps, rfl, SqL.of hls, SqL.of hlp, ta, fun b hb => ⟨_, rfl, ?_⟩⟩
      rw [← good_iff h8] at hb
      cases b with
      | false =>
        refine iteT (bad (.inr (.inr (.inr ?_))))
        cases e : Km347.Tariff.good ⟨ss, ps⟩ with
        | false => rfl
        | true => cases hb.mpr e
      | true =>
        have hg := hb.mp rfl
        have p3 := ((good_iff h8).mp hg).1
        have nb : ¬ badStart ⟨ss, ps⟩ ps.length n := by
          rintro (z | z | z | z)
          · omega
          · omega
          · omega
          · rw [hg] at z
            cases z
        refine iteF ⟨_, rfl, _, rfl, _, rfl, fun x dx nx ndx nex => ⟨x, dx, ls, lp, rfl, upd_same, ⟨rfl, ?_⟩⟩⟩
        have s1 : Same H (upd (upd (upd H dx (.own x)) x (.ins a.c_Tariff dx [])) x (.ins a.c_Tariff dx (fs_Tariff (.ref ls) (.ref lp)))) := fun b o e => upd_keep (ne_of_none e nx) (upd_keep (ne_of_none e nx) (upd_keep (ne_of_none e ndx) e))
        have hx : (upd (upd (upd H dx (.own x)) x (.ins a.c_Tariff dx [])) x (.ins a.c_Tariff dx (fs_Tariff (.ref ls) (.ref lp)))) x = some (.ins a.c_Tariff dx (fs_Tariff (.ref ls) (.ref lp))) := upd_same
        generalize (upd (upd (upd H dx (.own x)) x (.ins a.c_Tariff dx [])) x (.ins a.c_Tariff dx (fs_Tariff (.ref ls) (.ref lp)))) = H1 at s1 hx
        intro pc dc npc ndc ned
        have s2 : Same H1 (upd (upd H1 dc (.own pc)) pc (.ins a.c_Centre dc [])) := fun b o e => upd_keep (ne_of_none e npc) (upd_keep (ne_of_none e ndc) e)
        have hpc : (upd (upd H1 dc (.own pc)) pc (.ins a.c_Centre dc [])) pc = some (.ins a.c_Centre dc []) := upd_same
        show spCentreInit a _ _ _ _
        generalize (upd (upd H1 dc (.own pc)) pc (.ins a.c_Centre dc [])) = H2 at s2 hpc
        have s12 : Same H H2 := fun b o e => s2 _ _ (s1 _ _ e)
        refine ⟨pc, dc, x, ls, lp, as, ⟨ss, ps⟩, n, rfl, hpc, ⟨⟨dx, s2 _ _ hx⟩, s12 _ _ hls, s12 _ _ hlp, ta.keep fun q xs e => s12 _ _ e, h8, p3⟩, (by omega), (by omega), fun H3 A' B => ⟨rfl, ?_⟩⟩
        have fr3 : Same H H3 := fun b o e => B.fr _ _ (s12 _ _ e) fun z => by
          rw [z] at e
          exact ne_of_none (s1 _ _ e) npc rfl
        refine ⟨_, rfl, L.p, _, L.dx, _, rfl, fr3 _ _ la.ob, T.cl_Line, T.na_Line_centre, (by show 2 < 1000; decide), ?_⟩
        rw [pt_Line_centre, ← B.pc_]
        have nw : ∀ b, foot A' b → ¬ lfoot L b := fun b f g => by
          have th := la.there g
          rcases B.nw b f with z | z | z | z | z
          · rw [z] at th
            exact th (s1.free npc)
          · rw [z] at th
            exact th nx
          · rw [z] at g
            exact nls g
          · rw [z] at g
            exact nlp g
          · exact th (s12.free z)
        have nwp : ∀ b, foot A' b → b ≠ L.p := fun b f z => nw b f (.inl z)
        have C2 : CtAt a (upd H3 L.p (.ins a.c_Line L.dx (fs_Line (.ref L.lr) (.ref A'.pc)))) A' (Km347.centre0 ⟨ss, ps⟩ n) m := (B.ct.keep (fun b o e f => upd_keep (nwp b f) e) (fun q xs e => upd_keep (ne_of e (fr3 _ _ la.ob) (by intro z; cases z)) e)).more (Nat.zero_le _)
        have st := la.startC C2 (fun b o e nb => upd_keep nb (fr3 _ _ e)) upd_same nw
        refine ⟨(by show 1 ≤ sizeLine; decide), fun p hp => ?_⟩
        have hp0 : H p = none := by
          by_cases z : p = L.p
          · rw [z, upd_same] at hp
            cases hp
          · rw [upd_ne z] at hp
            exact fr3.free hp
        refine q2 nb _ _ p (st.same (Same.new hp) (Nat.le_refl _)) rfl (fun b o e nf => Same.new hp _ _ (upd_keep (fun z => nf (.inl z)) (fr3 _ _ e))) (fun b f => ?_) hp0 (fun f => st.there f hp) upd_same
        rcases f with z | z | z | ⟨A2, z1, z2⟩
        · exact .inl (.inl z)
        · exact .inl (.inr (.inl z))
        · exact .inl (.inr (.inr (.inl z)))
        · cases z1
          rcases B.nw b z2 with z | z | z | z | z
          · rw [z]
            exact .inr (.inr (.inr (s1.free npc)))
          · rw [z]
            exact .inr (.inr (.inr nx))
          · exact .inr (.inl z)
          · exact .inr (.inr (.inl z))
          · exact .inr (.inr (.inr (s12.free z)))
    · have c1 := of_decide_eq_false c1
      exact .inl (by omega)
end
end Fb
namespace Fb
open PySem PySem.Spec PyProof.Rows L2
theorem nats_getD (l : Row) (i : Nat) : (Km347Neutral.nats l).getD i 0 = (l.getD i 0).toNat := by
  unfold Km347Neutral.nats
  rw [List.getD_eq_getElem?_getD, List.getD_eq_getElem?_getD, List.getElem?_map]
  cases l[i]? <;> rfl
theorem nats_length (l : Row) : (Km347Neutral.nats l).length = l.length := by
  unfold Km347Neutral.nats
  rw [List.length_map]
theorem passes_eq (ps : Row) : passesI ps = passesOf (Km347Neutral.nats ps) := by
  unfold passesI passesOf Km347Neutral.chunks
  rw [List.map_map, nats_length]
  refine List.map_congr_left fun i hi => ?_
  have hi := List.mem_range.mp hi
  unfold passAt
  rw [nats_getD, nats_getD, nats_getD]
  show (⟨(((ps.drop (3 * i)).take 3).getD 0 0).toNat, (((ps.drop (3 * i)).take 3).getD 1 0).toNat, (((ps.drop (3 * i)).take 3).getD 2 0).toNat⟩ : Km347.Pass) = _
  rw [drop_getD _ _ _ (by omega), drop_getD _ _ _ (by omega), drop_getD _ _ _ (by omega)]
  rfl
theorem passes_length (ns : List Nat) : (passesOf ns).length = ns.length / 3 := by
  unfold passesOf
  rw [List.length_map, List.length_range]
def After (a : Ad) (H : Hp) (L : LA) (n : Nat) (r : Km347Neutral.S × List Int) (Q : V → Hp → Prop) : Prop :=
  ∀ (H' : Hp) (L' : LA) (q : Addr) (rs' : List (Option Km347.Reader)) (oc' : Option Km347.Centre) (ns : List Int), r = ((rs', [oc']), ns) → LineAt a H' L' rs' oc' (n + 1) → Next H H' L L' → H q = none → ¬ lfoot L' q → H' q = some (.lst (ns.map V.int)) → Q (.ref q) H'
theorem ans_centre {a : Ad} {H : Hp} {L : LA} {rs : List (Option Km347.Reader)} {oc : Option Km347.Centre} {n : Nat} {dc : Addr} {x : Km347.Call} {ns : List Int} {Q : V → Hp → Prop} (la : LineAt a H L rs oc n) (hn : n ≤ 90000) (hdc : H dc = some (.lst (ns.map V.int)))
    (alt : (∃ l : List Nat, ns = 5 :: (l.length : Int) :: (l.map fun (n : Nat) => (n : Int)) ∧ l.length = 20 ∧ (∀ y ∈ l, y < 256) ∧ x = .cHeard l) ∨ (∃ r : Nat, ns = [6, (r : Int)] ∧ x = .cLacks r) ∨ (∃ cd d : Nat, ns = [7, (cd : Int), (d : Int)] ∧ x = .cBill cd d) ∨ ∃ cd d : Nat, ns = [8, (cd : Int), (d : Int)] ∧ x = .cHow cd d)
    (hx : Km347.isStart x = false) (ne : (Km347Neutral.step1 (rs, [oc]) 0 x).2 ≠ []) (k : After a H L n (Km347Neutral.step1 (rs, [oc]) 0 x) Q) :
    ∃ A : CA, H L.p = some (.ins a.c_Line L.dx (fs_Line (.ref L.lr) (.ref A.pc))) ∧ ∀ E, spOfCentre a [.ref A.pc, .ref dc] H Q E := by
  obtain ⟨c, rfl, es⟩ := st1_does hx ne
  cases e : L.ca with
  | none => cases la.cn e
  | some A =>
    obtain ⟨c2, e2, C⟩ := la.ct A e
    cases e2
    have ob := la.ob
    rw [e] at ob
    refine ⟨A, ob, fun E => ⟨A, c, n, dc, x, ns, rfl, C, (by omega), hdc, alt, fun H' A' q b nq nf hq => ?_⟩⟩
    obtain ⟨l1, l2⟩ := la.centre e b
    refine k H' _ q _ _ _ es l1 l2 nq (fun f => ?_) hq
    rcases l2.nw q f with z | z
    · exact la.there z nq
    · rcases f with y | y | y | ⟨A2, y1, y2⟩
      · exact la.there (.inl y) nq
      · exact la.there (.inr (.inl y)) nq
      · exact la.there (.inr (.inr (.inl y))) nq
      · cases y1
        exact nf y2
theorem ans_reader {a : Ad} {H : Hp} {L : LA} {rs : List (Option Km347.Reader)} {oc : Option Km347.Centre} {n k : Nat} {dc : Addr} {x : Km347.Call} {ns : List Int} {Q : V → Hp → Prop} (la : LineAt a H L rs oc n) (hdc : H dc = some (.lst (ns.map V.int)))
    (alt : (∃ (k : Int) (c m z : Nat), ns = [1, k, (c : Int), (m : Int), (z : Int)] ∧ x = .rTap c m z) ∨ (∃ (k : Int) (m : Nat), ns = [2, k, (m : Int)] ∧ x = .rSeal m) ∨ ∃ (k : Int) (n : Nat), ns = [3, k, (n : Int)] ∧ x = .rAgain n)
    (hx : Km347.isStart x = false) (ne : (Km347Neutral.step0 (rs, [oc]) k x).2 ≠ []) (kk : After a H L n (Km347Neutral.step0 (rs, [oc]) k x) Q) :
    ∃ p l : Addr, (L.rds.map rv)[k]? = some (.ref p) ∧ ∀ E, spOfReader a [.ref p, .ref dc] H Q E := by
  have hk := st0_lt ne
  obtain ⟨r, er, es⟩ := st0_does hx ne
  have er : rs.getD k none = some r := er
  obtain ⟨o, ho⟩ : ∃ o, L.rds[k]? = some o := ⟨_, List.getElem?_eq_getElem (by rw [la.l4]; exact hk)⟩
  cases o with
  | none =>
    rw [List.getD_eq_getElem?_getD, la.rn k ho] at er
    cases er
  | some y =>
    obtain ⟨r2, e2, R⟩ := la.rd k y ho
    rw [List.getD_eq_getElem?_getD, e2] at er
    cases er
    refine ⟨y.1, y.2, get_map ho, fun E => ⟨y.1, y.2, dc, r, x, ns, rfl, R, hdc, alt, fun H' q R' fr nq hq => ?_⟩⟩
    obtain ⟨l1, l2⟩ := la.reader (m := n + 1) ho R' fr (Nat.le_succ _)
    exact kk H' L q _ _ _ es l1 l2 nq (fun f => la.there f nq) hq
section
variable {P : Program} {w : World} {K : PySem.W.Frag} {mg : Str → Option Value} {base : Heap}
def spAnswer (a : Ad) : Sp := fun vs H Q _ => ∃ (L : LA) (rs : List (Option Km347.Reader)) (oc : Option Km347.Centre) (n : Nat) (dc : Addr) (c : Km347Neutral.Call), vs = [.ref L.p, .ref dc] ∧ LineAt a H L rs oc n ∧ n ≤ 90000 ∧ H dc = some (.lst ((PyFlat.put1 c).map V.int)) ∧ Form c ∧ (PyFlat.put1 c).length ≤ 31000 ∧
  (Km347Neutral.step (rs, [oc]) c).2 ≠ [] ∧ After a H L n (Km347Neutral.step (rs, [oc]) c) Q
theorem ok_z54 {a : Ad} (T : Tx K mg a) : FnOk P w K mg base CX0 8 a.f_z54 a.d_z54 ["line", "call"] (spAnswer a) := by
  have G_z4 := ok_z4 (P := P) (w := w) (base := base) T
  have G_z0 := ok_z0 (P := P) (w := w) (base := base) T
  have G_z8 := ok_z8 (P := P) (w := w) (base := base) T
  have G_z7 := ok_z7 (P := P) (w := w) (base := base) T
  have G_z37 := ok_z37 (P := P) (w := w) (base := base) T
  have G_z52 := ok_z52 (P := P) (w := w) (base := base) T
  refine T.F_z54.ok sc_z54 (fun vs H Q E h => ?_) (fun cdv A outer s H vs Q E hr h => ?_)
  · obtain ⟨L, rs, oc, n, dc, c, rfl, _⟩ := h
    rfl
  · obtain ⟨L, rs, oc, n, dc, c, rfl, la, hn, hdc, hf, hlen, ne, k⟩ := h
    refine ⟨_, (pss_cons (ps_if (pt_cmpR op_eq (pe_ix ix_list (pv 1) pe_int (fun _ _ => rfl)) (pe_gint rfl T.g_NC_START) (nomark _))
        (pss_cons (ps_set (i := 2) sc_z54.nd rfl (Or.inl rfl) (pe_call G_z52 (hr.mono (by decide)) rfl T.m_z52 T.F_z52.kp T.b_z52 .nil pass0 (pa_cons (pv 1) (pa_cons pe_int pa_nil))))
        (pss_cons (ps_set (i := 3) sc_z54.nd rfl (Or.inl rfl) (pe_call G_z52 (hr.mono (by decide)) rfl T.m_z52 T.F_z52.kp T.b_z52 .nil pass0 (pa_cons (pv 1) (pa_cons (pe_op op_add pe_int (pe_callB call_len_seq rfl T.n_len PySem.boot_len (pa_cons (pv 2) pa_nil))) pa_nil))))
        (pss_one (ps_ret (pe_meth (pv 0) T.cl_Line T.h_z4 G_z4 (hr.mono (by decide)) T.b_z4 .nil pass0 (pa_cons (pe_ix ix_list (pv 1) pe_int (fun _ _ => rfl)) (pa_cons (pv 2) (pa_cons (pe_call G_z37 (hr.mono (by decide)) rfl T.m_z37 T.F_z37.kp T.b_z37 .nil pass0 (pa_cons (pv 3) pa_nil)) pa_nil))))))))
        pss_nil)
      (pss_cons (ps_if (pt_cmpR op_eq (pe_ix ix_list (pv 1) pe_int (fun _ _ => rfl)) (pe_gint rfl T.g_NR_START) (nomark _))
        (pss_one (ps_ret (pe_meth (pv 0) T.cl_Line T.h_z0 G_z0 (hr.mono (by decide)) T.b_z0 .nil pass0 (pa_cons (pe_ix ix_list (pv 1) pe_int (fun _ _ => rfl)) (pa_cons (pe_ix ix_list (pv 1) pe_int (fun _ _ => rfl)) pa_nil)))))
        pss_nil)
      (pss_cons (ps_if (pt_cmpR op_gt (pe_ix ix_list (pv 1) pe_int (fun _ _ => rfl)) (pe_gint rfl T.g_NC_START) (nomark _))
        (pss_one (ps_ret (pe_call G_z8 (hr.mono (by decide)) rfl T.m_z8 T.F_z8.kp T.b_z8 .nil pass0 (pa_cons (pe_fld (pv 0) rfl) (pa_cons (pv 1) pa_nil)))))
        pss_nil)
      (pss_one (ps_ret (pe_call G_z7 (hr.mono (by decide)) rfl T.m_z7 T.F_z7.kp T.b_z7 .nil pass0 (pa_cons (pe_ix ix_list (pe_fld (pv 0) rfl) (pe_ix ix_list (pv 1) pe_int (fun _ _ => rfl)) (fun _ _ => rfl)) (pa_cons (pv 1) pa_nil)))))))), ?_⟩
    have alts : (∃ (j : Nat) (ns : List Int) (x : Km347.Call) (p : Int), Km347Neutral.step (rs, [oc]) c = Km347Neutral.step0 (rs, [oc]) j x ∧ PyFlat.put1 c = ns ∧ p ≠ 4 ∧ p ≠ 0 ∧ ¬ p > 4 ∧ ns[0]? = some p ∧ ns[1]? = some (j : Int) ∧
        ((∃ (k : Int) (c m z : Nat), ns = [1, k, (c : Int), (m : Int), (z : Int)] ∧ x = .rTap c m z) ∨ (∃ (k : Int) (m : Nat), ns = [2, k, (m : Int)] ∧ x = .rSeal m) ∨ ∃ (k : Int) (n : Nat), ns = [3, k, (n : Int)] ∧ x = .rAgain n) ∧ Km347.isStart x = false) ∨
      (∃ (ns : List Int) (x : Km347.Call) (p : Int), Km347Neutral.step (rs, [oc]) c = Km347Neutral.step1 (rs, [oc]) 0 x ∧ PyFlat.put1 c = ns ∧ p ≠ 4 ∧ p ≠ 0 ∧ p > 4 ∧ ns[0]? = some p ∧
        ((∃ l : List Nat, ns = 5 :: (l.length : Int) :: (l.map fun (n : Nat) => (n : Int)) ∧ l.length = 20 ∧ (∀ y ∈ l, y < 256) ∧ x = .cHeard l) ∨ (∃ r : Nat, ns = [6, (r : Int)] ∧ x = .cLacks r) ∨ (∃ cd d : Nat, ns = [7, (cd : Int), (d : Int)] ∧ x = .cBill cd d) ∨ ∃ cd d : Nat, ns = [8, (cd : Int), (d : Int)] ∧ x = .cHow cd d) ∧ Km347.isStart x = false) ∨
      (∃ k b : Nat, c = [[0, (k : Int), (b : Int)]]) ∨ ∃ (m : Nat) (ss ps : Row), c = [[4, (m : Int)], ss, ps] ∧ ss.length = 8 ∧ (∀ x ∈ ss, 0 ≤ x) ∧ ps.length % 3 = 0 ∧ (∀ x ∈ ps, 0 ≤ x) := by
      cases hf with
      | rStart kk b hk hb =>
        obtain ⟨kk, rfl⟩ := Int.eq_ofNat_of_zero_le hk
        obtain ⟨b, rfl⟩ := Int.eq_ofNat_of_zero_le hb
        exact .inr (.inr (.inl ⟨kk, b, rfl⟩))
      | rTap kk c m z hk hc hm hz _ _ =>
        obtain ⟨kk, rfl⟩ := Int.eq_ofNat_of_zero_le hk
        obtain ⟨c, rfl⟩ := Int.eq_ofNat_of_zero_le hc
        obtain ⟨m, rfl⟩ := Int.eq_ofNat_of_zero_le hm
        obtain ⟨z, rfl⟩ := Int.eq_ofNat_of_zero_le hz
        exact .inl ⟨kk, _, .rTap c m z, 1, st_rTap _ _ _ _ _, put_p _, by decide, by decide, by decide, rfl, rfl, .inl ⟨_, c, m, z, rfl, rfl⟩, rfl⟩
      | rSeal kk m hk hm _ =>
        obtain ⟨kk, rfl⟩ := Int.eq_ofNat_of_zero_le hk
        obtain ⟨m, rfl⟩ := Int.eq_ofNat_of_zero_le hm
        exact .inl ⟨kk, _, .rSeal m, 2, st_rSeal _ _ _, put_p _, by decide, by decide, by decide, rfl, rfl, .inr (.inl ⟨_, m, rfl, rfl⟩), rfl⟩
      | rAgain kk m hk hm =>
        obtain ⟨kk, rfl⟩ := Int.eq_ofNat_of_zero_le hk
        obtain ⟨m, rfl⟩ := Int.eq_ofNat_of_zero_le hm
        exact .inl ⟨kk, _, .rAgain m, 3, st_rAgain _ _ _, put_p _, by decide, by decide, by decide, rfl, rfl, .inr (.inr ⟨_, m, rfl, rfl⟩), rfl⟩
      | cStart m ss ps hm h8 hs h3 hp =>
        obtain ⟨m, rfl⟩ := Int.eq_ofNat_of_zero_le hm
        exact .inr (.inr (.inr ⟨m, ss, ps, rfl, h8, hs, h3, hp⟩))
      | cHeard l h20 hb =>
        refine .inr (.inl ⟨_, .cHeard (Km347Neutral.nats l), 5, st_cHeard _ _, put_c5 _, by decide, by decide, by decide, rfl, .inl ⟨Km347Neutral.nats l, ?_, by rw [nats_length]; exact h20, fun y hy => ?_, rfl⟩, rfl⟩)
        · rw [nats_length, ← nats_cast fun x hx => (hb x hx).1]
        · unfold Km347Neutral.nats at hy
          obtain ⟨z, hz, rfl⟩ := List.mem_map.mp hy
          have := hb z hz
          omega
      | cLacks r hr =>
        obtain ⟨r, rfl⟩ := Int.eq_ofNat_of_zero_le hr
        exact .inr (.inl ⟨_, .cLacks r, 6, st_cLacks _ _, put_p _, by decide, by decide, by decide, rfl, .inr (.inl ⟨r, rfl, rfl⟩), rfl⟩)
      | cBill c d hc hd _ =>
        obtain ⟨c, rfl⟩ := Int.eq_ofNat_of_zero_le hc
        obtain ⟨d, rfl⟩ := Int.eq_ofNat_of_zero_le hd
        exact .inr (.inl ⟨_, .cBill c d, 7, st_cBill _ _ _, put_p _, by decide, by decide, by decide, rfl, .inr (.inr (.inl ⟨c, d, rfl, rfl⟩)), rfl⟩)
      | cHow c d hc hd _ =>
        obtain ⟨c, rfl⟩ := Int.eq_ofNat_of_zero_le hc
        obtain ⟨d, rfl⟩ := Int.eq_ofNat_of_zero_le hd
        exact .inr (.inl ⟨_, .cHow c d, 8, st_cHow _ _ _, put_p _, by decide, by decide, by decide, rfl, .inr (.inr (.inr ⟨c, d, rfl, rfl⟩)), rfl⟩)
    rcases alts with ⟨j, ns, x, p, es, hd, p4, p0, pg, a0, a1, alt, hx⟩ | ⟨ns, x, p, es, hd, p4, p0, pg, a0, alt, hx⟩ | ⟨j, b, rfl⟩ | ⟨m, ss, ps, rfl, h8, hs, h3, hp⟩
    · rw [es] at ne k
      rw [hd] at hdc
      obtain ⟨pr, l, e1, e2⟩ := ans_reader la hdc alt hx ne k
      exact ⟨_, rfl, dc, _, _, _, rfl, rfl, SqL.of hdc, atI_nat (j := 0) (get_map a0), rfl, _, rfl, iteD (fun z => absurd (eqI_t z) p4) fun _ => ⟨_, rfl, dc, _, _, _, rfl, rfl, SqL.of hdc, atI_nat (j := 0) (get_map a0), rfl, _, rfl, iteD (fun z => absurd (eqI_t z) p0) fun _ =>
        ⟨_, rfl, dc, _, _, _, rfl, rfl, SqL.of hdc, atI_nat (j := 0) (get_map a0), _, _, rfl, rfl, _, rfl, iteD (fun z => absurd (of_decide_eq_true z) pg) fun _ =>
        ⟨_, rfl, L.p, _, L.dx, _, _, rfl, la.ob, T.cl_Line, T.na_Line_readers, lk_Line_readers, _, rfl, dc, _, _, _, rfl, rfl, SqL.of hdc, atI_nat (j := 1) (get_map a1), L.lr, _, _, _, rfl, rfl, SqL.of la.ls, atI_nat e1, _, rfl, e2 E⟩⟩⟩⟩
    · rw [es] at ne k
      rw [hd] at hdc
      obtain ⟨A, e1, e2⟩ := ans_centre la hn hdc alt hx ne k
      exact ⟨_, rfl, dc, _, _, _, rfl, rfl, SqL.of hdc, atI_nat (j := 0) (get_map a0), rfl, _, rfl, iteD (fun z => absurd (eqI_t z) p4) fun _ => ⟨_, rfl, dc, _, _, _, rfl, rfl, SqL.of hdc, atI_nat (j := 0) (get_map a0), rfl, _, rfl, iteD (fun z => absurd (eqI_t z) p0) fun _ =>
        ⟨_, rfl, dc, _, _, _, rfl, rfl, SqL.of hdc, atI_nat (j := 0) (get_map a0), _, _, rfl, rfl, _, rfl, iteD (fun _ =>
        ⟨_, rfl, L.p, _, L.dx, _, _, rfl, e1, T.cl_Line, T.na_Line_centre, lk_Line_centre, _, rfl, e2 E⟩) fun z => absurd pg (of_decide_eq_false z)⟩⟩⟩
    · rw [put_p] at hdc
      rw [st_rStart] at ne k
      have hj : j < 4 := st0_lt ne
      have hj2 : ((j : Int)).toNat < 4 := hj
      rw [st0_start hj2] at k
      have k : After a H L n (if 8 ≤ b then ((rs, [oc]), [-22]) else ((rs.set j (some (Km347.reader0 b)), [oc]), [0])) Q := k
      refine ⟨_, rfl, dc, _, _, _, rfl, rfl, SqL.of hdc, atI_nat (j := 0) rfl, rfl, _, rfl, iteD (fun z => absurd (eqI_t z) (by decide)) fun _ => ⟨_, rfl, dc, _, _, _, rfl, rfl, SqL.of hdc, atI_nat (j := 0) rfl, rfl, _, rfl, iteD (fun _ => ?_) fun z => absurd rfl (eqI_f z)⟩⟩
      refine ⟨_, rfl, L.p, L.dx, _, rfl, la.ob, nm_z0, _, rfl, dc, _, _, _, rfl, rfl, SqL.of hdc, atI_nat (j := 1) rfl, _, rfl, dc, _, _, _, rfl, rfl, SqL.of hdc, atI_nat (j := 2) rfl, L, rs, oc, n, j, b, rfl, la, hj, fun h8 => ?_, fun h8 => ?_⟩
      · rw [if_pos h8] at k
        exact fun H' q s nq hq => k H' L q _ _ _ rfl (la.same s (Nat.le_succ _)) (Next.same s) nq (fun f => la.there f nq) hq
      · rw [if_neg h8] at k
        exact fun H' L' q la' nx nq nf hq => k H' L' q _ _ _ rfl (la'.same (fun b o e => e) (Nat.le_succ _)) nx nq nf hq
    · rw [put_c4] at hdc hlen
      rw [st_cStart, st1_start, passes_eq] at k
      have hl2 : ps.length ≤ 31000 := by
        simp only [List.length_append, List.length_cons, List.length_nil] at hlen
        omega
      refine ⟨_, rfl, dc, _, _, _, rfl, rfl, SqL.of hdc, atI_nat (j := 0) rfl, rfl, _, rfl, iteD (fun _ => ?_) fun z => absurd rfl (eqI_f z)⟩
      refine ⟨_, rfl, dc, _, ss, (ps.length : Int) :: ps, 2, rfl, SqL.of hdc, rfl, fun H1 ls s1 n1 h1 => ?_⟩
      have es := nats_cast hs
      have ep := nats_cast hp
      have hls : H1 ls = some (.lst ((Km347Neutral.nats ss).map nv)) := by
        rw [h1, nv_ints, ← es]
      have hdr : ([4, (m : Int), (ss.length : Int)] ++ (ss ++ ((ps.length : Int) :: ps)) : List Int).drop (3 + ss.length) = (ps.length : Int) :: (ps ++ []) := by
        rw [← List.drop_drop, List.append_nil]
        show (ss ++ ((ps.length : Int) :: ps)).drop ss.length = _
        rw [List.drop_left]
      refine ⟨_, rfl, _, rfl, ls, _, rfl, .inl (SqL.of hls), _, _, rfl, rfl, dc, _, ps, [], 3 + ss.length, ?_, SqL.of (s1 _ _ hdc), hdr, fun H2 lq s2 n2 h2 => ?_⟩
      · show [V.ref dc, V.int ((3 : Int) + (((Km347Neutral.nats ss).map nv).length : Int))] = [V.ref dc, V.int (((3 + ss.length : Nat)) : Int)]
        rw [List.length_map, nats_length, Int.natCast_add]
        rfl
      have hlq : H2 lq = some (.lst ((Km347Neutral.nats ps).map nv)) := by
        rw [h2, nv_ints, ← ep]
      have s12 : Same H H2 := fun b o e => s2 _ _ (s1 _ _ e)
      refine ⟨_, rfl, L.p, L.dx, _, rfl, s12 _ _ la.ob, nm_z4, _, rfl, dc, _, _, _, rfl, rfl, SqL.of (s12 _ _ hdc), atI_nat (j := 1) rfl, _, rfl, _, rfl, lq, Km347Neutral.nats ps, rfl, SqL.of hlq, (by rw [nats_length]; exact h3), (by rw [nats_length]; exact hl2), fun H3 lp as s3 n3 h4 ta => ?_⟩
      have s13 : Same H1 H3 := fun b o e => s3 _ _ (s2 _ _ e)
      have s03 : Same H H3 := fun b o e => s3 _ _ (s12 _ _ e)
      have m0 : ((m : Int)).toNat = m := Int.toNat_natCast m
      have eb : badStart ⟨Km347Neutral.nats ss, passesOf (Km347Neutral.nats ps)⟩ (passesOf (Km347Neutral.nats ps)).length m = badStart ⟨Km347Neutral.nats ss, passesOf (Km347Neutral.nats ps)⟩ (ps.length / 3) ((m : Int)).toNat := by
        rw [passes_length, nats_length, m0]
      have nl1 : H ls = none := n1
      have nl2 : H lp = none := s12.free n3
      refine ⟨L, rs, oc, n, m, ls, lp, Km347Neutral.nats ss, as, passesOf (Km347Neutral.nats ps), rfl, la.same s03 (Nat.le_refl _), s13 _ _ hls, h4, ta, (by rw [nats_length]; exact h8), fun f => la.there f nl1, fun f => la.there f nl2, fun hb => ?_, fun hb => ?_⟩
      · rw [eb] at hb
        rw [if_pos hb] at k
        exact fun H' q s nq hq => k H' L q _ _ _ rfl (la.same (fun b o e => s _ _ (s03 _ _ e)) (Nat.le_succ _)) (Next.same fun b o e => s _ _ (s03 _ _ e)) (s03.free nq) (fun f => la.there f (s03.free nq)) hq
      · rw [eb] at hb
        rw [if_neg hb] at k
        refine fun H' L' q la' ep' fr nw nq nf hq => k H' L' q _ _ _ rfl (la'.same (fun b o e => e) (Nat.le_succ _)) ⟨ep', fun b o e nf => fr _ _ (s03 _ _ e) nf, fun b f => ?_⟩ (s03.free nq) nf hq
        rcases nw b f with z | z | z | z
        · exact .inl z
        · rw [z]
          exact .inr nl1
        · rw [z]
          exact .inr nl2
        · exact .inr (s03.free z)
end
end Fb
namespace Fb
open PySem PySem.Spec PyProof.Rows L2
theorem tap_bytes_len (x : Km347.Tap) : x.bytes.length = 20 := by
  unfold Km347.Tap.bytes
  rw [bytes_len]
  simp [Km347.le]
theorem seal_bytes_len (x : Km347.Seal) : x.bytes.length = 20 := by
  unfold Km347.Seal.bytes
  rw [bytes_len]
  simp [Km347.le]
theorem only_len (v : Int) : (Km347.only v).out.length ≤ 32 := Nat.zero_le _
theorem rDoes_len (r : Km347.Reader) (x : Km347.Call) : (Km347.rDoes r x).2.out.length ≤ 32 := by
  cases x with
  | rStart me =>
    unfold Km347.rDoes
    simp only
    split <;> exact only_len _
  | rTap c m z =>
    unfold Km347.rDoes
    simp only
    split
    · exact only_len _
    split
    · exact only_len _
    split
    · exact only_len _
    show (Km347.Tap.bytes _).length ≤ 32
    rw [tap_bytes_len]
    decide
  | rSeal m =>
    unfold Km347.rDoes
    simp only
    split
    · exact only_len _
    split
    · exact only_len _
    show (Km347.Seal.bytes _).length ≤ 32
    rw [seal_bytes_len]
    decide
  | rAgain n =>
    unfold Km347.rDoes
    simp only
    split
    · show (Km347.Tap.bytes _).length ≤ 32
      rw [tap_bytes_len]
      decide
    · exact only_len _
  | cStart t p n => exact only_len _
  | cHeard l => exact only_len _
  | cLacks r => exact only_len _
  | cBill c d => exact only_len _
  | cHow c d => exact only_len _
theorem cDoes_len (c : Km347.Centre) (x : Km347.Call) : (Km347.cDoes c x).2.out.length ≤ 32 := by
  cases x with
  | cStart t p n =>
    unfold Km347.cDoes
    simp only
    split <;> exact only_len _
  | cHeard l =>
    unfold Km347.cDoes
    simp only
    split <;> exact only_len _
  | cLacks r =>
    unfold Km347.cDoes
    simp only
    split
    · exact only_len _
    split <;> exact only_len _
  | cBill c d =>
    unfold Km347.cDoes
    simp only
    split
    · exact only_len _
    split
    · exact only_len _
    · show 2 ≤ 32
      decide
  | cHow c d =>
    unfold Km347.cDoes
    simp only
    split
    · exact only_len _
    split
    · exact only_len _
    · show (List.take Km347.RIDES _).length ≤ 32
      rw [List.length_take]
      exact Nat.min_le_left _ _
  | rStart me => exact only_len _
  | rTap c m z => exact only_len _
  | rSeal m => exact only_len _
  | rAgain n => exact only_len _
theorem told_len {a : Km347.Ans} (h : a.out.length ≤ 32) : (Km347Neutral.told a).length ≤ 33 := by
  unfold Km347Neutral.told Km347Neutral.nums
  rw [List.length_cons, List.length_map]
  omega
theorem step0_len (S : Km347Neutral.S) (k : Nat) (x : Km347.Call) : (Km347Neutral.step0 S k x).2.length ≤ 33 := by
  unfold Km347Neutral.step0
  split
  · exact Nat.zero_le _
  split
  · exact told_len (rDoes_len _ _)
  split
  · exact told_len (rDoes_len _ _)
  · exact Nat.zero_le _
theorem step1_len (S : Km347Neutral.S) (k : Nat) (x : Km347.Call) : (Km347Neutral.step1 S k x).2.length ≤ 33 := by
  unfold Km347Neutral.step1
  split
  · exact Nat.zero_le _
  split
  · exact told_len (cDoes_len _ _)
  split
  · exact told_len (cDoes_len _ _)
  · exact Nat.zero_le _
theorem step_len (S : Km347Neutral.S) (c : Km347Neutral.Call) : (Km347Neutral.step S c).2.length ≤ 33 := by
  unfold Km347Neutral.step
  split
  · exact Nat.zero_le _
  · dsimp only
    split
    · exact step0_len _ _ _
    · exact step1_len _ _ _
def run (S : Km347Neutral.S) (cs : List Km347Neutral.Call) : Km347Neutral.S := cs.foldl (fun s c => (Km347Neutral.step s c).1) S
theorem run_snoc (S : Km347Neutral.S) (cs : List Km347Neutral.Call) (c : Km347Neutral.Call) : run S (cs ++ [c]) = (Km347Neutral.step (run S cs) c).1 := by
  unfold run
  rw [List.foldl_append]
  rfl
theorem played_snoc (c : Km347Neutral.Call) : ∀ (cs : List Km347Neutral.Call) (S : Km347Neutral.S), PyFlat.played Km347Neutral.step S (cs ++ [c]) = PyFlat.played Km347Neutral.step S cs ++ [(Km347Neutral.step (run S cs) c).2]
  | [], S => rfl
  | d :: cs, S => by
    show (Km347Neutral.step S d).2 :: PyFlat.played Km347Neutral.step (Km347Neutral.step S d).1 (cs ++ [c]) = _
    rw [played_snoc c cs]
    rfl
theorem told_snoc (l : List (List Int)) (x : List Int) : PyFlat.told (l ++ [x]) = PyFlat.told l ++ [(x.length : Int)] ++ x := by
  unfold PyFlat.told
  rw [List.flatMap_append]
  simp
theorem may_at {c : Km347Neutral.Call} : ∀ {cs : List Km347Neutral.Call} {S : Km347Neutral.S} {i : Nat}, Km347Neutral.may S cs = true → cs[i]? = some c → (Km347Neutral.step (run S (cs.take i)) c).2 ≠ []
  | [], S, i, _, h => by simp at h
  | d :: cs, S, i, hm, h => by
    unfold Km347Neutral.may at hm
    rw [Bool.and_eq_true] at hm
    cases i with
    | zero =>
      have e : d = c := Option.some.inj h
      subst e
      intro z
      have hm := hm.1
      have z : (Km347Neutral.step S d).2 = [] := z
      rw [z] at hm
      cases hm
    | succ i => exact may_at (cs := cs) (i := i) hm.2 h
section
variable {P : Program} {w : World} {K : PySem.W.Frag} {mg : Str → Option Value} {base : Heap}
def spAns (K : PySem.W.Frag) : Sp := fun vs H Q _ => ∃ (d : Addr) (cs : List Km347Neutral.Call), vs = [.ref d] ∧ SqL K H d ((PyFlat.put cs).map V.int) ∧ (∀ c ∈ cs, Form c) ∧ (PyFlat.put cs).length ≤ 31000 ∧ Km347Neutral.may Km347Neutral.start cs = true ∧
  ∀ (H' : Hp) (q : Addr), H' q = some (.lst ((PyFlat.told (PyFlat.played Km347Neutral.step Km347Neutral.start cs)).map V.int)) → Q (.ref q) H'
theorem ok_z48 {a : Ad} (T : Tx K mg a) : FnOk P w K mg base CX0 9 a.f_z48 a.d_z48 ["calls"] (spAns K) := by
  have G_z39 := ok_z39 (P := P) (w := w) (base := base) T
  have G_z54 := ok_z54 (P := P) (w := w) (base := base) T
  have G_z25 := ok_z25 (P := P) (w := w) (base := base) T
  refine T.F_z48.ok sc_z48 (fun vs H Q E h => ?_) (fun cdv A outer s H vs Q E hr h => ?_)
  · obtain ⟨d, cs, rfl, _⟩ := h
    rfl
  · obtain ⟨d, cs, rfl, hS, hf, hlen, hmay, k⟩ := h
    refine ⟨_, (pss_cons (ps_set (i := 1) sc_z48.nd rfl (Or.inl rfl) (pe_make0 T.k_Line G_z39 (hr.mono (by decide)) rfl T.m_Line T.b_z39 .nil pass0))
      (pss_cons (ps_set (i := 2) sc_z48.nd rfl (Or.inl rfl) (pe_lst pa_nil))
      (pss_cons (ps_for PassesOwn.never rfl (pi_list (pe_call G_z25 (hr.mono (by decide)) rfl T.m_z25 T.F_z25.kp T.b_z25 .nil pass0 (pa_cons (pv 0) pa_nil))) (pg_name (i := 3) sc_z48.nd rfl (Or.inl rfl))
        (pss_cons (ps_set (i := 4) sc_z48.nd rfl (Or.inl rfl) (pe_call G_z54 (hr.mono (by decide)) rfl T.m_z54 T.F_z54.kp T.b_z54 .nil pass0 (pa_cons (pv 1) (pa_cons (pv 3) pa_nil))))
        (pss_cons (ps_expr (pe_bm PySem.F.plainAttrs_list PySem.F.slot_list_append PySem.F.type_list_append mt_append (pv 2) (pa_cons (pe_callB call_len_seq rfl T.n_len PySem.boot_len (pa_cons (pv 4) pa_nil)) pa_nil)))
        (pss_one (ps_expr (pe_bm PySem.F.plainAttrs_list PySem.F.slot_list_extend PySem.F.type_list_extend mt_extend (pv 2) (pa_cons (pv 4) pa_nil)))))))
      (pss_one (ps_ret (pv 2)))))), ?_⟩
    refine fun x dx nx ndx nex => ⟨x, dx, rfl, upd_same, fun H1 L la ep fr1 nw1 => ⟨rfl, ?_⟩⟩
    have s1 : Same H H1 := fun b o e => fr1 _ _ (upd_keep (ne_of_none e nx) (upd_keep (ne_of_none e ndx) e)) (ne_of_none e nx)
    refine ⟨Nat.zero_le _, fun g ng => ?_⟩
    have s2 : Same H1 (upd H1 g (.lst [])) := Same.new ng
    have hg : (upd H1 g (.lst [])) g = some (.lst ([] : List V)) := upd_same
    have nfg : ¬ lfoot L g := fun f => la.there f ng
    show tSeq _ _ _ [some (.ref d), some (.ref x), some (.ref g), none, none] (upd H1 g (.lst []))
    generalize upd H1 g (.lst []) = H2 at s2 hg
    have s02 : Same H H2 := fun b o e => s2 _ _ (s1 _ _ e)
    refine ⟨_, rfl, d, cs, rfl, s02.seq hS, hf, hlen, fun H3 p as s3 np npa fra hp ls => ?_⟩
    have la2 := la.same s2 (Nat.le_refl _)
    have la3 := la2.same s3 (Nat.le_refl _)
    have clen : cs.length ≤ 31000 := Nat.le_trans (put_len hf) hlen
    refine ⟨p, rfl, ⟨_, SqL.of hp⟩, for_list (K := K) (a := p) (xs := as.map V.ref) (fun i σ H' => ∃ (L' : LA) (rs : List (Option Km347.Reader)) (oc : Option Km347.Centre) (gi : List Int) (v3 v4 : Option V), σ = [some (.ref d), some (.ref L'.p), some (.ref g), v3, v4] ∧
        LineAt a H' L' rs oc i ∧ (rs, [oc]) = run Km347Neutral.start (cs.take i) ∧ H' g = some (.lst (gi.map V.int)) ∧ gi = PyFlat.told (PyFlat.played Km347Neutral.step Km347Neutral.start (cs.take i)) ∧ gi.length ≤ 34 * i ∧ ¬ lfoot L' g ∧ ¬ lfoot L' p ∧ p ≠ g ∧
        H' p = some (.lst (as.map V.ref)) ∧ ListsAt H' as (cs.map fun c => (PyFlat.put1 c).map V.int) ∧ ∀ q ∈ as, q ≠ g ∧ ¬ lfoot L' q)
      ⟨L, _, _, [], none, none, (by rw [ep]), la3, rfl, s3 _ _ hg, rfl, Nat.zero_le _, nfg, fun f => la2.there f np, (ne_of_none hg np).symm, hp, ls, fun q hq => ⟨(ne_of_none hg (fra q hq)).symm, fun f => la2.there f (fra q hq)⟩⟩
      (fun i σ H' _ ⟨_, _, _, _, _, _, _, _, _, _, _, _, _, _, _, e, _⟩ => SqL.of e) ?_ ?_⟩
    · rintro i y σ H' hi ⟨L', rs, oc, gi, v3, v4, rfl, la', ers, hg', egi, hgl, nfg', nfp', npg, hp', ls', aw⟩
      obtain ⟨dc, hdc, rfl⟩ := map_get hi
      have hi2 : i < cs.length := by
        have := (List.getElem?_eq_some_iff.mp hdc).1
        rw [ls'.1, List.length_map] at this
        exact this
      obtain ⟨c, hc⟩ : ∃ c, cs[i]? = some c := ⟨_, List.getElem?_eq_getElem hi2⟩
      obtain ⟨dc2, e2, hdc2⟩ := ls'.2 i _ (get_map (f := fun c => (PyFlat.put1 c).map V.int) hc)
      rw [hdc] at e2
      cases e2
      have hcm := List.mem_of_getElem? hc
      have hl1 : (PyFlat.put1 c).length ≤ 31000 := by
        have e := congrArg List.length (put_take hc).1
        rw [List.length_append, List.length_append] at e
        omega
      have hne := may_at hmay hc
      rw [← ers] at hne
      refine ⟨_, rfl, _, rfl, L', rs, oc, i, dc, c, rfl, la', (by omega), hdc2, hf c hcm, hl1, hne, fun H4 L4 q rs4 oc4 ns es la4 nx4 nq nfq hq => ?_⟩
      have kp : ∀ b o, H' b = some o → ¬ lfoot L' b → H4 b = some o := nx4.fr
      have nf4 : ∀ b o, H' b = some o → ¬ lfoot L' b → ¬ lfoot L4 b := fun b o e nf f => by
        rcases nx4.nw b f with z | z
        · exact nf z
        · rw [z] at e
          cases e
      have ensl : ns.length ≤ 33 := by
        have := step_len (rs, [oc]) c
        rw [es] at this
        exact this
      have hg4 := kp _ _ hg' nfg'
      have hqg : q ≠ g := (ne_of_none hg' nq).symm
      refine ⟨_, rfl, .inl ⟨rfl, _, SqL.of hg4⟩, _, rfl, q, _, rfl, .inl (SqL.of hq), g, _, _, rfl, rfl, hg4, (by rw [List.length_map]; exact Nat.lt_of_le_of_lt (show gi.length ≤ 2000000 by omega) (by decide)), ?_⟩
      have hg5 : (upd H4 g (.lst (gi.map V.int ++ [V.int ((ns.map V.int).length : Int)]))) g = some (.lst (gi.map V.int ++ [V.int ((ns.map V.int).length : Int)])) := upd_same
      have hq5 : (upd H4 g (.lst (gi.map V.int ++ [V.int ((ns.map V.int).length : Int)]))) q = some (.lst (ns.map V.int)) := upd_keep hqg hq
      refine ⟨_, rfl, .inl ⟨rfl, _, SqL.of hg5⟩, _, rfl, g, q, _, _, rfl, rfl, hg5, hq5, (by rw [List.length_append, List.length_map, List.length_map]; exact Nat.le_trans (show gi.length + 1 + ns.length ≤ 2000000 by omega) (by decide)), ?_⟩
      rw [upd_upd]
      have eL : L4.p = L'.p := nx4.p_
      have efin : gi.map V.int ++ [V.int ((ns.map V.int).length : Int)] ++ ns.map V.int = (gi ++ [(ns.length : Int)] ++ ns).map V.int := by
        rw [List.map_append, List.map_append, List.length_map]
        rfl
      refine ⟨L4, rs4, oc4, gi ++ [(ns.length : Int)] ++ ns, some (.ref dc), some (.ref q), (by rw [eL]; rfl), la4.keep (fun b o e f => upd_keep (fun z => ?_) e) (fun t xs e => upd_keep (ne_of e hg4 (by intro z; cases z)) e) (Nat.le_refl _), ?_, (by rw [upd_same, efin]), ?_, ?_, nf4 _ _ hg' nfg', nf4 _ _ hp' nfp', npg, upd_keep npg (kp _ _ hp' nfp'), ⟨ls'.1, fun j r e => ?_⟩, fun t ht => ?_⟩
      · rw [z] at f
        exact nf4 _ _ hg' nfg' f
      · rw [take_snoc hc, run_snoc, ← ers, es]
      · rw [take_snoc hc, played_snoc, told_snoc, ← egi, ← ers, es]
      · rw [List.length_append, List.length_append, List.length_singleton]
        omega
      · obtain ⟨t, e1, e2⟩ := ls'.2 j r e
        obtain ⟨w1, w2⟩ := aw t (List.mem_of_getElem? e1)
        exact ⟨t, e1, upd_keep w1 (kp _ _ e2 w2)⟩
      · obtain ⟨w1, w2⟩ := aw t ht
        obtain ⟨j, hj⟩ := List.mem_iff_getElem?.mp ht
        have hj2 : j < (cs.map fun c => (PyFlat.put1 c).map V.int).length := by
          rw [← ls'.1]
          exact (List.getElem?_eq_some_iff.mp hj).1
        obtain ⟨t2, e1, e2⟩ := ls'.2 j _ (List.getElem?_eq_getElem hj2)
        rw [hj] at e1
        cases e1
        exact ⟨w1, nf4 _ _ e2 w2⟩
    · rintro σ H' ⟨L', rs, oc, gi, v3, v4, rfl, la', ers, hg', egi, _⟩
      have e : (as.map V.ref).length = cs.length := by
        rw [List.length_map, ls.1, List.length_map]
      rw [e, List.take_length] at egi
      rw [egi] at hg'
      exact ⟨_, rfl, k H' g hg'⟩
end
end Fb
namespace Fb
open PySem PySem.Spec PyProof.Rows L2
theorem len1 {l : List Value} (h : l.length = 1) : ∃ a, l = [a] := match l, h with
  | [a], _ => ⟨a, rfl⟩
theorem len2 {l : List Value} (h : l.length = 2) : ∃ a b, l = [a, b] := match l, h with
  | [a, b], _ => ⟨a, b, rfl⟩
theorem len3 {l : List Value} (h : l.length = 3) : ∃ a b c, l = [a, b, c] := match l, h with
  | [a, b, c], _ => ⟨a, b, c, rfl⟩
theorem len4 {l : List Value} (h : l.length = 4) : ∃ a b c d, l = [a, b, c, d] := match l, h with
  | [a, b, c, d], _ => ⟨a, b, c, d, rfl⟩
theorem len5 {l : List Value} (h : l.length = 5) : ∃ a b c d e, l = [a, b, c, d, e] := match l, h with
  | [a, b, c, d, e], _ => ⟨a, b, c, d, e, rfl⟩
theorem len6 {l : List Value} (h : l.length = 6) : ∃ a b c d e f, l = [a, b, c, d, e, f] := match l, h with
  | [a, b, c, d, e, f], _ => ⟨a, b, c, d, e, f, rfl⟩
theorem all_mk {K : W.Frag} {h : Heap} {mg : Str → Option Value} {fa : Addr} (X : K.In h) (G : h.Ns mainGlobals mg) (hfa : mg "answers" = some (.ref fa))
    {t_NR_START : Tok}
    {t_NR_TAP : Tok}
    {t_NR_SEAL : Tok}
    {t_NC_START : Tok}
    {t_NC_HEARD : Tok}
    {t_NC_LACKS : Tok}
    {t_NC_BILL : Tok}
    {t_MINUTE_LIMIT : Tok}
    {t_DAY_MINUTES : Tok}
    {t_ALL_ZONES : Tok}
    {t_MOST_READERS : Tok}
    {t_MOST_TAPS : Tok}
    {t_MOST_RIDES : Tok}
    {t_TAP : Tok}
    {t_SEAL : Tok}
    {t_ALL_ONES : Tok}
    {t_POLYNOMIAL : Tok}
    {t_CHECK_PLACE : Tok}
    {t_NOT_THERE : Tok}
    {t_NOTHING_LACKS : Tok}
    {t_TOO_EARLY : Tok}
    {t_WRONG_VALUE : Tok}
    {t_NO_ROOM : Tok}
    {t_WRONG_MESSAGE : Tok}
    {t_PRICE_LIMIT : Tok}
    {t_MOST_PASSES : Tok}
    {t_MOST_MINUTES : Tok}
    {u_LENGTHS : Addr} {ep_LENGTHS : Nat} {t_LENGTHS_0 s_LENGTHS_0 t_LENGTHS_1 s_LENGTHS_1 t_LENGTHS_2 s_LENGTHS_2 t_LENGTHS_3 s_LENGTHS_3 t_LENGTHS_4 s_LENGTHS_4 t_LENGTHS_5 s_LENGTHS_5 t_LENGTHS_6 s_LENGTHS_6 : Tok}
    {c_Reader : Addr}
    {c_Tariff : Addr}
    {c_Centre : Addr}
    {c_Line : Addr}
    {f_z52 : Addr} {od0 an0 : Option Addr} {sl0 : Array (Option Value)} {oc0 kV0 dc0 pm0 cd0 ct0 : Value}
    {f_z34 : Addr} {od1 an1 : Option Addr} {sl1 : Array (Option Value)} {oc1 kV1 dc1 pm1 cd1 ct1 : Value}
    {f_z25 : Addr} {od2 an2 : Option Addr} {sl2 : Array (Option Value)} {oc2 kV2 dc2 pm2 cd2 ct2 : Value}
    {f_z41 : Addr} {od3 an3 : Option Addr} {sl3 : Array (Option Value)} {oc3 kV3 dc3 pm3 cd3 ct3 : Value}
    {f_z31 : Addr} {od4 an4 : Option Addr} {sl4 : Array (Option Value)} {oc4 kV4 dc4 pm4 cd4 ct4 : Value}
    {f_z53 : Addr} {od5 an5 : Option Addr} {sl5 : Array (Option Value)} {oc5 kV5 dc5 pm5 cd5 ct5 : Value}
    {f_z14 : Addr} {od6 an6 : Option Addr} {sl6 : Array (Option Value)} {oc6 kV6 dc6 pm6 cd6 ct6 : Value}
    {f_z28 : Addr} {od7 an7 : Option Addr} {sl7 : Array (Option Value)} {oc7 kV7 dc7 pm7 cd7 ct7 : Value}
    {f_z19 : Addr} {od8 an8 : Option Addr} {sl8 : Array (Option Value)} {oc8 kV8 dc8 pm8 cd8 ct8 : Value}
    {f_z17 : Addr} {od9 an9 : Option Addr} {sl9 : Array (Option Value)} {oc9 kV9 dc9 pm9 cd9 ct9 : Value}
    {f_z40 : Addr} {od10 an10 : Option Addr} {sl10 : Array (Option Value)} {oc10 kV10 dc10 pm10 cd10 ct10 : Value}
    {f_z42 : Addr} {od11 an11 : Option Addr} {sl11 : Array (Option Value)} {oc11 kV11 dc11 pm11 cd11 ct11 : Value}
    {f_z46 : Addr} {od12 an12 : Option Addr} {sl12 : Array (Option Value)} {oc12 kV12 dc12 pm12 cd12 ct12 : Value}
    {f_z30 : Addr} {od13 an13 : Option Addr} {sl13 : Array (Option Value)} {oc13 kV13 dc13 pm13 cd13 ct13 : Value}
    {f_z29 : Addr} {od14 an14 : Option Addr} {sl14 : Array (Option Value)} {oc14 kV14 dc14 pm14 cd14 ct14 : Value}
    {f_z21 : Addr} {od15 an15 : Option Addr} {sl15 : Array (Option Value)} {oc15 kV15 dc15 pm15 cd15 ct15 : Value}
    {f_z15 : Addr} {od16 an16 : Option Addr} {sl16 : Array (Option Value)} {oc16 kV16 dc16 pm16 cd16 ct16 : Value}
    {f_z36 : Addr} {od17 an17 : Option Addr} {sl17 : Array (Option Value)} {oc17 kV17 dc17 pm17 cd17 ct17 : Value}
    {f_z38 : Addr} {od18 an18 : Option Addr} {sl18 : Array (Option Value)} {oc18 kV18 dc18 pm18 cd18 ct18 : Value}
    {f_z44 : Addr} {od19 an19 : Option Addr} {sl19 : Array (Option Value)} {oc19 kV19 dc19 pm19 cd19 ct19 : Value}
    {f_z33 : Addr} {od20 an20 : Option Addr} {sl20 : Array (Option Value)} {oc20 kV20 dc20 pm20 cd20 ct20 : Value}
    {f_z49 : Addr} {od21 an21 : Option Addr} {sl21 : Array (Option Value)} {oc21 kV21 dc21 pm21 cd21 ct21 : Value}
    {f_z32 : Addr} {od22 an22 : Option Addr} {sl22 : Array (Option Value)} {oc22 kV22 dc22 pm22 cd22 ct22 : Value}
    {f_z51 : Addr} {od23 an23 : Option Addr} {sl23 : Array (Option Value)} {oc23 kV23 dc23 pm23 cd23 ct23 : Value}
    {f_z50 : Addr} {od24 an24 : Option Addr} {sl24 : Array (Option Value)} {oc24 kV24 dc24 pm24 cd24 ct24 : Value}
    {f_z43 : Addr} {od25 an25 : Option Addr} {sl25 : Array (Option Value)} {oc25 kV25 dc25 pm25 cd25 ct25 : Value}
    {f_z24 : Addr} {od26 an26 : Option Addr} {sl26 : Array (Option Value)} {oc26 kV26 dc26 pm26 cd26 ct26 : Value}
    {f_z26 : Addr} {od27 an27 : Option Addr} {sl27 : Array (Option Value)} {oc27 kV27 dc27 pm27 cd27 ct27 : Value}
    {f_z22 : Addr} {od28 an28 : Option Addr} {sl28 : Array (Option Value)} {oc28 kV28 dc28 pm28 cd28 ct28 : Value}
    {f_z16 : Addr} {od29 an29 : Option Addr} {sl29 : Array (Option Value)} {oc29 kV29 dc29 pm29 cd29 ct29 : Value}
    {f_z18 : Addr} {od30 an30 : Option Addr} {sl30 : Array (Option Value)} {oc30 kV30 dc30 pm30 cd30 ct30 : Value}
    {f_z37 : Addr} {od31 an31 : Option Addr} {sl31 : Array (Option Value)} {oc31 kV31 dc31 pm31 cd31 ct31 : Value}
    {f_z45 : Addr} {od32 an32 : Option Addr} {sl32 : Array (Option Value)} {oc32 kV32 dc32 pm32 cd32 ct32 : Value}
    {f_z47 : Addr} {od33 an33 : Option Addr} {sl33 : Array (Option Value)} {oc33 kV33 dc33 pm33 cd33 ct33 : Value}
    {f_z35 : Addr} {od34 an34 : Option Addr} {sl34 : Array (Option Value)} {oc34 kV34 dc34 pm34 cd34 ct34 : Value}
    {f_z23 : Addr} {od35 an35 : Option Addr} {sl35 : Array (Option Value)} {oc35 kV35 dc35 pm35 cd35 ct35 : Value}
    {f_z12 : Addr} {od36 an36 : Option Addr} {sl36 : Array (Option Value)} {oc36 kV36 dc36 pm36 cd36 ct36 : Value}
    {f_z9 : Addr} {od37 an37 : Option Addr} {sl37 : Array (Option Value)} {oc37 kV37 dc37 pm37 cd37 ct37 : Value}
    {f_z6 : Addr} {od38 an38 : Option Addr} {sl38 : Array (Option Value)} {oc38 kV38 dc38 pm38 cd38 ct38 : Value}
    {f_z2 : Addr} {od39 an39 : Option Addr} {sl39 : Array (Option Value)} {oc39 kV39 dc39 pm39 cd39 ct39 : Value}
    {f_z10 : Addr} {od40 an40 : Option Addr} {sl40 : Array (Option Value)} {oc40 kV40 dc40 pm40 cd40 ct40 : Value}
    {f_z13 : Addr} {od41 an41 : Option Addr} {sl41 : Array (Option Value)} {oc41 kV41 dc41 pm41 cd41 ct41 : Value}
    {f_z5 : Addr} {od42 an42 : Option Addr} {sl42 : Array (Option Value)} {oc42 kV42 dc42 pm42 cd42 ct42 : Value}
    {f_z1 : Addr} {od43 an43 : Option Addr} {sl43 : Array (Option Value)} {oc43 kV43 dc43 pm43 cd43 ct43 : Value}
    {f_z3 : Addr} {od44 an44 : Option Addr} {sl44 : Array (Option Value)} {oc44 kV44 dc44 pm44 cd44 ct44 : Value}
    {f_z11 : Addr} {od45 an45 : Option Addr} {sl45 : Array (Option Value)} {oc45 kV45 dc45 pm45 cd45 ct45 : Value}
    {f_z20 : Addr} {od46 an46 : Option Addr} {sl46 : Array (Option Value)} {oc46 kV46 dc46 pm46 cd46 ct46 : Value}
    {f_z27 : Addr} {od47 an47 : Option Addr} {sl47 : Array (Option Value)} {oc47 kV47 dc47 pm47 cd47 ct47 : Value}
    {f_z39 : Addr} {od48 an48 : Option Addr} {sl48 : Array (Option Value)} {oc48 kV48 dc48 pm48 cd48 ct48 : Value}
    {f_z0 : Addr} {od49 an49 : Option Addr} {sl49 : Array (Option Value)} {oc49 kV49 dc49 pm49 cd49 ct49 : Value}
    {f_z4 : Addr} {od50 an50 : Option Addr} {sl50 : Array (Option Value)} {oc50 kV50 dc50 pm50 cd50 ct50 : Value}
    {f_z7 : Addr} {od51 an51 : Option Addr} {sl51 : Array (Option Value)} {oc51 kV51 dc51 pm51 cd51 ct51 : Value}
    {f_z8 : Addr} {od52 an52 : Option Addr} {sl52 : Array (Option Value)} {oc52 kV52 dc52 pm52 cd52 ct52 : Value}
    {f_z54 : Addr} {od53 an53 : Option Addr} {sl53 : Array (Option Value)} {oc53 kV53 dc53 pm53 cd53 ct53 : Value}
    {f_z48 : Addr} {od54 an54 : Option Addr} {sl54 : Array (Option Value)} {oc54 kV54 dc54 pm54 cd54 ct54 : Value}
    (ac_Reader : W.nsIn K mainGlobals "Reader" = some (some (.ref c_Reader)))
    (ac_Tariff : W.nsIn K mainGlobals "Tariff" = some (some (.ref c_Tariff)))
    (ac_Centre : W.nsIn K mainGlobals "Centre" = some (some (.ref c_Centre)))
    (ac_Line : W.nsIn K mainGlobals "Line" = some (some (.ref c_Line)))
    (g_NR_START : W.nsIn K mainGlobals "NR_START" = some (some (.int (0) t_NR_START)))
    (g_NR_TAP : W.nsIn K mainGlobals "NR_TAP" = some (some (.int (1) t_NR_TAP)))
    (g_NR_SEAL : W.nsIn K mainGlobals "NR_SEAL" = some (some (.int (2) t_NR_SEAL)))
    (g_NC_START : W.nsIn K mainGlobals "NC_START" = some (some (.int (4) t_NC_START)))
    (g_NC_HEARD : W.nsIn K mainGlobals "NC_HEARD" = some (some (.int (5) t_NC_HEARD)))
    (g_NC_LACKS : W.nsIn K mainGlobals "NC_LACKS" = some (some (.int (6) t_NC_LACKS)))
    (g_NC_BILL : W.nsIn K mainGlobals "NC_BILL" = some (some (.int (7) t_NC_BILL)))
    (g_MINUTE_LIMIT : W.nsIn K mainGlobals "MINUTE_LIMIT" = some (some (.int (2147483648) t_MINUTE_LIMIT)))
    (g_DAY_MINUTES : W.nsIn K mainGlobals "DAY_MINUTES" = some (some (.int (1440) t_DAY_MINUTES)))
    (g_ALL_ZONES : W.nsIn K mainGlobals "ALL_ZONES" = some (some (.int (255) t_ALL_ZONES)))
    (g_MOST_READERS : W.nsIn K mainGlobals "MOST_READERS" = some (some (.int (8) t_MOST_READERS)))
    (g_MOST_TAPS : W.nsIn K mainGlobals "MOST_TAPS" = some (some (.int (8192) t_MOST_TAPS)))
    (g_MOST_RIDES : W.nsIn K mainGlobals "MOST_RIDES" = some (some (.int (32) t_MOST_RIDES)))
    (g_TAP : W.nsIn K mainGlobals "TAP" = some (some (.int (1) t_TAP)))
    (g_SEAL : W.nsIn K mainGlobals "SEAL" = some (some (.int (2) t_SEAL)))
    (g_ALL_ONES : W.nsIn K mainGlobals "ALL_ONES" = some (some (.int (4294967295) t_ALL_ONES)))
    (g_POLYNOMIAL : W.nsIn K mainGlobals "POLYNOMIAL" = some (some (.int (2197175160) t_POLYNOMIAL)))
    (g_CHECK_PLACE : W.nsIn K mainGlobals "CHECK_PLACE" = some (some (.int (16) t_CHECK_PLACE)))
    (g_NOT_THERE : W.nsIn K mainGlobals "NOT_THERE" = some (some (.int (-2) t_NOT_THERE)))
    (g_NOTHING_LACKS : W.nsIn K mainGlobals "NOTHING_LACKS" = some (some (.int (-11) t_NOTHING_LACKS)))
    (g_TOO_EARLY : W.nsIn K mainGlobals "TOO_EARLY" = some (some (.int (-13) t_TOO_EARLY)))
    (g_WRONG_VALUE : W.nsIn K mainGlobals "WRONG_VALUE" = some (some (.int (-22) t_WRONG_VALUE)))
    (g_NO_ROOM : W.nsIn K mainGlobals "NO_ROOM" = some (some (.int (-28) t_NO_ROOM)))
    (g_WRONG_MESSAGE : W.nsIn K mainGlobals "WRONG_MESSAGE" = some (some (.int (-71) t_WRONG_MESSAGE)))
    (g_PRICE_LIMIT : W.nsIn K mainGlobals "PRICE_LIMIT" = some (some (.int (16777216) t_PRICE_LIMIT)))
    (g_MOST_PASSES : W.nsIn K mainGlobals "MOST_PASSES" = some (some (.int (3) t_MOST_PASSES)))
    (g_MOST_MINUTES : W.nsIn K mainGlobals "MOST_MINUTES" = some (some (.int (1440) t_MOST_MINUTES)))
    (g_LENGTHS : W.nsIn K mainGlobals "LENGTHS" = some (some (.ref u_LENGTHS)))
    (q_LENGTHS : K.lookup u_LENGTHS = some ⟨.type "dict", none, .dict #[⟨hashInt 0, .int (0) t_LENGTHS_0, .int (3) s_LENGTHS_0⟩, ⟨hashInt 1, .int (1) t_LENGTHS_1, .int (5) s_LENGTHS_1⟩, ⟨hashInt 2, .int (2) t_LENGTHS_2, .int (3) s_LENGTHS_2⟩, ⟨hashInt 3, .int (3) t_LENGTHS_3, .int (3) s_LENGTHS_3⟩, ⟨hashInt 6, .int (6) t_LENGTHS_4, .int (2) s_LENGTHS_4⟩, ⟨hashInt 7, .int (7) t_LENGTHS_5, .int (3) s_LENGTHS_5⟩, ⟨hashInt 8, .int (8) t_LENGTHS_6, .int (3) s_LENGTHS_6⟩] ep_LENGTHS, #[]⟩)
    (n_len : W.nsIn K mainGlobals "len" = some none)
    (n_sum : W.nsIn K mainGlobals "sum" = some none)
    (n_range : W.nsIn K mainGlobals "range" = some none)
    (n_enumerate : W.nsIn K mainGlobals "enumerate" = some none)
    (n_min : W.nsIn K mainGlobals "min" = some none)
    (n_sorted : W.nsIn K mainGlobals "sorted" = some none)
    (a0 : W.nsIn K mainGlobals "row_at" = some (some (.ref f_z52)))
    (l0 : K.lookup f_z52 = some ⟨oc0, od0, .func (W.fnOf "row_at" "row_at" (defArgs s_z52) (defBody s_z52) (defScope s_z52) .none kV0 dc0 pm0 an0 cd0 ct0), sl0⟩)
    (x0 : W.codeIn K cd0 "row_at" = true)
    (k0 : W.keepIn K (.ref f_z52) = true)
    (a1 : W.nsIn K mainGlobals "length_at" = some (some (.ref f_z34)))
    (l1 : K.lookup f_z34 = some ⟨oc1, od1, .func (W.fnOf "length_at" "length_at" (defArgs s_z34) (defBody s_z34) (defScope s_z34) .none kV1 dc1 pm1 an1 cd1 ct1), sl1⟩)
    (x1 : W.codeIn K cd1 "length_at" = true)
    (k1 : W.keepIn K (.ref f_z34) = true)
    (a2 : W.nsIn K mainGlobals "split_calls" = some (some (.ref f_z25)))
    (l2 : K.lookup f_z25 = some ⟨oc2, od2, .func (W.fnOf "split_calls" "split_calls" (defArgs s_z25) (defBody s_z25) (defScope s_z25) .none kV2 dc2 pm2 an2 cd2 ct2), sl2⟩)
    (x2 : W.codeIn K cd2 "split_calls" = true)
    (k2 : W.keepIn K (.ref f_z25) = true)
    (a3 : W.nsIn K mainGlobals "place_of" = some (some (.ref f_z41)))
    (l3 : K.lookup f_z41 = some ⟨oc3, od3, .func (W.fnOf "place_of" "place_of" (defArgs s_z41) (defBody s_z41) (defScope s_z41) .none kV3 dc3 pm3 an3 cd3 ct3), sl3⟩)
    (x3 : W.codeIn K cd3 "place_of" = true)
    (k3 : W.keepIn K (.ref f_z41) = true)
    (a4 : W.nsIn K mainGlobals "zone_count" = some (some (.ref f_z31)))
    (l4 : K.lookup f_z31 = some ⟨oc4, od4, .func (W.fnOf "zone_count" "zone_count" (defArgs s_z31) (defBody s_z31) (defScope s_z31) .none kV4 dc4 pm4 an4 cd4 ct4), sl4⟩)
    (x4 : W.codeIn K cd4 "zone_count" = true)
    (k4 : W.keepIn K (.ref f_z31) = true)
    (a5 : W.nsIn K mainGlobals "covers" = some (some (.ref f_z53)))
    (l5 : K.lookup f_z53 = some ⟨oc5, od5, .func (W.fnOf "covers" "covers" (defArgs s_z53) (defBody s_z53) (defScope s_z53) .none kV5 dc5 pm5 an5 cd5 ct5), sl5⟩)
    (x5 : W.codeIn K cd5 "covers" = true)
    (k5 : W.keepIn K (.ref f_z53) = true)
    (a6 : W.nsIn K mainGlobals "covered_from" = some (some (.ref f_z14)))
    (l6 : K.lookup f_z14 = some ⟨oc6, od6, .func (W.fnOf "covered_from" "covered_from" (defArgs s_z14) (defBody s_z14) (defScope s_z14) .none kV6 dc6 pm6 an6 cd6 ct6), sl6⟩)
    (x6 : W.codeIn K cd6 "covered_from" = true)
    (k6 : W.keepIn K (.ref f_z14) = true)
    (a7 : W.nsIn K mainGlobals "choices_at" = some (some (.ref f_z28)))
    (l7 : K.lookup f_z28 = some ⟨oc7, od7, .func (W.fnOf "choices_at" "choices_at" (defArgs s_z28) (defBody s_z28) (defScope s_z28) .none kV7 dc7 pm7 an7 cd7 ct7), sl7⟩)
    (x7 : W.codeIn K cd7 "choices_at" = true)
    (k7 : W.keepIn K (.ref f_z28) = true)
    (a8 : W.nsIn K mainGlobals "keep_better" = some (some (.ref f_z19)))
    (l8 : K.lookup f_z19 = some ⟨oc8, od8, .func (W.fnOf "keep_better" "keep_better" (defArgs s_z19) (defBody s_z19) (defScope s_z19) .none kV8 dc8 pm8 an8 cd8 ct8), sl8⟩)
    (x8 : W.codeIn K cd8 "keep_better" = true)
    (k8 : W.keepIn K (.ref f_z19) = true)
    (a9 : W.nsIn K mainGlobals "ways_behind" = some (some (.ref f_z17)))
    (l9 : K.lookup f_z17 = some ⟨oc9, od9, .func (W.fnOf "ways_behind" "ways_behind" (defArgs s_z17) (defBody s_z17) (defScope s_z17) .none kV9 dc9 pm9 an9 cd9 ct9), sl9⟩)
    (x9 : W.codeIn K cd9 "ways_behind" = true)
    (k9 : W.keepIn K (.ref f_z17) = true)
    (a10 : W.nsIn K mainGlobals "best_way" = some (some (.ref f_z40)))
    (l10 : K.lookup f_z40 = some ⟨oc10, od10, .func (W.fnOf "best_way" "best_way" (defArgs s_z40) (defBody s_z40) (defScope s_z40) .none kV10 dc10 pm10 an10 cd10 ct10), sl10⟩)
    (x10 : W.codeIn K cd10 "best_way" = true)
    (k10 : W.keepIn K (.ref f_z40) = true)
    (a11 : W.nsIn K mainGlobals "how_paid" = some (some (.ref f_z42)))
    (l11 : K.lookup f_z42 = some ⟨oc11, od11, .func (W.fnOf "how_paid" "how_paid" (defArgs s_z42) (defBody s_z42) (defScope s_z42) .none kV11 dc11 pm11 an11 cd11 ct11), sl11⟩)
    (x11 : W.codeIn K cd11 "how_paid" = true)
    (k11 : W.keepIn K (.ref f_z42) = true)
    (a12 : W.nsIn K mainGlobals "crc_32c" = some (some (.ref f_z46)))
    (l12 : K.lookup f_z46 = some ⟨oc12, od12, .func (W.fnOf "crc_32c" "crc_32c" (defArgs s_z46) (defBody s_z46) (defScope s_z46) .none kV12 dc12 pm12 an12 cd12 ct12), sl12⟩)
    (x12 : W.codeIn K cd12 "crc_32c" = true)
    (k12 : W.keepIn K (.ref f_z46) = true)
    (a13 : W.nsIn K mainGlobals "four_bytes" = some (some (.ref f_z30)))
    (l13 : K.lookup f_z30 = some ⟨oc13, od13, .func (W.fnOf "four_bytes" "four_bytes" (defArgs s_z30) (defBody s_z30) (defScope s_z30) .none kV13 dc13 pm13 an13 cd13 ct13), sl13⟩)
    (x13 : W.codeIn K cd13 "four_bytes" = true)
    (k13 : W.keepIn K (.ref f_z30) = true)
    (a14 : W.nsIn K mainGlobals "with_check" = some (some (.ref f_z29)))
    (l14 : K.lookup f_z29 = some ⟨oc14, od14, .func (W.fnOf "with_check" "with_check" (defArgs s_z29) (defBody s_z29) (defScope s_z29) .none kV14 dc14 pm14 an14 cd14 ct14), sl14⟩)
    (x14 : W.codeIn K cd14 "with_check" = true)
    (k14 : W.keepIn K (.ref f_z29) = true)
    (a15 : W.nsIn K mainGlobals "tap_message" = some (some (.ref f_z21)))
    (l15 : K.lookup f_z21 = some ⟨oc15, od15, .func (W.fnOf "tap_message" "tap_message" (defArgs s_z21) (defBody s_z21) (defScope s_z21) .none kV15 dc15 pm15 an15 cd15 ct15), sl15⟩)
    (x15 : W.codeIn K cd15 "tap_message" = true)
    (k15 : W.keepIn K (.ref f_z21) = true)
    (a16 : W.nsIn K mainGlobals "seal_message" = some (some (.ref f_z15)))
    (l16 : K.lookup f_z15 = some ⟨oc16, od16, .func (W.fnOf "seal_message" "seal_message" (defArgs s_z15) (defBody s_z15) (defScope s_z15) .none kV16 dc16 pm16 an16 cd16 ct16), sl16⟩)
    (x16 : W.codeIn K cd16 "seal_message" = true)
    (k16 : W.keepIn K (.ref f_z15) = true)
    (a17 : W.nsIn K mainGlobals "number_at" = some (some (.ref f_z36)))
    (l17 : K.lookup f_z36 = some ⟨oc17, od17, .func (W.fnOf "number_at" "number_at" (defArgs s_z36) (defBody s_z36) (defScope s_z36) .none kV17 dc17 pm17 an17 cd17 ct17), sl17⟩)
    (x17 : W.codeIn K cd17 "number_at" = true)
    (k17 : W.keepIn K (.ref f_z36) = true)
    (a18 : W.nsIn K mainGlobals "reader_of" = some (some (.ref f_z38)))
    (l18 : K.lookup f_z38 = some ⟨oc18, od18, .func (W.fnOf "reader_of" "reader_of" (defArgs s_z38) (defBody s_z38) (defScope s_z38) .none kV18 dc18 pm18 an18 cd18 ct18), sl18⟩)
    (x18 : W.codeIn K cd18 "reader_of" = true)
    (k18 : W.keepIn K (.ref f_z38) = true)
    (a19 : W.nsIn K mainGlobals "zones_of" = some (some (.ref f_z44)))
    (l19 : K.lookup f_z44 = some ⟨oc19, od19, .func (W.fnOf "zones_of" "zones_of" (defArgs s_z44) (defBody s_z44) (defScope s_z44) .none kV19 dc19 pm19 an19 cd19 ct19), sl19⟩)
    (x19 : W.codeIn K cd19 "zones_of" = true)
    (k19 : W.keepIn K (.ref f_z44) = true)
    (a20 : W.nsIn K mainGlobals "number_of" = some (some (.ref f_z33)))
    (l20 : K.lookup f_z33 = some ⟨oc20, od20, .func (W.fnOf "number_of" "number_of" (defArgs s_z33) (defBody s_z33) (defScope s_z33) .none kV20 dc20 pm20 an20 cd20 ct20), sl20⟩)
    (x20 : W.codeIn K cd20 "number_of" = true)
    (k20 : W.keepIn K (.ref f_z33) = true)
    (a21 : W.nsIn K mainGlobals "card_of" = some (some (.ref f_z49)))
    (l21 : K.lookup f_z49 = some ⟨oc21, od21, .func (W.fnOf "card_of" "card_of" (defArgs s_z49) (defBody s_z49) (defScope s_z49) .none kV21 dc21 pm21 an21 cd21 ct21), sl21⟩)
    (x21 : W.codeIn K cd21 "card_of" = true)
    (k21 : W.keepIn K (.ref f_z49) = true)
    (a22 : W.nsIn K mainGlobals "minute_of" = some (some (.ref f_z32)))
    (l22 : K.lookup f_z32 = some ⟨oc22, od22, .func (W.fnOf "minute_of" "minute_of" (defArgs s_z32) (defBody s_z32) (defScope s_z32) .none kV22 dc22 pm22 an22 cd22 ct22), sl22⟩)
    (x22 : W.codeIn K cd22 "minute_of" = true)
    (k22 : W.keepIn K (.ref f_z32) = true)
    (a23 : W.nsIn K mainGlobals "is_tap" = some (some (.ref f_z51)))
    (l23 : K.lookup f_z51 = some ⟨oc23, od23, .func (W.fnOf "is_tap" "is_tap" (defArgs s_z51) (defBody s_z51) (defScope s_z51) .none kV23 dc23 pm23 an23 cd23 ct23), sl23⟩)
    (x23 : W.codeIn K cd23 "is_tap" = true)
    (k23 : W.keepIn K (.ref f_z51) = true)
    (a24 : W.nsIn K mainGlobals "is_seal" = some (some (.ref f_z50)))
    (l24 : K.lookup f_z50 = some ⟨oc24, od24, .func (W.fnOf "is_seal" "is_seal" (defArgs s_z50) (defBody s_z50) (defScope s_z50) .none kV24 dc24 pm24 an24 cd24 ct24), sl24⟩)
    (x24 : W.codeIn K cd24 "is_seal" = true)
    (k24 : W.keepIn K (.ref f_z50) = true)
    (a25 : W.nsIn K mainGlobals "is_right" = some (some (.ref f_z43)))
    (l25 : K.lookup f_z43 = some ⟨oc25, od25, .func (W.fnOf "is_right" "is_right" (defArgs s_z43) (defBody s_z43) (defScope s_z43) .none kV25 dc25 pm25 an25 cd25 ct25), sl25⟩)
    (x25 : W.codeIn K cd25 "is_right" = true)
    (k25 : W.keepIn K (.ref f_z43) = true)
    (a26 : W.findIn K (.ref c_Reader) "__init__" = some (some (.ref f_z24)))
    (i26 : W.isFn K (.ref f_z24) = true)
    (l26 : K.lookup f_z24 = some ⟨oc26, od26, .func (W.fnOf "__init__" "Reader.__init__" (defArgs s_z24) (defBody s_z24) (defScope s_z24) .none kV26 dc26 pm26 an26 cd26 ct26), sl26⟩)
    (x26 : W.codeIn K cd26 "Reader.__init__" = true)
    (k26 : W.keepIn K (.ref f_z24) = true)
    (a27 : W.findIn K (.ref c_Reader) "tap" = some (some (.ref f_z26)))
    (i27 : W.isFn K (.ref f_z26) = true)
    (l27 : K.lookup f_z26 = some ⟨oc27, od27, .func (W.fnOf "tap" "Reader.tap" (defArgs s_z26) (defBody s_z26) (defScope s_z26) .none kV27 dc27 pm27 an27 cd27 ct27), sl27⟩)
    (x27 : W.codeIn K cd27 "Reader.tap" = true)
    (k27 : W.keepIn K (.ref f_z26) = true)
    (a28 : W.findIn K (.ref c_Reader) "seal" = some (some (.ref f_z22)))
    (i28 : W.isFn K (.ref f_z22) = true)
    (l28 : K.lookup f_z22 = some ⟨oc28, od28, .func (W.fnOf "seal" "Reader.seal" (defArgs s_z22) (defBody s_z22) (defScope s_z22) .none kV28 dc28 pm28 an28 cd28 ct28), sl28⟩)
    (x28 : W.codeIn K cd28 "Reader.seal" = true)
    (k28 : W.keepIn K (.ref f_z22) = true)
    (a29 : W.findIn K (.ref c_Reader) "again" = some (some (.ref f_z16)))
    (i29 : W.isFn K (.ref f_z16) = true)
    (l29 : K.lookup f_z16 = some ⟨oc29, od29, .func (W.fnOf "again" "Reader.again" (defArgs s_z16) (defBody s_z16) (defScope s_z16) .none kV29 dc29 pm29 an29 cd29 ct29), sl29⟩)
    (x29 : W.codeIn K cd29 "Reader.again" = true)
    (k29 : W.keepIn K (.ref f_z16) = true)
    (a30 : W.findIn K (.ref c_Tariff) "__init__" = some (some (.ref f_z18)))
    (i30 : W.isFn K (.ref f_z18) = true)
    (l30 : K.lookup f_z18 = some ⟨oc30, od30, .func (W.fnOf "__init__" "Tariff.__init__" (defArgs s_z18) (defBody s_z18) (defScope s_z18) .none kV30 dc30 pm30 an30 cd30 ct30), sl30⟩)
    (x30 : W.codeIn K cd30 "Tariff.__init__" = true)
    (k30 : W.keepIn K (.ref f_z18) = true)
    (a31 : W.nsIn K mainGlobals "passes_in" = some (some (.ref f_z37)))
    (l31 : K.lookup f_z37 = some ⟨oc31, od31, .func (W.fnOf "passes_in" "passes_in" (defArgs s_z37) (defBody s_z37) (defScope s_z37) .none kV31 dc31 pm31 an31 cd31 ct31), sl31⟩)
    (x31 : W.codeIn K cd31 "passes_in" = true)
    (k31 : W.keepIn K (.ref f_z37) = true)
    (a32 : W.nsIn K mainGlobals "is_price" = some (some (.ref f_z45)))
    (l32 : K.lookup f_z45 = some ⟨oc32, od32, .func (W.fnOf "is_price" "is_price" (defArgs s_z45) (defBody s_z45) (defScope s_z45) .none kV32 dc32 pm32 an32 cd32 ct32), sl32⟩)
    (x32 : W.codeIn K cd32 "is_price" = true)
    (k32 : W.keepIn K (.ref f_z45) = true)
    (a33 : W.nsIn K mainGlobals "is_pass" = some (some (.ref f_z47)))
    (l33 : K.lookup f_z47 = some ⟨oc33, od33, .func (W.fnOf "is_pass" "is_pass" (defArgs s_z47) (defBody s_z47) (defScope s_z47) .none kV33 dc33 pm33 an33 cd33 ct33), sl33⟩)
    (x33 : W.codeIn K cd33 "is_pass" = true)
    (k33 : W.keepIn K (.ref f_z47) = true)
    (a34 : W.nsIn K mainGlobals "is_tariff" = some (some (.ref f_z35)))
    (l34 : K.lookup f_z35 = some ⟨oc34, od34, .func (W.fnOf "is_tariff" "is_tariff" (defArgs s_z35) (defBody s_z35) (defScope s_z35) .none kV34 dc34 pm34 an34 cd34 ct34), sl34⟩)
    (x34 : W.codeIn K cd34 "is_tariff" = true)
    (k34 : W.keepIn K (.ref f_z35) = true)
    (a35 : W.findIn K (.ref c_Centre) "__init__" = some (some (.ref f_z23)))
    (i35 : W.isFn K (.ref f_z23) = true)
    (l35 : K.lookup f_z23 = some ⟨oc35, od35, .func (W.fnOf "__init__" "Centre.__init__" (defArgs s_z23) (defBody s_z23) (defScope s_z23) .none kV35 dc35 pm35 an35 cd35 ct35), sl35⟩)
    (x35 : W.codeIn K cd35 "Centre.__init__" = true)
    (k35 : W.keepIn K (.ref f_z23) = true)
    (a36 : W.findIn K (.ref c_Centre) "heard" = some (some (.ref f_z12)))
    (i36 : W.isFn K (.ref f_z12) = true)
    (l36 : K.lookup f_z12 = some ⟨oc36, od36, .func (W.fnOf "heard" "Centre.heard" (defArgs s_z12) (defBody s_z12) (defScope s_z12) .none kV36 dc36 pm36 an36 cd36 ct36), sl36⟩)
    (x36 : W.codeIn K cd36 "Centre.heard" = true)
    (k36 : W.keepIn K (.ref f_z12) = true)
    (a37 : W.findIn K (.ref c_Centre) "heard_tap" = some (some (.ref f_z9)))
    (i37 : W.isFn K (.ref f_z9) = true)
    (l37 : K.lookup f_z9 = some ⟨oc37, od37, .func (W.fnOf "heard_tap" "Centre.heard_tap" (defArgs s_z9) (defBody s_z9) (defScope s_z9) .none kV37 dc37 pm37 an37 cd37 ct37), sl37⟩)
    (x37 : W.codeIn K cd37 "Centre.heard_tap" = true)
    (k37 : W.keepIn K (.ref f_z9) = true)
    (a38 : W.findIn K (.ref c_Centre) "keep_ride" = some (some (.ref f_z6)))
    (i38 : W.isFn K (.ref f_z6) = true)
    (l38 : K.lookup f_z6 = some ⟨oc38, od38, .func (W.fnOf "keep_ride" "Centre.keep_ride" (defArgs s_z6) (defBody s_z6) (defScope s_z6) .none kV38 dc38 pm38 an38 cd38 ct38), sl38⟩)
    (x38 : W.codeIn K cd38 "Centre.keep_ride" = true)
    (k38 : W.keepIn K (.ref f_z6) = true)
    (a39 : W.findIn K (.ref c_Centre) "heard_seal" = some (some (.ref f_z2)))
    (i39 : W.isFn K (.ref f_z2) = true)
    (l39 : K.lookup f_z2 = some ⟨oc39, od39, .func (W.fnOf "heard_seal" "Centre.heard_seal" (defArgs s_z2) (defBody s_z2) (defScope s_z2) .none kV39 dc39 pm39 an39 cd39 ct39), sl39⟩)
    (x39 : W.codeIn K cd39 "Centre.heard_seal" = true)
    (k39 : W.keepIn K (.ref f_z2) = true)
    (a40 : W.findIn K (.ref c_Centre) "has_gap" = some (some (.ref f_z10)))
    (i40 : W.isFn K (.ref f_z10) = true)
    (l40 : K.lookup f_z10 = some ⟨oc40, od40, .func (W.fnOf "has_gap" "Centre.has_gap" (defArgs s_z10) (defBody s_z10) (defScope s_z10) .none kV40 dc40 pm40 an40 cd40 ct40), sl40⟩)
    (x40 : W.codeIn K cd40 "Centre.has_gap" = true)
    (k40 : W.keepIn K (.ref f_z10) = true)
    (a41 : W.findIn K (.ref c_Centre) "lacks" = some (some (.ref f_z13)))
    (i41 : W.isFn K (.ref f_z13) = true)
    (l41 : K.lookup f_z13 = some ⟨oc41, od41, .func (W.fnOf "lacks" "Centre.lacks" (defArgs s_z13) (defBody s_z13) (defScope s_z13) .none kV41 dc41 pm41 an41 cd41 ct41), sl41⟩)
    (x41 : W.codeIn K cd41 "Centre.lacks" = true)
    (k41 : W.keepIn K (.ref f_z13) = true)
    (a42 : W.findIn K (.ref c_Centre) "is_closed" = some (some (.ref f_z5)))
    (i42 : W.isFn K (.ref f_z5) = true)
    (l42 : K.lookup f_z5 = some ⟨oc42, od42, .func (W.fnOf "is_closed" "Centre.is_closed" (defArgs s_z5) (defBody s_z5) (defScope s_z5) .none kV42 dc42 pm42 an42 cd42 ct42), sl42⟩)
    (x42 : W.codeIn K cd42 "Centre.is_closed" = true)
    (k42 : W.keepIn K (.ref f_z5) = true)
    (a43 : W.findIn K (.ref c_Centre) "ride_count" = some (some (.ref f_z1)))
    (i43 : W.isFn K (.ref f_z1) = true)
    (l43 : K.lookup f_z1 = some ⟨oc43, od43, .func (W.fnOf "ride_count" "Centre.ride_count" (defArgs s_z1) (defBody s_z1) (defScope s_z1) .none kV43 dc43 pm43 an43 cd43 ct43), sl43⟩)
    (x43 : W.codeIn K cd43 "Centre.ride_count" = true)
    (k43 : W.keepIn K (.ref f_z1) = true)
    (a44 : W.findIn K (.ref c_Centre) "refusal_of" = some (some (.ref f_z3)))
    (i44 : W.isFn K (.ref f_z3) = true)
    (l44 : K.lookup f_z3 = some ⟨oc44, od44, .func (W.fnOf "refusal_of" "Centre.refusal_of" (defArgs s_z3) (defBody s_z3) (defScope s_z3) .none kV44 dc44 pm44 an44 cd44 ct44), sl44⟩)
    (x44 : W.codeIn K cd44 "Centre.refusal_of" = true)
    (k44 : W.keepIn K (.ref f_z3) = true)
    (a45 : W.findIn K (.ref c_Centre) "way_of" = some (some (.ref f_z11)))
    (i45 : W.isFn K (.ref f_z11) = true)
    (l45 : K.lookup f_z11 = some ⟨oc45, od45, .func (W.fnOf "way_of" "Centre.way_of" (defArgs s_z11) (defBody s_z11) (defScope s_z11) .none kV45 dc45 pm45 an45 cd45 ct45), sl45⟩)
    (x45 : W.codeIn K cd45 "Centre.way_of" = true)
    (k45 : W.keepIn K (.ref f_z11) = true)
    (a46 : W.findIn K (.ref c_Centre) "bill" = some (some (.ref f_z20)))
    (i46 : W.isFn K (.ref f_z20) = true)
    (l46 : K.lookup f_z20 = some ⟨oc46, od46, .func (W.fnOf "bill" "Centre.bill" (defArgs s_z20) (defBody s_z20) (defScope s_z20) .none kV46 dc46 pm46 an46 cd46 ct46), sl46⟩)
    (x46 : W.codeIn K cd46 "Centre.bill" = true)
    (k46 : W.keepIn K (.ref f_z20) = true)
    (a47 : W.findIn K (.ref c_Centre) "how" = some (some (.ref f_z27)))
    (i47 : W.isFn K (.ref f_z27) = true)
    (l47 : K.lookup f_z27 = some ⟨oc47, od47, .func (W.fnOf "how" "Centre.how" (defArgs s_z27) (defBody s_z27) (defScope s_z27) .none kV47 dc47 pm47 an47 cd47 ct47), sl47⟩)
    (x47 : W.codeIn K cd47 "Centre.how" = true)
    (k47 : W.keepIn K (.ref f_z27) = true)
    (a48 : W.findIn K (.ref c_Line) "__init__" = some (some (.ref f_z39)))
    (i48 : W.isFn K (.ref f_z39) = true)
    (l48 : K.lookup f_z39 = some ⟨oc48, od48, .func (W.fnOf "__init__" "Line.__init__" (defArgs s_z39) (defBody s_z39) (defScope s_z39) .none kV48 dc48 pm48 an48 cd48 ct48), sl48⟩)
    (x48 : W.codeIn K cd48 "Line.__init__" = true)
    (k48 : W.keepIn K (.ref f_z39) = true)
    (a49 : W.findIn K (.ref c_Line) "start_reader" = some (some (.ref f_z0)))
    (i49 : W.isFn K (.ref f_z0) = true)
    (l49 : K.lookup f_z0 = some ⟨oc49, od49, .func (W.fnOf "start_reader" "Line.start_reader" (defArgs s_z0) (defBody s_z0) (defScope s_z0) .none kV49 dc49 pm49 an49 cd49 ct49), sl49⟩)
    (x49 : W.codeIn K cd49 "Line.start_reader" = true)
    (k49 : W.keepIn K (.ref f_z0) = true)
    (a50 : W.findIn K (.ref c_Line) "start_centre" = some (some (.ref f_z4)))
    (i50 : W.isFn K (.ref f_z4) = true)
    (l50 : K.lookup f_z4 = some ⟨oc50, od50, .func (W.fnOf "start_centre" "Line.start_centre" (defArgs s_z4) (defBody s_z4) (defScope s_z4) .none kV50 dc50 pm50 an50 cd50 ct50), sl50⟩)
    (x50 : W.codeIn K cd50 "Line.start_centre" = true)
    (k50 : W.keepIn K (.ref f_z4) = true)
    (a51 : W.nsIn K mainGlobals "answer_of_reader" = some (some (.ref f_z7)))
    (l51 : K.lookup f_z7 = some ⟨oc51, od51, .func (W.fnOf "answer_of_reader" "answer_of_reader" (defArgs s_z7) (defBody s_z7) (defScope s_z7) .none kV51 dc51 pm51 an51 cd51 ct51), sl51⟩)
    (x51 : W.codeIn K cd51 "answer_of_reader" = true)
    (k51 : W.keepIn K (.ref f_z7) = true)
    (a52 : W.nsIn K mainGlobals "answer_of_centre" = some (some (.ref f_z8)))
    (l52 : K.lookup f_z8 = some ⟨oc52, od52, .func (W.fnOf "answer_of_centre" "answer_of_centre" (defArgs s_z8) (defBody s_z8) (defScope s_z8) .none kV52 dc52 pm52 an52 cd52 ct52), sl52⟩)
    (x52 : W.codeIn K cd52 "answer_of_centre" = true)
    (k52 : W.keepIn K (.ref f_z8) = true)
    (a53 : W.nsIn K mainGlobals "answer" = some (some (.ref f_z54)))
    (l53 : K.lookup f_z54 = some ⟨oc53, od53, .func (W.fnOf "answer" "answer" (defArgs s_z54) (defBody s_z54) (defScope s_z54) .none kV53 dc53 pm53 an53 cd53 ct53), sl53⟩)
    (x53 : W.codeIn K cd53 "answer" = true)
    (k53 : W.keepIn K (.ref f_z54) = true)
    (a54 : W.nsIn K mainGlobals "answers" = some (some (.ref f_z48)))
    (l54 : K.lookup f_z48 = some ⟨oc54, od54, .func (W.fnOf "answers" "answers" (defArgs s_z48) (defBody s_z48) (defScope s_z48) .none kV54 dc54 pm54 an54 cd54 ct54), sl54⟩)
    (x54 : W.codeIn K cd54 "answers" = true)
    (k54 : W.keepIn K (.ref f_z48) = true)
    (pg_Reader : W.plainGet K c_Reader Str.empty = true)
    (hd_Reader : W.hasDictIn K c_Reader = true)
    (po_Reader : W.plainOver K c_Reader = true)
    (sa_Reader : W.findIn K (.ref c_Reader) "__setattr__" = some (some (.builtin "object.__setattr__")))
    (mk_Reader : W.makesIn K c_Reader = true)
    (kc_Reader : W.keepIn K (.ref c_Reader) = true)
    (na_Reader_me : W.findIn K (.ref c_Reader) "me" = some none)
    (na_Reader_taps : W.findIn K (.ref c_Reader) "taps" = some none)
    (na_Reader_greatest : W.findIn K (.ref c_Reader) "greatest" = some none)
    (pg_Tariff : W.plainGet K c_Tariff Str.empty = true)
    (hd_Tariff : W.hasDictIn K c_Tariff = true)
    (po_Tariff : W.plainOver K c_Tariff = true)
    (sa_Tariff : W.findIn K (.ref c_Tariff) "__setattr__" = some (some (.builtin "object.__setattr__")))
    (mk_Tariff : W.makesIn K c_Tariff = true)
    (kc_Tariff : W.keepIn K (.ref c_Tariff) = true)
    (na_Tariff_single : W.findIn K (.ref c_Tariff) "single" = some none)
    (na_Tariff_passes : W.findIn K (.ref c_Tariff) "passes" = some none)
    (pg_Centre : W.plainGet K c_Centre Str.empty = true)
    (hd_Centre : W.hasDictIn K c_Centre = true)
    (po_Centre : W.plainOver K c_Centre = true)
    (sa_Centre : W.findIn K (.ref c_Centre) "__setattr__" = some (some (.builtin "object.__setattr__")))
    (mk_Centre : W.makesIn K c_Centre = true)
    (kc_Centre : W.keepIn K (.ref c_Centre) = true)
    (na_Centre_reader_count : W.findIn K (.ref c_Centre) "reader_count" = some none)
    (na_Centre_tariff : W.findIn K (.ref c_Centre) "tariff" = some none)
    (na_Centre_taps : W.findIn K (.ref c_Centre) "taps" = some none)
    (na_Centre_seals : W.findIn K (.ref c_Centre) "seals" = some none)
    (na_Centre_unheard : W.findIn K (.ref c_Centre) "unheard" = some none)
    (na_Centre_rides : W.findIn K (.ref c_Centre) "rides" = some none)
    (na_Centre_ways : W.findIn K (.ref c_Centre) "ways" = some none)
    (pg_Line : W.plainGet K c_Line Str.empty = true)
    (hd_Line : W.hasDictIn K c_Line = true)
    (po_Line : W.plainOver K c_Line = true)
    (sa_Line : W.findIn K (.ref c_Line) "__setattr__" = some (some (.builtin "object.__setattr__")))
    (mk_Line : W.makesIn K c_Line = true)
    (kc_Line : W.keepIn K (.ref c_Line) = true)
    (na_Line_readers : W.findIn K (.ref c_Line) "readers" = some none)
    (na_Line_centre : W.findIn K (.ref c_Line) "centre" = some none)
    : ∃ a : Ad, Tx K mg a ∧ a.f_z48 = fa := by
  have e := hfa.symm.trans (W.mg_of X G a54)
  have e2 : f_z48 = fa := by
    cases e
    rfl
  refine ⟨{ t_LENGTHS := u_LENGTHS, f_z52 := f_z52, d_z52 := W.fnOf "row_at" "row_at" (defArgs s_z52) (defBody s_z52) (defScope s_z52) .none kV0 dc0 pm0 an0 cd0 ct0, f_z34 := f_z34, d_z34 := W.fnOf "length_at" "length_at" (defArgs s_z34) (defBody s_z34) (defScope s_z34) .none kV1 dc1 pm1 an1 cd1 ct1, f_z25 := f_z25, d_z25 := W.fnOf "split_calls" "split_calls" (defArgs s_z25) (defBody s_z25) (defScope s_z25) .none kV2 dc2 pm2 an2 cd2 ct2, f_z41 := f_z41, d_z41 := W.fnOf "place_of" "place_of" (defArgs s_z41) (defBody s_z41) (defScope s_z41) .none kV3 dc3 pm3 an3 cd3 ct3, f_z31 := f_z31, d_z31 := W.fnOf "zone_count" "zone_count" (defArgs s_z31) (defBody s_z31) (defScope s_z31) .none kV4 dc4 pm4 an4 cd4 ct4, f_z53 := f_z53, d_z53 := W.fnOf "covers" "covers" (defArgs s_z53) (defBody s_z53) (defScope s_z53) .none kV5 dc5 pm5 an5 cd5 ct5, f_z14 := f_z14, d_z14 := W.fnOf "covered_from" "covered_from" (defArgs s_z14) (defBody s_z14) (defScope s_z14) .none kV6 dc6 pm6 an6 cd6 ct6, f_z28 := f_z28, d_z28 := W.fnOf "choices_at" "choices_at" (defArgs s_z28) (defBody s_z28) (defScope s_z28) .none kV7 dc7 pm7 an7 cd7 ct7, f_z19 := f_z19, d_z19 := W.fnOf "keep_better" "keep_better" (defArgs s_z19) (defBody s_z19) (defScope s_z19) .none kV8 dc8 pm8 an8 cd8 ct8, f_z17 := f_z17, d_z17 := W.fnOf "ways_behind" "ways_behind" (defArgs s_z17) (defBody s_z17) (defScope s_z17) .none kV9 dc9 pm9 an9 cd9 ct9, f_z40 := f_z40, d_z40 := W.fnOf "best_way" "best_way" (defArgs s_z40) (defBody s_z40) (defScope s_z40) .none kV10 dc10 pm10 an10 cd10 ct10, f_z42 := f_z42, d_z42 := W.fnOf "how_paid" "how_paid" (defArgs s_z42) (defBody s_z42) (defScope s_z42) .none kV11 dc11 pm11 an11 cd11 ct11, f_z46 := f_z46, d_z46 := W.fnOf "crc_32c" "crc_32c" (defArgs s_z46) (defBody s_z46) (defScope s_z46) .none kV12 dc12 pm12 an12 cd12 ct12, f_z30 := f_z30, d_z30 := W.fnOf "four_bytes" "four_bytes" (defArgs s_z30) (defBody s_z30) (defScope s_z30) .none kV13 dc13 pm13 an13 cd13 ct13, f_z29 := f_z29, d_z29 := W.fnOf "with_check" "with_check" (defArgs s_z29) (defBody s_z29) (defScope s_z29) .none kV14 dc14 pm14 an14 cd14 ct14, f_z21 := f_z21, d_z21 := W.fnOf "tap_message" "tap_message" (defArgs s_z21) (defBody s_z21) (defScope s_z21) .none kV15 dc15 pm15 an15 cd15 ct15, f_z15 := f_z15, d_z15 := W.fnOf "seal_message" "seal_message" (defArgs s_z15) (defBody s_z15) (defScope s_z15) .none kV16 dc16 pm16 an16 cd16 ct16, f_z36 := f_z36, d_z36 := W.fnOf "number_at" "number_at" (defArgs s_z36) (defBody s_z36) (defScope s_z36) .none kV17 dc17 pm17 an17 cd17 ct17, f_z38 := f_z38, d_z38 := W.fnOf "reader_of" "reader_of" (defArgs s_z38) (defBody s_z38) (defScope s_z38) .none kV18 dc18 pm18 an18 cd18 ct18, f_z44 := f_z44, d_z44 := W.fnOf "zones_of" "zones_of" (defArgs s_z44) (defBody s_z44) (defScope s_z44) .none kV19 dc19 pm19 an19 cd19 ct19, f_z33 := f_z33, d_z33 := W.fnOf "number_of" "number_of" (defArgs s_z33) (defBody s_z33) (defScope s_z33) .none kV20 dc20 pm20 an20 cd20 ct20, f_z49 := f_z49, d_z49 := W.fnOf "card_of" "card_of" (defArgs s_z49) (defBody s_z49) (defScope s_z49) .none kV21 dc21 pm21 an21 cd21 ct21, f_z32 := f_z32, d_z32 := W.fnOf "minute_of" "minute_of" (defArgs s_z32) (defBody s_z32) (defScope s_z32) .none kV22 dc22 pm22 an22 cd22 ct22, f_z51 := f_z51, d_z51 := W.fnOf "is_tap" "is_tap" (defArgs s_z51) (defBody s_z51) (defScope s_z51) .none kV23 dc23 pm23 an23 cd23 ct23, f_z50 := f_z50, d_z50 := W.fnOf "is_seal" "is_seal" (defArgs s_z50) (defBody s_z50) (defScope s_z50) .none kV24 dc24 pm24 an24 cd24 ct24, f_z43 := f_z43, d_z43 := W.fnOf "is_right" "is_right" (defArgs s_z43) (defBody s_z43) (defScope s_z43) .none kV25 dc25 pm25 an25 cd25 ct25, f_z24 := f_z24, d_z24 := W.fnOf "__init__" "Reader.__init__" (defArgs s_z24) (defBody s_z24) (defScope s_z24) .none kV26 dc26 pm26 an26 cd26 ct26, f_z26 := f_z26, d_z26 := W.fnOf "tap" "Reader.tap" (defArgs s_z26) (defBody s_z26) (defScope s_z26) .none kV27 dc27 pm27 an27 cd27 ct27, f_z22 := f_z22, d_z22 := W.fnOf "seal" "Reader.seal" (defArgs s_z22) (defBody s_z22) (defScope s_z22) .none kV28 dc28 pm28 an28 cd28 ct28, f_z16 := f_z16, d_z16 := W.fnOf "again" "Reader.again" (defArgs s_z16) (defBody s_z16) (defScope s_z16) .none kV29 dc29 pm29 an29 cd29 ct29, f_z18 := f_z18, d_z18 := W.fnOf "__init__" "Tariff.__init__" (defArgs s_z18) (defBody s_z18) (defScope s_z18) .none kV30 dc30 pm30 an30 cd30 ct30, f_z37 := f_z37, d_z37 := W.fnOf "passes_in" "passes_in" (defArgs s_z37) (defBody s_z37) (defScope s_z37) .none kV31 dc31 pm31 an31 cd31 ct31, f_z45 := f_z45, d_z45 := W.fnOf "is_price" "is_price" (defArgs s_z45) (defBody s_z45) (defScope s_z45) .none kV32 dc32 pm32 an32 cd32 ct32, f_z47 := f_z47, d_z47 := W.fnOf "is_pass" "is_pass" (defArgs s_z47) (defBody s_z47) (defScope s_z47) .none kV33 dc33 pm33 an33 cd33 ct33, f_z35 := f_z35, d_z35 := W.fnOf "is_tariff" "is_tariff" (defArgs s_z35) (defBody s_z35) (defScope s_z35) .none kV34 dc34 pm34 an34 cd34 ct34, f_z23 := f_z23, d_z23 := W.fnOf "__init__" "Centre.__init__" (defArgs s_z23) (defBody s_z23) (defScope s_z23) .none kV35 dc35 pm35 an35 cd35 ct35, f_z12 := f_z12, d_z12 := W.fnOf "heard" "Centre.heard" (defArgs s_z12) (defBody s_z12) (defScope s_z12) .none kV36 dc36 pm36 an36 cd36 ct36, f_z9 := f_z9, d_z9 := W.fnOf "heard_tap" "Centre.heard_tap" (defArgs s_z9) (defBody s_z9) (defScope s_z9) .none kV37 dc37 pm37 an37 cd37 ct37, f_z6 := f_z6, d_z6 := W.fnOf "keep_ride" "Centre.keep_ride" (defArgs s_z6) (defBody s_z6) (defScope s_z6) .none kV38 dc38 pm38 an38 cd38 ct38, f_z2 := f_z2, d_z2 := W.fnOf "heard_seal" "Centre.heard_seal" (defArgs s_z2) (defBody s_z2) (defScope s_z2) .none kV39 dc39 pm39 an39 cd39 ct39, f_z10 := f_z10, d_z10 := W.fnOf "has_gap" "Centre.has_gap" (defArgs s_z10) (defBody s_z10) (defScope s_z10) .none kV40 dc40 pm40 an40 cd40 ct40, f_z13 := f_z13, d_z13 := W.fnOf "lacks" "Centre.lacks" (defArgs s_z13) (defBody s_z13) (defScope s_z13) .none kV41 dc41 pm41 an41 cd41 ct41, f_z5 := f_z5, d_z5 := W.fnOf "is_closed" "Centre.is_closed" (defArgs s_z5) (defBody s_z5) (defScope s_z5) .none kV42 dc42 pm42 an42 cd42 ct42, f_z1 := f_z1, d_z1 := W.fnOf "ride_count" "Centre.ride_count" (defArgs s_z1) (defBody s_z1) (defScope s_z1) .none kV43 dc43 pm43 an43 cd43 ct43, f_z3 := f_z3, d_z3 := W.fnOf "refusal_of" "Centre.refusal_of" (defArgs s_z3) (defBody s_z3) (defScope s_z3) .none kV44 dc44 pm44 an44 cd44 ct44, f_z11 := f_z11, d_z11 := W.fnOf "way_of" "Centre.way_of" (defArgs s_z11) (defBody s_z11) (defScope s_z11) .none kV45 dc45 pm45 an45 cd45 ct45, f_z20 := f_z20, d_z20 := W.fnOf "bill" "Centre.bill" (defArgs s_z20) (defBody s_z20) (defScope s_z20) .none kV46 dc46 pm46 an46 cd46 ct46, f_z27 := f_z27, d_z27 := W.fnOf "how" "Centre.how" (defArgs s_z27) (defBody s_z27) (defScope s_z27) .none kV47 dc47 pm47 an47 cd47 ct47, f_z39 := f_z39, d_z39 := W.fnOf "__init__" "Line.__init__" (defArgs s_z39) (defBody s_z39) (defScope s_z39) .none kV48 dc48 pm48 an48 cd48 ct48, f_z0 := f_z0, d_z0 := W.fnOf "start_reader" "Line.start_reader" (defArgs s_z0) (defBody s_z0) (defScope s_z0) .none kV49 dc49 pm49 an49 cd49 ct49, f_z4 := f_z4, d_z4 := W.fnOf "start_centre" "Line.start_centre" (defArgs s_z4) (defBody s_z4) (defScope s_z4) .none kV50 dc50 pm50 an50 cd50 ct50, f_z7 := f_z7, d_z7 := W.fnOf "answer_of_reader" "answer_of_reader" (defArgs s_z7) (defBody s_z7) (defScope s_z7) .none kV51 dc51 pm51 an51 cd51 ct51, f_z8 := f_z8, d_z8 := W.fnOf "answer_of_centre" "answer_of_centre" (defArgs s_z8) (defBody s_z8) (defScope s_z8) .none kV52 dc52 pm52 an52 cd52 ct52, f_z54 := f_z54, d_z54 := W.fnOf "answer" "answer" (defArgs s_z54) (defBody s_z54) (defScope s_z54) .none kV53 dc53 pm53 an53 cd53 ct53, f_z48 := f_z48, d_z48 := W.fnOf "answers" "answers" (defArgs s_z48) (defBody s_z48) (defScope s_z48) .none kV54 dc54 pm54 an54 cd54 ct54, c_Reader := c_Reader, c_Tariff := c_Tariff, c_Centre := c_Centre, c_Line := c_Line }, ?_, e2⟩
  exact {
    g_NR_START := ⟨_, W.mg_of X G g_NR_START⟩
    g_NR_TAP := ⟨_, W.mg_of X G g_NR_TAP⟩
    g_NR_SEAL := ⟨_, W.mg_of X G g_NR_SEAL⟩
    g_NC_START := ⟨_, W.mg_of X G g_NC_START⟩
    g_NC_HEARD := ⟨_, W.mg_of X G g_NC_HEARD⟩
    g_NC_LACKS := ⟨_, W.mg_of X G g_NC_LACKS⟩
    g_NC_BILL := ⟨_, W.mg_of X G g_NC_BILL⟩
    g_MINUTE_LIMIT := ⟨_, W.mg_of X G g_MINUTE_LIMIT⟩
    g_DAY_MINUTES := ⟨_, W.mg_of X G g_DAY_MINUTES⟩
    g_ALL_ZONES := ⟨_, W.mg_of X G g_ALL_ZONES⟩
    g_MOST_READERS := ⟨_, W.mg_of X G g_MOST_READERS⟩
    g_MOST_TAPS := ⟨_, W.mg_of X G g_MOST_TAPS⟩
    g_MOST_RIDES := ⟨_, W.mg_of X G g_MOST_RIDES⟩
    g_TAP := ⟨_, W.mg_of X G g_TAP⟩
    g_SEAL := ⟨_, W.mg_of X G g_SEAL⟩
    g_ALL_ONES := ⟨_, W.mg_of X G g_ALL_ONES⟩
    g_POLYNOMIAL := ⟨_, W.mg_of X G g_POLYNOMIAL⟩
    g_CHECK_PLACE := ⟨_, W.mg_of X G g_CHECK_PLACE⟩
    g_NOT_THERE := ⟨_, W.mg_of X G g_NOT_THERE⟩
    g_NOTHING_LACKS := ⟨_, W.mg_of X G g_NOTHING_LACKS⟩
    g_TOO_EARLY := ⟨_, W.mg_of X G g_TOO_EARLY⟩
    g_WRONG_VALUE := ⟨_, W.mg_of X G g_WRONG_VALUE⟩
    g_NO_ROOM := ⟨_, W.mg_of X G g_NO_ROOM⟩
    g_WRONG_MESSAGE := ⟨_, W.mg_of X G g_WRONG_MESSAGE⟩
    g_PRICE_LIMIT := ⟨_, W.mg_of X G g_PRICE_LIMIT⟩
    g_MOST_PASSES := ⟨_, W.mg_of X G g_MOST_PASSES⟩
    g_MOST_MINUTES := ⟨_, W.mg_of X G g_MOST_MINUTES⟩
    g_LENGTHS := W.mg_of X G g_LENGTHS
    q_LENGTHS := ⟨⟨_, _, q_LENGTHS, (.cons (0) (3) _ _ (.cons (1) (5) _ _ (.cons (2) (3) _ _ (.cons (3) (3) _ _ (.cons (6) (2) _ _ (.cons (7) (3) _ _ (.cons (8) (3) _ _ .nil)))))))⟩, by decide⟩
    n_len := W.mg_none_of X G n_len
    n_sum := W.mg_none_of X G n_sum
    n_range := W.mg_none_of X G n_range
    n_enumerate := W.mg_none_of X G n_enumerate
    n_min := W.mg_none_of X G n_min
    n_sorted := W.mg_none_of X G n_sorted
    F_z52 := fun_mk (st := s_z52) l0 x0 k0
    b_z52 := (fun_mk (st := s_z52) l0 x0 k0).binds (ps := ["numbers", "place"]) (fun _ _ _ _ _ _ us hl => by obtain ⟨_, _, rfl⟩ := len2 hl; rfl)
    m_z52 := W.mg_of X G a0
    F_z34 := fun_mk (st := s_z34) l1 x1 k1
    b_z34 := (fun_mk (st := s_z34) l1 x1 k1).binds (ps := ["calls", "place"]) (fun _ _ _ _ _ _ us hl => by obtain ⟨_, _, rfl⟩ := len2 hl; rfl)
    m_z34 := W.mg_of X G a1
    F_z25 := fun_mk (st := s_z25) l2 x2 k2
    b_z25 := (fun_mk (st := s_z25) l2 x2 k2).binds (ps := ["calls"]) (fun _ _ _ _ _ _ us hl => by obtain ⟨_, rfl⟩ := len1 hl; rfl)
    m_z25 := W.mg_of X G a2
    F_z41 := fun_mk (st := s_z41) l3 x3 k3
    b_z41 := (fun_mk (st := s_z41) l3 x3 k3).binds (ps := ["ride"]) (fun _ _ _ _ _ _ us hl => by obtain ⟨_, rfl⟩ := len1 hl; rfl)
    m_z41 := W.mg_of X G a3
    F_z31 := fun_mk (st := s_z31) l4 x4 k4
    b_z31 := (fun_mk (st := s_z31) l4 x4 k4).binds (ps := ["zones"]) (fun _ _ _ _ _ _ us hl => by obtain ⟨_, rfl⟩ := len1 hl; rfl)
    m_z31 := W.mg_of X G a4
    F_z53 := fun_mk (st := s_z53) l5 x5 k5
    b_z53 := (fun_mk (st := s_z53) l5 x5 k5).binds (ps := ["minutes", "pass_zones", "bought", "minute", "zones"]) (fun _ _ _ _ _ _ us hl => by obtain ⟨_, _, _, _, _, rfl⟩ := len5 hl; rfl)
    m_z53 := W.mg_of X G a5
    F_z14 := fun_mk (st := s_z14) l6 x6 k6
    b_z14 := (fun_mk (st := s_z14) l6 x6 k6).binds (ps := ["rides", "first", "minutes", "pass_zones"]) (fun _ _ _ _ _ _ us hl => by obtain ⟨_, _, _, _, rfl⟩ := len4 hl; rfl)
    m_z14 := W.mg_of X G a6
    F_z28 := fun_mk (st := s_z28) l7 x7 k7
    b_z28 := (fun_mk (st := s_z28) l7 x7 k7).binds (ps := ["tariff", "rides", "ride"]) (fun _ _ _ _ _ _ us hl => by obtain ⟨_, _, _, rfl⟩ := len3 hl; rfl)
    m_z28 := W.mg_of X G a7
    F_z19 := fun_mk (st := s_z19) l8 x8 k8
    b_z19 := (fun_mk (st := s_z19) l8 x8 k8).binds (ps := ["ways", "paid", "way"]) (fun _ _ _ _ _ _ us hl => by obtain ⟨_, _, _, rfl⟩ := len3 hl; rfl)
    m_z19 := W.mg_of X G a8
    F_z17 := fun_mk (st := s_z17) l9 x9 k9
    b_z17 := (fun_mk (st := s_z17) l9 x9 k9).binds (ps := ["ways", "mark", "choices"]) (fun _ _ _ _ _ _ us hl => by obtain ⟨_, _, _, rfl⟩ := len3 hl; rfl)
    m_z17 := W.mg_of X G a9
    F_z40 := fun_mk (st := s_z40) l10 x10 k10
    b_z40 := (fun_mk (st := s_z40) l10 x10 k10).binds (ps := ["tariff", "rides"]) (fun _ _ _ _ _ _ us hl => by obtain ⟨_, _, rfl⟩ := len2 hl; rfl)
    m_z40 := W.mg_of X G a10
    F_z42 := fun_mk (st := s_z42) l11 x11 k11
    b_z42 := (fun_mk (st := s_z42) l11 x11 k11).binds (ps := ["how"]) (fun _ _ _ _ _ _ us hl => by obtain ⟨_, rfl⟩ := len1 hl; rfl)
    m_z42 := W.mg_of X G a11
    F_z46 := fun_mk (st := s_z46) l12 x12 k12
    b_z46 := (fun_mk (st := s_z46) l12 x12 k12).binds (ps := ["data"]) (fun _ _ _ _ _ _ us hl => by obtain ⟨_, rfl⟩ := len1 hl; rfl)
    m_z46 := W.mg_of X G a12
    F_z30 := fun_mk (st := s_z30) l13 x13 k13
    b_z30 := (fun_mk (st := s_z30) l13 x13 k13).binds (ps := ["number"]) (fun _ _ _ _ _ _ us hl => by obtain ⟨_, rfl⟩ := len1 hl; rfl)
    m_z30 := W.mg_of X G a13
    F_z29 := fun_mk (st := s_z29) l14 x14 k14
    b_z29 := (fun_mk (st := s_z29) l14 x14 k14).binds (ps := ["data"]) (fun _ _ _ _ _ _ us hl => by obtain ⟨_, rfl⟩ := len1 hl; rfl)
    m_z29 := W.mg_of X G a14
    F_z21 := fun_mk (st := s_z21) l15 x15 k15
    b_z21 := (fun_mk (st := s_z21) l15 x15 k15).binds (ps := ["reader", "number", "card", "minute", "zones"]) (fun _ _ _ _ _ _ us hl => by obtain ⟨_, _, _, _, _, rfl⟩ := len5 hl; rfl)
    m_z21 := W.mg_of X G a15
    F_z15 := fun_mk (st := s_z15) l16 x16 k16
    b_z15 := (fun_mk (st := s_z15) l16 x16 k16).binds (ps := ["reader", "number", "minute"]) (fun _ _ _ _ _ _ us hl => by obtain ⟨_, _, _, rfl⟩ := len3 hl; rfl)
    m_z15 := W.mg_of X G a16
    F_z36 := fun_mk (st := s_z36) l17 x17 k17
    b_z36 := (fun_mk (st := s_z36) l17 x17 k17).binds (ps := ["message", "place"]) (fun _ _ _ _ _ _ us hl => by obtain ⟨_, _, rfl⟩ := len2 hl; rfl)
    m_z36 := W.mg_of X G a17
    F_z38 := fun_mk (st := s_z38) l18 x18 k18
    b_z38 := (fun_mk (st := s_z38) l18 x18 k18).binds (ps := ["message"]) (fun _ _ _ _ _ _ us hl => by obtain ⟨_, rfl⟩ := len1 hl; rfl)
    m_z38 := W.mg_of X G a18
    F_z44 := fun_mk (st := s_z44) l19 x19 k19
    b_z44 := (fun_mk (st := s_z44) l19 x19 k19).binds (ps := ["message"]) (fun _ _ _ _ _ _ us hl => by obtain ⟨_, rfl⟩ := len1 hl; rfl)
    m_z44 := W.mg_of X G a19
    F_z33 := fun_mk (st := s_z33) l20 x20 k20
    b_z33 := (fun_mk (st := s_z33) l20 x20 k20).binds (ps := ["message"]) (fun _ _ _ _ _ _ us hl => by obtain ⟨_, rfl⟩ := len1 hl; rfl)
    m_z33 := W.mg_of X G a20
    F_z49 := fun_mk (st := s_z49) l21 x21 k21
    b_z49 := (fun_mk (st := s_z49) l21 x21 k21).binds (ps := ["message"]) (fun _ _ _ _ _ _ us hl => by obtain ⟨_, rfl⟩ := len1 hl; rfl)
    m_z49 := W.mg_of X G a21
    F_z32 := fun_mk (st := s_z32) l22 x22 k22
    b_z32 := (fun_mk (st := s_z32) l22 x22 k22).binds (ps := ["message"]) (fun _ _ _ _ _ _ us hl => by obtain ⟨_, rfl⟩ := len1 hl; rfl)
    m_z32 := W.mg_of X G a22
    F_z51 := fun_mk (st := s_z51) l23 x23 k23
    b_z51 := (fun_mk (st := s_z51) l23 x23 k23).binds (ps := ["message"]) (fun _ _ _ _ _ _ us hl => by obtain ⟨_, rfl⟩ := len1 hl; rfl)
    m_z51 := W.mg_of X G a23
    F_z50 := fun_mk (st := s_z50) l24 x24 k24
    b_z50 := (fun_mk (st := s_z50) l24 x24 k24).binds (ps := ["message"]) (fun _ _ _ _ _ _ us hl => by obtain ⟨_, rfl⟩ := len1 hl; rfl)
    m_z50 := W.mg_of X G a24
    F_z43 := fun_mk (st := s_z43) l25 x25 k25
    b_z43 := (fun_mk (st := s_z43) l25 x25 k25).binds (ps := ["message"]) (fun _ _ _ _ _ _ us hl => by obtain ⟨_, rfl⟩ := len1 hl; rfl)
    m_z43 := W.mg_of X G a25
    F_z24 := fun_mk (st := s_z24) l26 x26 k26
    b_z24 := (fun_mk (st := s_z24) l26 x26 k26).binds (ps := ["self", "me"]) (fun _ _ _ _ _ _ us hl => by obtain ⟨_, _, rfl⟩ := len2 hl; rfl)
    F_z26 := fun_mk (st := s_z26) l27 x27 k27
    b_z26 := (fun_mk (st := s_z26) l27 x27 k27).binds (ps := ["self", "card", "minute", "zones"]) (fun _ _ _ _ _ _ us hl => by obtain ⟨_, _, _, _, rfl⟩ := len4 hl; rfl)
    h_z26 := ⟨a27, i27, k27⟩
    F_z22 := fun_mk (st := s_z22) l28 x28 k28
    b_z22 := (fun_mk (st := s_z22) l28 x28 k28).binds (ps := ["self", "minute"]) (fun _ _ _ _ _ _ us hl => by obtain ⟨_, _, rfl⟩ := len2 hl; rfl)
    h_z22 := ⟨a28, i28, k28⟩
    F_z16 := fun_mk (st := s_z16) l29 x29 k29
    b_z16 := (fun_mk (st := s_z16) l29 x29 k29).binds (ps := ["self", "number"]) (fun _ _ _ _ _ _ us hl => by obtain ⟨_, _, rfl⟩ := len2 hl; rfl)
    h_z16 := ⟨a29, i29, k29⟩
    F_z18 := fun_mk (st := s_z18) l30 x30 k30
    b_z18 := (fun_mk (st := s_z18) l30 x30 k30).binds (ps := ["self", "single", "passes"]) (fun _ _ _ _ _ _ us hl => by obtain ⟨_, _, _, rfl⟩ := len3 hl; rfl)
    F_z37 := fun_mk (st := s_z37) l31 x31 k31
    b_z37 := (fun_mk (st := s_z37) l31 x31 k31).binds (ps := ["numbers"]) (fun _ _ _ _ _ _ us hl => by obtain ⟨_, rfl⟩ := len1 hl; rfl)
    m_z37 := W.mg_of X G a31
    F_z45 := fun_mk (st := s_z45) l32 x32 k32
    b_z45 := (fun_mk (st := s_z45) l32 x32 k32).binds (ps := ["number"]) (fun _ _ _ _ _ _ us hl => by obtain ⟨_, rfl⟩ := len1 hl; rfl)
    m_z45 := W.mg_of X G a32
    F_z47 := fun_mk (st := s_z47) l33 x33 k33
    b_z47 := (fun_mk (st := s_z47) l33 x33 k33).binds (ps := ["price", "minutes", "zones"]) (fun _ _ _ _ _ _ us hl => by obtain ⟨_, _, _, rfl⟩ := len3 hl; rfl)
    m_z47 := W.mg_of X G a33
    F_z35 := fun_mk (st := s_z35) l34 x34 k34
    b_z35 := (fun_mk (st := s_z35) l34 x34 k34).binds (ps := ["single", "passes"]) (fun _ _ _ _ _ _ us hl => by obtain ⟨_, _, rfl⟩ := len2 hl; rfl)
    m_z35 := W.mg_of X G a34
    F_z23 := fun_mk (st := s_z23) l35 x35 k35
    b_z23 := (fun_mk (st := s_z23) l35 x35 k35).binds (ps := ["self", "reader_count", "tariff"]) (fun _ _ _ _ _ _ us hl => by obtain ⟨_, _, _, rfl⟩ := len3 hl; rfl)
    F_z12 := fun_mk (st := s_z12) l36 x36 k36
    b_z12 := (fun_mk (st := s_z12) l36 x36 k36).binds (ps := ["self", "message"]) (fun _ _ _ _ _ _ us hl => by obtain ⟨_, _, rfl⟩ := len2 hl; rfl)
    h_z12 := ⟨a36, i36, k36⟩
    F_z9 := fun_mk (st := s_z9) l37 x37 k37
    b_z9 := (fun_mk (st := s_z9) l37 x37 k37).binds (ps := ["self", "message"]) (fun _ _ _ _ _ _ us hl => by obtain ⟨_, _, rfl⟩ := len2 hl; rfl)
    h_z9 := ⟨a37, i37, k37⟩
    F_z6 := fun_mk (st := s_z6) l38 x38 k38
    b_z6 := (fun_mk (st := s_z6) l38 x38 k38).binds (ps := ["self", "card", "ride"]) (fun _ _ _ _ _ _ us hl => by obtain ⟨_, _, _, rfl⟩ := len3 hl; rfl)
    h_z6 := ⟨a38, i38, k38⟩
    F_z2 := fun_mk (st := s_z2) l39 x39 k39
    b_z2 := (fun_mk (st := s_z2) l39 x39 k39).binds (ps := ["self", "message"]) (fun _ _ _ _ _ _ us hl => by obtain ⟨_, _, rfl⟩ := len2 hl; rfl)
    h_z2 := ⟨a39, i39, k39⟩
    F_z10 := fun_mk (st := s_z10) l40 x40 k40
    b_z10 := (fun_mk (st := s_z10) l40 x40 k40).binds (ps := ["self", "reader"]) (fun _ _ _ _ _ _ us hl => by obtain ⟨_, _, rfl⟩ := len2 hl; rfl)
    h_z10 := ⟨a40, i40, k40⟩
    F_z13 := fun_mk (st := s_z13) l41 x41 k41
    b_z13 := (fun_mk (st := s_z13) l41 x41 k41).binds (ps := ["self", "reader"]) (fun _ _ _ _ _ _ us hl => by obtain ⟨_, _, rfl⟩ := len2 hl; rfl)
    h_z13 := ⟨a41, i41, k41⟩
    F_z5 := fun_mk (st := s_z5) l42 x42 k42
    b_z5 := (fun_mk (st := s_z5) l42 x42 k42).binds (ps := ["self", "day"]) (fun _ _ _ _ _ _ us hl => by obtain ⟨_, _, rfl⟩ := len2 hl; rfl)
    h_z5 := ⟨a42, i42, k42⟩
    F_z1 := fun_mk (st := s_z1) l43 x43 k43
    b_z1 := (fun_mk (st := s_z1) l43 x43 k43).binds (ps := ["self", "card", "day"]) (fun _ _ _ _ _ _ us hl => by obtain ⟨_, _, _, rfl⟩ := len3 hl; rfl)
    h_z1 := ⟨a43, i43, k43⟩
    F_z3 := fun_mk (st := s_z3) l44 x44 k44
    b_z3 := (fun_mk (st := s_z3) l44 x44 k44).binds (ps := ["self", "card", "day"]) (fun _ _ _ _ _ _ us hl => by obtain ⟨_, _, _, rfl⟩ := len3 hl; rfl)
    h_z3 := ⟨a44, i44, k44⟩
    F_z11 := fun_mk (st := s_z11) l45 x45 k45
    b_z11 := (fun_mk (st := s_z11) l45 x45 k45).binds (ps := ["self", "card", "day"]) (fun _ _ _ _ _ _ us hl => by obtain ⟨_, _, _, rfl⟩ := len3 hl; rfl)
    h_z11 := ⟨a45, i45, k45⟩
    F_z20 := fun_mk (st := s_z20) l46 x46 k46
    b_z20 := (fun_mk (st := s_z20) l46 x46 k46).binds (ps := ["self", "card", "day"]) (fun _ _ _ _ _ _ us hl => by obtain ⟨_, _, _, rfl⟩ := len3 hl; rfl)
    h_z20 := ⟨a46, i46, k46⟩
    F_z27 := fun_mk (st := s_z27) l47 x47 k47
    b_z27 := (fun_mk (st := s_z27) l47 x47 k47).binds (ps := ["self", "card", "day"]) (fun _ _ _ _ _ _ us hl => by obtain ⟨_, _, _, rfl⟩ := len3 hl; rfl)
    h_z27 := ⟨a47, i47, k47⟩
    F_z39 := fun_mk (st := s_z39) l48 x48 k48
    b_z39 := (fun_mk (st := s_z39) l48 x48 k48).binds (ps := ["self"]) (fun _ _ _ _ _ _ us hl => by obtain ⟨_, rfl⟩ := len1 hl; rfl)
    F_z0 := fun_mk (st := s_z0) l49 x49 k49
    b_z0 := (fun_mk (st := s_z0) l49 x49 k49).binds (ps := ["self", "which", "me"]) (fun _ _ _ _ _ _ us hl => by obtain ⟨_, _, _, rfl⟩ := len3 hl; rfl)
    h_z0 := ⟨a49, i49, k49⟩
    F_z4 := fun_mk (st := s_z4) l50 x50 k50
    b_z4 := (fun_mk (st := s_z4) l50 x50 k50).binds (ps := ["self", "reader_count", "single", "passes"]) (fun _ _ _ _ _ _ us hl => by obtain ⟨_, _, _, _, rfl⟩ := len4 hl; rfl)
    h_z4 := ⟨a50, i50, k50⟩
    F_z7 := fun_mk (st := s_z7) l51 x51 k51
    b_z7 := (fun_mk (st := s_z7) l51 x51 k51).binds (ps := ["reader", "call"]) (fun _ _ _ _ _ _ us hl => by obtain ⟨_, _, rfl⟩ := len2 hl; rfl)
    m_z7 := W.mg_of X G a51
    F_z8 := fun_mk (st := s_z8) l52 x52 k52
    b_z8 := (fun_mk (st := s_z8) l52 x52 k52).binds (ps := ["centre", "call"]) (fun _ _ _ _ _ _ us hl => by obtain ⟨_, _, rfl⟩ := len2 hl; rfl)
    m_z8 := W.mg_of X G a52
    F_z54 := fun_mk (st := s_z54) l53 x53 k53
    b_z54 := (fun_mk (st := s_z54) l53 x53 k53).binds (ps := ["line", "call"]) (fun _ _ _ _ _ _ us hl => by obtain ⟨_, _, rfl⟩ := len2 hl; rfl)
    m_z54 := W.mg_of X G a53
    F_z48 := fun_mk (st := s_z48) l54 x54 k54
    b_z48 := (fun_mk (st := s_z48) l54 x54 k54).binds (ps := ["calls"]) (fun _ _ _ _ _ _ us hl => by obtain ⟨_, rfl⟩ := len1 hl; rfl)
    m_z48 := W.mg_of X G a54
    cl_Reader := ⟨pg_Reader, hd_Reader, po_Reader, sa_Reader⟩
    m_Reader := W.mg_of X G ac_Reader
    k_Reader := ⟨mk_Reader, a26, i26, kc_Reader⟩
    na_Reader_me := na_Reader_me
    na_Reader_taps := na_Reader_taps
    na_Reader_greatest := na_Reader_greatest
    cl_Tariff := ⟨pg_Tariff, hd_Tariff, po_Tariff, sa_Tariff⟩
    m_Tariff := W.mg_of X G ac_Tariff
    k_Tariff := ⟨mk_Tariff, a30, i30, kc_Tariff⟩
    na_Tariff_single := na_Tariff_single
    na_Tariff_passes := na_Tariff_passes
    cl_Centre := ⟨pg_Centre, hd_Centre, po_Centre, sa_Centre⟩
    m_Centre := W.mg_of X G ac_Centre
    k_Centre := ⟨mk_Centre, a35, i35, kc_Centre⟩
    na_Centre_reader_count := na_Centre_reader_count
    na_Centre_tariff := na_Centre_tariff
    na_Centre_taps := na_Centre_taps
    na_Centre_seals := na_Centre_seals
    na_Centre_unheard := na_Centre_unheard
    na_Centre_rides := na_Centre_rides
    na_Centre_ways := na_Centre_ways
    cl_Line := ⟨pg_Line, hd_Line, po_Line, sa_Line⟩
    m_Line := W.mg_of X G ac_Line
    k_Line := ⟨mk_Line, a48, i48, kc_Line⟩
    na_Line_readers := na_Line_readers
    na_Line_centre := na_Line_centre }
theorem fin {P : Program} {w : World} {K : W.Frag} {mg : Str → Option Value} {fa : Addr} (h : ∃ a : Ad, Tx K mg a ∧ a.f_z48 = fa) :
    ∃ fd : FuncData, (∀ (s : Shared) (us : List Value), us.length = (["calls"] : List Str).length → BindsTo s fd ⟨us, []⟩ ((["calls"] : List Str).zip us)) ∧ ∀ base : Heap, K.In base → base.Ns mainGlobals mg → FnOk P w K mg base CX0 9 fa fd ["calls"] (spAns K) := by
  obtain ⟨a, T, rfl⟩ := h
  refine ⟨a.d_z48, fun s us hu => ?_, fun base _ _ => ok_z48 T⟩
  obtain ⟨oc, od, kV, doc, pm, an, cdv, ct, osl, e, _, _⟩ := T.F_z48.ex
  rw [e]
  exact match us, hu with
    | [_], _ => .of_eq rfl
end Fb
namespace PySem.W.Fast
def tw6123417409739594361 := ()
def tw4778356872186834004 := ()
def tw7357961010613536000 := ()
def tw1354492576986915026 := ()
def tw7091252893275761284 := ()
def tw15125004470554682744 := ()
def tw13287640781092387031 := ()
def tw10173616509121888473 := ()
def tw13099291512510998885 := ()
def tw5021356112184078538 := ()
def tw6027033914529782322 := ()
def tw18033414704586199420 := ()
def tw8355587332881507780 := ()
def tw11801947171232823703 := ()
def tw10661245990628265153 := ()
def tw15628932985008788397 := ()
def tw5060939718984694843 := ()
def tw7097059999284676890 := ()
def tw8263077970659434020 := ()
def tw9594650554864298428 := ()
def tw1581733462430534085 := ()
def tw12050812453857724553 := ()
def tw14623503727696286273 := ()
def tw5291285983495358421 := ()
def tw15809740399325665843 := ()
def tw6719948999748883363 := ()
def tw16674411551881323722 := ()
def tw14665671511280754619 := ()
def tw6294662956867093290 := ()
def tw2603151844647989946 := ()
def tw17006834490770674264 := ()
def tw16764162957426045763 := ()
def tw15201614797726038721 := ()
def tw3464276209045696265 := ()
def tw18000894799834390575 := ()
def tw10341416322400051490 := ()
def tw9827850357258858363 := ()
def tw7861068479348097221 := ()
def tw5122342998088264000 := ()
def tw4368216492721964630 := ()
def tw2221572779859631385 := ()
def tw17824043984768550699 := ()
def tw12683024874922946992 := ()
def tw12074790601233301120 := ()
def tw10551382070332314316 := ()
def tw9335049044094993115 := ()
def tw7185348897512401225 := ()
def tw6567176707392181835 := ()
def tw320673825268179237 := ()
def tw2678237628927115574 := ()
def tw2422853581297275536 := ()
def tw1641018120004239954 := ()
def tw12752537866926798763 := ()
def tw10467871989761245997 := ()
def tw8709159631451303016 := ()
def tw735236912651279700 := ()
def tw7304241314433000516 := ()
def tw6504555279849232242 := ()
def tw570565673738701856 := ()
def tw5034847161149148341 := ()
def tw413540482270168508 := ()
def tw2817136291155410464 := ()
def tw2125398588580790257 := ()
def tw1906158645906237417 := ()
def tw17048213307219365831 := ()
def tw17038795066372520810 := ()
def tw13739683018803561750 := ()
def tw11429060517070516560 := ()
def tw11221025371595352545 := ()
def tw9465124587961932097 := ()
def tw824873854936923459 := ()
def tw7098436820618799310 := ()
def tw6331114584057074745 := ()
def tw5156448860573400141 := ()
def tw2935707471795041340 := ()
def tw2398212587808855807 := ()
def tw17367755477298358281 := ()
def tw17120866657458942873 := ()
def tw16879825463211993367 := ()
def tw15994341415915081922 := ()
def tw15083737928375813147 := ()
def tw13639402373096941342 := ()
def tw13476582343747350864 := ()
def tw12548857662342542992 := ()
def tw11555228594342620725 := ()
def tw8334824995938248990 := ()
def tw16119321166747376908 := ()
end PySem.W.Fast
open PySem PySem.W PyProof.Rows
set_option maxRecDepth 100000 in
set_option maxHeartbeats 0 in
theorem PySem.Challenge.cw_farebest_s01_answers_holds : PySem.Challenge.rw_farebest_s01_answers.Holds := by
  w_on; k_headS; (case hw => exact ⟨[.list [.int 0, .int 0, .int 0]], by decide +kernel, by decide +kernel⟩)
  k_fillS
  refine L2.walk_specK (r := PySem.Challenge.rw_farebest_s01_answers) (k := 9) (CX := L2.CX0) (ps := ["calls"]) (sp := Fb.spAns) (by decide +kernel) rfl rfl ⟨rfl, by decide, by decide⟩ (fun w h Y => PySem.W.kIn_of Y) ?F ?S (fun _ _ _ _ z => z)
  case F =>
    intro w mg fa h Y KX G hmg
    refine' Fb.fin (Fb.all_mk KX G hmg ?ac_Reader ?ac_Tariff ?ac_Centre ?ac_Line ?g_NR_START ?g_NR_TAP ?g_NR_SEAL ?g_NC_START ?g_NC_HEARD ?g_NC_LACKS ?g_NC_BILL ?g_MINUTE_LIMIT ?g_DAY_MINUTES ?g_ALL_ZONES ?g_MOST_READERS ?g_MOST_TAPS ?g_MOST_RIDES ?g_TAP ?g_SEAL ?g_ALL_ONES ?g_POLYNOMIAL ?g_CHECK_PLACE ?g_NOT_THERE ?g_NOTHING_LACKS ?g_TOO_EARLY ?g_WRONG_VALUE ?g_NO_ROOM ?g_WRONG_MESSAGE ?g_PRICE_LIMIT ?g_MOST_PASSES ?g_MOST_MINUTES ?g_LENGTHS ?q_LENGTHS ?n_len ?n_sum ?n_range ?n_enumerate ?n_min ?n_sorted ?a0 ?l0 ?x0 ?k0 ?a1 ?l1 ?x1 ?k1 ?a2 ?l2 ?x2 ?k2 ?a3 ?l3 ?x3 ?k3 ?a4 ?l4 ?x4 ?k4 ?a5 ?l5 ?x5 ?k5 ?a6 ?l6 ?x6 ?k6 ?a7 ?l7 ?x7 ?k7 ?a8 ?l8 ?x8 ?k8 ?a9 ?l9 ?x9 ?k9 ?a10 ?l10 ?x10 ?k10 ?a11 ?l11 ?x11 ?k11 ?a12 ?l12 ?x12 ?k12 ?a13 ?l13 ?x13 ?k13 ?a14 ?l14 ?x14 ?k14 ?a15 ?l15 ?x15 ?k15 ?a16 ?l16 ?x16 ?k16 ?a17 ?l17 ?x17 ?k17 ?a18 ?l18 ?x18 ?k18 ?a19 ?l19 ?x19 ?k19 ?a20 ?l20 ?x20 ?k20 ?a21 ?l21 ?x21 ?k21 ?a22 ?l22 ?x22 ?k22 ?a23 ?l23 ?x23 ?k23 ?a24 ?l24 ?x24 ?k24 ?a25 ?l25 ?x25 ?k25 ?a26 ?i26 ?l26 ?x26 ?k26 ?a27 ?i27 ?l27 ?x27 ?k27 ?a28 ?i28 ?l28 ?x28 ?k28 ?a29 ?i29 ?l29 ?x29 ?k29 ?a30 ?i30 ?l30 ?x30 ?k30 ?a31 ?l31 ?x31 ?k31 ?a32 ?l32 ?x32 ?k32 ?a33 ?l33 ?x33 ?k33 ?a34 ?l34 ?x34 ?k34 ?a35 ?i35 ?l35 ?x35 ?k35 ?a36 ?i36 ?l36 ?x36 ?k36 ?a37 ?i37 ?l37 ?x37 ?k37 ?a38 ?i38 ?l38 ?x38 ?k38 ?a39 ?i39 ?l39 ?x39 ?k39 ?a40 ?i40 ?l40 ?x40 ?k40 ?a41 ?i41 ?l41 ?x41 ?k41 ?a42 ?i42 ?l42 ?x42 ?k42 ?a43 ?i43 ?l43 ?x43 ?k43 ?a44 ?i44 ?l44 ?x44 ?k44 ?a45 ?i45 ?l45 ?x45 ?k45 ?a46 ?i46 ?l46 ?x46 ?k46 ?a47 ?i47 ?l47 ?x47 ?k47 ?a48 ?i48 ?l48 ?x48 ?k48 ?a49 ?i49 ?l49 ?x49 ?k49 ?a50 ?i50 ?l50 ?x50 ?k50 ?a51 ?l51 ?x51 ?k51 ?a52 ?l52 ?x52 ?k52 ?a53 ?l53 ?x53 ?k53 ?a54 ?l54 ?x54 ?k54 ?pg_Reader ?hd_Reader ?po_Reader ?sa_Reader ?mk_Reader ?kc_Reader ?na_Reader_me ?na_Reader_taps ?na_Reader_greatest ?pg_Tariff ?hd_Tariff ?po_Tariff ?sa_Tariff ?mk_Tariff ?kc_Tariff ?na_Tariff_single ?na_Tariff_passes ?pg_Centre ?hd_Centre ?po_Centre ?sa_Centre ?mk_Centre ?kc_Centre ?na_Centre_reader_count ?na_Centre_tariff ?na_Centre_taps ?na_Centre_seals ?na_Centre_unheard ?na_Centre_rides ?na_Centre_ways ?pg_Line ?hd_Line ?po_Line ?sa_Line ?mk_Line ?kc_Line ?na_Line_readers ?na_Line_centre)
    (case ac_Reader => k_is); (case ac_Tariff => k_is); (case ac_Centre => k_is); (case ac_Line => k_is); (case g_NR_START => k_is); (case g_NR_TAP => k_is); (case g_NR_SEAL => k_is); (case g_NC_START => k_is); (case g_NC_HEARD => k_is); (case g_NC_LACKS => k_is); (case g_NC_BILL => k_is); (case g_MINUTE_LIMIT => k_is); (case g_DAY_MINUTES => k_is); (case g_ALL_ZONES => k_is); (case g_MOST_READERS => k_is); (case g_MOST_TAPS => k_is); (case g_MOST_RIDES => k_is); (case g_TAP => k_is); (case g_SEAL => k_is); (case g_ALL_ONES => k_is); (case g_POLYNOMIAL => k_is); (case g_CHECK_PLACE => k_is); (case g_NOT_THERE => k_is); (case g_NOTHING_LACKS => k_is); (case g_TOO_EARLY => k_is); (case g_WRONG_VALUE => k_is); (case g_NO_ROOM => k_is); (case g_WRONG_MESSAGE => k_is); (case g_PRICE_LIMIT => k_is); (case g_MOST_PASSES => k_is); (case g_MOST_MINUTES => k_is); (case g_LENGTHS => k_is); (case q_LENGTHS => k_is); (case n_len => k_is); (case n_sum => k_is); (case n_range => k_is); (case n_enumerate => k_is); (case n_min => k_is); (case n_sorted => k_is); (case a0 => k_is); (case l0 => k_is); (case x0 => k_is); (case k0 => k_is); (case a1 => k_is); (case l1 => k_is); (case x1 => k_is); (case k1 => k_is); (case a2 => k_is); (case l2 => k_is); (case x2 => k_is); (case k2 => k_is); (case a3 => k_is); (case l3 => k_is); (case x3 => k_is); (case k3 => k_is); (case a4 => k_is); (case l4 => k_is); (case x4 => k_is); (case k4 => k_is); (case a5 => k_is); (case l5 => k_is); (case x5 => k_is); (case k5 => k_is); (case a6 => k_is); (case l6 => k_is); (case x6 => k_is); (case k6 => k_is); (case a7 => k_is); (case l7 => k_is); (case x7 => k_is); (case k7 => k_is); (case a8 => k_is); (case l8 => k_is); (case x8 => k_is); (case k8 => k_is); (case a9 => k_is); (case l9 => k_is); (case x9 => k_is); (case k9 => k_is); (case a10 => k_is); (case l10 => k_is); (case x10 => k_is); (case k10 => k_is); (case a11 => k_is); (case l11 => k_is); (case x11 => k_is); (case k11 => k_is); (case a12 => k_is); (case l12 => k_is); (case x12 => k_is); (case k12 => k_is); (case a13 => k_is); (case l13 => k_is); (case x13 => k_is); (case k13 => k_is); (case a14 => k_is); (case l14 => k_is); (case x14 => k_is); (case k14 => k_is); (case a15 => k_is); (case l15 => k_is); (case x15 => k_is); (case k15 => k_is); (case a16 => k_is); (case l16 => k_is); (case x16 => k_is); (case k16 => k_is); (case a17 => k_is); (case l17 => k_is); (case x17 => k_is); (case k17 => k_is); (case a18 => k_is); (case l18 => k_is); (case x18 => k_is); (case k18 => k_is); (case a19 => k_is); (case l19 => k_is); (case x19 => k_is); (case k19 => k_is); (case a20 => k_is); (case l20 => k_is); (case x20 => k_is); (case k20 => k_is); (case a21 => k_is); (case l21 => k_is); (case x21 => k_is); (case k21 => k_is); (case a22 => k_is); (case l22 => k_is); (case x22 => k_is); (case k22 => k_is); (case a23 => k_is); (case l23 => k_is); (case x23 => k_is); (case k23 => k_is); (case a24 => k_is); (case l24 => k_is); (case x24 => k_is); (case k24 => k_is); (case a25 => k_is); (case l25 => k_is); (case x25 => k_is); (case k25 => k_is); (case a26 => k_is); (case i26 => k_is); (case l26 => k_is); (case x26 => k_is); (case k26 => k_is); (case a27 => k_is); (case i27 => k_is); (case l27 => k_is); (case x27 => k_is); (case k27 => k_is); (case a28 => k_is); (case i28 => k_is); (case l28 => k_is); (case x28 => k_is); (case k28 => k_is); (case a29 => k_is); (case i29 => k_is); (case l29 => k_is); (case x29 => k_is); (case k29 => k_is); (case a30 => k_is); (case i30 => k_is); (case l30 => k_is); (case x30 => k_is); (case k30 => k_is); (case a31 => k_is); (case l31 => k_is); (case x31 => k_is); (case k31 => k_is); (case a32 => k_is); (case l32 => k_is); (case x32 => k_is); (case k32 => k_is); (case a33 => k_is); (case l33 => k_is); (case x33 => k_is); (case k33 => k_is); (case a34 => k_is); (case l34 => k_is); (case x34 => k_is); (case k34 => k_is); (case a35 => k_is); (case i35 => k_is); (case l35 => k_is); (case x35 => k_is); (case k35 => k_is); (case a36 => k_is); (case i36 => k_is); (case l36 => k_is); (case x36 => k_is); (case k36 => k_is); (case a37 => k_is); (case i37 => k_is); (case l37 => k_is); (case x37 => k_is); (case k37 => k_is); (case a38 => k_is); (case i38 => k_is); (case l38 => k_is); (case x38 => k_is); (case k38 => k_is); (case a39 => k_is); (case i39 => k_is); (case l39 => k_is); (case x39 => k_is); (case k39 => k_is); (case a40 => k_is); (case i40 => k_is); (case l40 => k_is); (case x40 => k_is); (case k40 => k_is); (case a41 => k_is); (case i41 => k_is); (case l41 => k_is); (case x41 => k_is); (case k41 => k_is); (case a42 => k_is); (case i42 => k_is); (case l42 => k_is); (case x42 => k_is); (case k42 => k_is); (case a43 => k_is); (case i43 => k_is); (case l43 => k_is); (case x43 => k_is); (case k43 => k_is); (case a44 => k_is); (case i44 => k_is); (case l44 => k_is); (case x44 => k_is); (case k44 => k_is); (case a45 => k_is); (case i45 => k_is); (case l45 => k_is); (case x45 => k_is); (case k45 => k_is); (case a46 => k_is); (case i46 => k_is); (case l46 => k_is); (case x46 => k_is); (case k46 => k_is); (case a47 => k_is); (case i47 => k_is); (case l47 => k_is); (case x47 => k_is); (case k47 => k_is); (case a48 => k_is); (case i48 => k_is); (case l48 => k_is); (case x48 => k_is); (case k48 => k_is); (case a49 => k_is); (case i49 => k_is); (case l49 => k_is); (case x49 => k_is); (case k49 => k_is); (case a50 => k_is); (case i50 => k_is); (case l50 => k_is); (case x50 => k_is); (case k50 => k_is); (case a51 => k_is); (case l51 => k_is); (case x51 => k_is); (case k51 => k_is); (case a52 => k_is); (case l52 => k_is); (case x52 => k_is); (case k52 => k_is); (case a53 => k_is); (case l53 => k_is); (case x53 => k_is); (case k53 => k_is); (case a54 => k_is); (case l54 => k_is); (case x54 => k_is); (case k54 => k_is); (case pg_Reader => k_is); (case hd_Reader => k_is); (case po_Reader => k_is); (case sa_Reader => k_is); (case mk_Reader => k_is); (case kc_Reader => k_is); (case na_Reader_me => k_is); (case na_Reader_taps => k_is); (case na_Reader_greatest => k_is); (case pg_Tariff => k_is); (case hd_Tariff => k_is); (case po_Tariff => k_is); (case sa_Tariff => k_is); (case mk_Tariff => k_is); (case kc_Tariff => k_is); (case na_Tariff_single => k_is); (case na_Tariff_passes => k_is); (case pg_Centre => k_is); (case hd_Centre => k_is); (case po_Centre => k_is); (case sa_Centre => k_is); (case mk_Centre => k_is); (case kc_Centre => k_is); (case na_Centre_reader_count => k_is); (case na_Centre_tariff => k_is); (case na_Centre_taps => k_is); (case na_Centre_seals => k_is); (case na_Centre_unheard => k_is); (case na_Centre_rides => k_is); (case na_Centre_ways => k_is); (case pg_Line => k_is); (case hd_Line => k_is); (case po_Line => k_is); (case sa_Line => k_is); (case mk_Line => k_is); (case kc_Line => k_is); (case na_Line_readers => k_is); (case na_Line_centre => k_is)
  case S =>
    intro K H xs a hO hwi hask hx
    cases hx with
    | cons h1 h2 =>
      cases h2
      cases h1 with
      | lst hs ha =>
        have e := L2.ints_dw a.1 _ ha
        subst e
        have q : ((Codec.inLen 0 31000 a.1 && a.1.all (Codec.inInt 0 4294967295)) && true) = true := hwi
        rw [Bool.and_eq_true, Bool.and_eq_true] at q
        have hask2 : PyKm347.answers_asked a.1 = true := hask
        obtain ⟨cs, el, hf, hm, _, ea⟩ := Fb.parse hask2
        refine ⟨_, cs, rfl, (by rw [← el]; exact hs), hf, (by rw [← el]; exact (Codec.inNat_iff.mp q.1.1).2), hm, fun H' p hp => ?_⟩
        rw [← ea] at hp
        exact .lst (L2.SqL.of hp) (L2.dw_ints _)
