import PyProof.Rows.All
import Wide.All
import OpenK.AllK
import Wide.FinOn
import PyProof.EqAt
import PyProof.EqKinds
import PyProof.TupleCall
import KE.BitLaws
import Open.SpecLaws
import KE.OsHead
import KE.OsGo
import KE.KSortTupG
import KE.KDictList
import KE.KSortTupUse
import PySem.Challenge.RW_yardplans_s01_answers
set_option Elab.async false
set_option linter.all false
set_option maxRecDepth 100000
namespace L2
open PySem PySem.Spec PyProof.Rows
abbrev Key := Sum Int Str
def keyIs : Key → Value → Bool
  | .inl k, v => Value.isInt k v
  | .inr x, v => Value.isStrOf x v
def keyH (w : World) : Key → Int
  | .inl k => hashInt k
  | .inr x => hashStr w x
theorem keyIs_shape : ∀ {k : Key} {v : Value}, keyIs k v = true → (∃ i t, k = Sum.inl i ∧ v = Value.int i t) ∨ (∃ x t, k = Sum.inr x ∧ v = Value.str x t)
  | .inl i, v, h => by
    obtain ⟨t, e⟩ := Value.isInt_shape (k := i) (v := v) h
    exact .inl ⟨i, t, rfl, e⟩
  | .inr x, v, h => by
    obtain ⟨t, e⟩ := Value.isStrOf_shape (x := x) (v := v) h
    exact .inr ⟨x, t, rfl, e⟩
theorem keyIs_int (i : Int) (t : Tok) : keyIs (.inl i) (.int i t) = true := by simp [keyIs, Value.isInt]
theorem keyIs_str (x : Str) (t : Tok) : keyIs (.inr x) (.str x t) = true := by simp [keyIs, Value.isStrOf]
theorem key_ll (a b : Int) : decide ((Sum.inl a : Key) = Sum.inl b) = (a == b) := by
  by_cases e : a = b
  · subst e; simp
  · have h : ¬ (Sum.inl a : Key) = Sum.inl b := fun q => e (Sum.inl.inj q)
    rw [decide_eq_false h]
    exact (beq_eq_false_iff_ne.mpr e).symm
theorem key_rr (a b : Str) : decide ((Sum.inr a : Key) = Sum.inr b) = decide (a = b) := by
  by_cases e : a = b
  · subst e; simp
  · have h : ¬ (Sum.inr a : Key) = Sum.inr b := fun q => e (Sum.inr.inj q)
    rw [decide_eq_false h, decide_eq_false e]
theorem key_lr (a : Int) (b : Str) : decide ((Sum.inl a : Key) = Sum.inr b) = false := decide_eq_false (fun q => nomatch q)
theorem key_rl (a : Str) (b : Int) : decide ((Sum.inr a : Key) = Sum.inl b) = false := decide_eq_false (fun q => nomatch q)
def mixKind (prog : Program) (w : World) : PySem.KeyKind prog w Key where
  is := keyIs
  hash := keyH w
  inj := fun v a b ha hb => by
    rcases keyIs_shape ha with ⟨i, t, rfl, rfl⟩ | ⟨x, t, rfl, rfl⟩
    · rcases keyIs_shape hb with ⟨j, u, rfl, e⟩ | ⟨y, u, rfl, e⟩
      · injection e with e1 _; rw [e1]
      · exact nomatch e
    · rcases keyIs_shape hb with ⟨j, u, rfl, e⟩ | ⟨y, u, rfl, e⟩
      · exact nomatch e
      · injection e with e1 _; rw [e1]
  byValue := fun k v h => by
    rcases keyIs_shape h with ⟨i, t, rfl, rfl⟩ | ⟨x, t, rfl, rfl⟩ <;> rfl
  pyHash := fun hv h => by
    rcases keyIs_shape hv with ⟨i, t, rfl, rfl⟩ | ⟨x, t, rfl, rfl⟩
    · exact wpAny_pyHash_int h
    · exact wpAny_pyHash_str h
  eqBool := fun hu hv h => by
    rcases keyIs_shape hu with ⟨i, t, rfl, rfl⟩ | ⟨x, t, rfl, rfl⟩
    · rcases keyIs_shape hv with ⟨j, u, rfl, rfl⟩ | ⟨y, u, rfl, rfl⟩
      · rw [key_ll] at h; exact wpAny_eqBool_int h
      · rw [key_lr] at h; exact SeqAt.EqAt.int_str i t y u _ _ _ _ h
    · rcases keyIs_shape hv with ⟨j, u, rfl, rfl⟩ | ⟨y, u, rfl, rfl⟩
      · rw [key_rl] at h; exact SeqAt.EqAt.str_int x t j u _ _ _ _ h
      · rw [key_rr] at h; exact wpAny_eqBool_str h
  «strs» := fun k x t v h => by
    rcases keyIs_shape h with ⟨i, u, rfl, e⟩ | ⟨y, u, rfl, e⟩
    · exact nomatch e
    · injection e with e1 _
      subst e1
      cases v <;> rfl
theorem mixKind_int (prog : Program) (w : World) (i : Int) (t : Tok) : (mixKind prog w).is (.inl i) (.int i t) = true := keyIs_int i t
theorem mixKind_str (prog : Program) (w : World) (x : Str) (t : Tok) : (mixKind prog w).is (.inr x) (.str x t) = true := keyIs_str x t
end L2
namespace L2
open PySem PySem.Spec PyProof.Rows
inductive V where
  | non | bl (b : Bool) | int (i : Int) | str (x : Str) | byt (b : Array UInt8) | flt (b : UInt64) | ref (a : Addr) | ty (n : String)
  deriving DecidableEq
def RelV : V → Value → Prop
  | .non, u => u = Value.none
  | .bl b, u => u = Value.bool b
  | .int i, u => ∃ t, u = Value.int i t
  | .str x, u => ∃ t, u = Value.str x t
  | .byt b, u => ∃ t, u = Value.bytes b t
  | .flt b, u => ∃ t, u = Value.float b t
  | .ref a, u => u = Value.ref a
  | .ty n, u => u = Value.type n
abbrev Vals : List V → List Value → Prop := Paired RelV
theorem Vals.length {xs : List V} {us : List Value} (r : Vals xs us) : xs.length = us.length := Paired.length r
theorem Vals.get : ∀ {xs : List V} {us : List Value} {i : Nat} {x : V}, Vals xs us → xs[i]? = some x → ∃ u, us[i]? = some u ∧ RelV x u
  | _, _, _, _, .nil, e => by simp at e
  | _, _, 0, _, .cons r _, e => by simp at e; subst e; exact ⟨_, rfl, r⟩
  | _, _, i + 1, x, .cons _ t, e => by
    obtain ⟨u, h1, h2⟩ := Vals.get (i := i) (x := x) t (by simpa using e)
    exact ⟨u, by simpa using h1, h2⟩
theorem Vals.append : ∀ {xs ys : List V} {us ws : List Value}, Vals xs us → Vals ys ws → Vals (xs ++ ys) (us ++ ws)
  | _, _, _, _, .nil, s => s
  | _, _, _, _, .cons r t, s => .cons r (Vals.append t s)
theorem Vals.take : ∀ {xs : List V} {us : List Value} (n : Nat), Vals xs us → Vals (xs.take n) (us.take n)
  | _, _, 0, _ => .nil
  | _, _, _ + 1, .nil => .nil
  | _, _, n + 1, .cons r t => .cons r (Vals.take n t)
theorem Vals.drop : ∀ {xs : List V} {us : List Value} (n : Nat), Vals xs us → Vals (xs.drop n) (us.drop n)
  | _, _, 0, r => r
  | _, _, _ + 1, .nil => .nil
  | _, _, n + 1, .cons _ t => Vals.drop n t
def RelO : Option V → Option Value → Prop
  | some v, some u => RelV v u
  | none, none => True
  | _, _ => False
def KV {κ : Type} : List (κ × V) → List (κ × Value) → Prop := Paired fun (p : κ × V) (q : κ × Value) => p.1 = q.1 ∧ RelV p.2 q.2
def kV : Key → V
  | .inl i => .int i
  | .inr x => .str x
inductive HO where
  | lst (xs : List V)
  | tup (xs : List V)
  | dK (kvs : List (Key × V)) | dT (kvs : List (List Key × V))
  | set (S : Int → Bool) (n : Nat)
  | ins (C dx : Addr) (fs : List (Str × V))
  | own (x : Addr)
  | xd (fs : List (Str × V))
  | met (f x : Addr)
  | rng (lo hi : Int)
  | frz (o : Obj) (u : HO)
  | tbl (ps : Array Value)
  | ext (φ : Heap → Prop)
abbrev Hp := Addr → Option HO
def upd (H : Hp) (a : Addr) (o : HO) : Hp := fun b => if b = a then some o else H b
theorem upd_same {H : Hp} {a : Addr} {o : HO} : upd H a o a = some o := by unfold upd; rw [if_pos rfl]
theorem upd_ne {H : Hp} {a b : Addr} {o : HO} (h : b ≠ a) : upd H a o b = H b := by unfold upd; rw [if_neg h]
theorem upd_upd {H : Hp} {a : Addr} {o u : HO} : upd (upd H a o) a u = upd H a u := by
  funext b; unfold upd; split <;> rfl
theorem ne_of {H : Hp} {a b : Addr} {o u : HO} (h : H a = some o) (h' : H b = some u) (d : o ≠ u) : a ≠ b := by
  intro e; subst e; rw [h] at h'; exact d (Option.some.inj h')
theorem ne_of_none {H : Hp} {a b : Addr} {o : HO} (h : H a = some o) (h' : H b = none) : a ≠ b := by
  intro e; subst e; rw [h] at h'; cases h'
section
variable (P : Program) (w : World)
def ObjOk (H : Hp) (h : Heap) (a : Addr) : HO → Prop
  | .lst xs => xs.length ≤ sizeLine ∧ ∃ (its : List Value) (n : Nat), Vals xs its ∧ h.get? a = some { cls := .type "list", data := .seq its.toArray n }
  | .tup xs => xs.length ≤ sizeLine ∧ ∃ its : List Value, Vals xs its ∧ IsTup h a its.toArray
  | .dK kvs => kvs.length ≤ sizeLine ∧ (a == sysModules) = false ∧ ∃ vs, KV kvs vs ∧ h.DictOf (mixKind P w) a vs
  | .dT kvs => kvs.length ≤ sizeLine ∧ (a == sysModules) = false ∧ ∃ xs : List (List Key × Addr × Value),
      Paired (fun (p : List Key × V) (q : List Key × Addr × Value) => p.1 = q.1 ∧ H q.2.1 = some (.tup (p.1.map kV)) ∧ RelV p.2 q.2.2) kvs xs ∧
      ∃ o es ep, h.get? a = some o ∧ o.ExactDict ∧ o.data = .dict es ep ∧ es.toList = xs.map (entryOfKey (tupleKind (mixKind P w))) ∧ (xs.map (·.1)).Nodup
  | .set S n => h.SetOf (intKind P w) a S n
  | .ins C dx fs => H dx = some (.own a) ∧ fs.length ≤ 1000 ∧ dx ≠ a ∧ h.get? a = some (PySem.W.instObj C dx) ∧
      ∃ mA, h.Ns1 dx mA ∧ (∀ f, RelO (fs.lookup f) (mA f)) ∧ PySem.Within mA (fs.map (·.1))
  | .own _ => ∃ o, h.get? a = some o
  | .xd fs => ∃ mA, h.Ns1 a mA ∧ ∀ f, RelO (fs.lookup f) (mA f)
  | .rng lo hi => ∃ t u v, h.get? a = some { cls := .type "range", data := .fields #[.int lo t, .int hi u, .int 1 v] }
  | .frz o u => h.get? a = some o ∧ ObjOk H h a u
  | .tbl ps => h.get? a = some { cls := .none, data := .fields ps }
  | .met f x => h.get? a = some (PySem.W.methodObj (.ref f) (.ref x))
  | .ext φ => φ h ∧ (∃ o, h.get? a = some o) ∧ ∀ h1 h2 : Heap, φ h1 → (∀ o, h1.get? a = some o → h2.get? a = some o) → φ h2
def HOk (H : Hp) (h : Heap) : Prop := ∀ a o, H a = some o → ObjOk P w H h a o
end
section
variable {P : Program} {w : World} {H H' : Hp} {h h' : Heap} {a : Addr} {o : HO}
theorem ObjOk.lt (x : ObjOk P w H h a o) : a < h.objs.size := by
  cases o with
  | lst xs => obtain ⟨_, _, _, _, e⟩ := x; exact Heap.lt_size e
  | tup xs => obtain ⟨_, _, _, p⟩ := x; exact p.lt
  | dK kvs => obtain ⟨_, _, _, _, o, _, _, e, _⟩ := x; exact Heap.lt_size e
  | dT kvs => obtain ⟨_, _, _, _, o, _, _, e, _⟩ := x; exact Heap.lt_size e
  | set S n => obtain ⟨o, _, _, _, e, _⟩ := x; exact Heap.lt_size e
  | ins C dx fs => obtain ⟨_, _, _, e, _⟩ := x; exact Heap.lt_size e
  | own y => obtain ⟨_, e⟩ := x; exact Heap.lt_size e
  | xd fs => obtain ⟨_, ⟨_, _, _, e, _⟩, _⟩ := x; exact Heap.lt_size e
  | rng lo hi => obtain ⟨_, _, _, e⟩ := x; exact Heap.lt_size e
  | frz ob u => obtain ⟨e, _⟩ := x; exact Heap.lt_size e
  | tbl ps => exact Heap.lt_size (show h.get? a = some _ from x)
  | met f y => exact Heap.lt_size (show h.get? a = some _ from x)
  | ext φ => obtain ⟨_, ⟨_, e⟩, _⟩ := x; exact Heap.lt_size e
theorem Paired.mapP {α β : Type} {F G : α → β → Prop} : ∀ {l₁ : List α} {l₂ : List β}, Paired F l₁ l₂ → (∀ a b, F a b → G a b) → Paired G l₁ l₂
  | _, _, .nil, _ => .nil
  | _, _, .cons r t, f => .cons (f _ _ r) (Paired.mapP t f)
theorem ObjOk.stay (x : ObjOk P w H h a o) (k : ∀ b u, (b = a ∨ H b = some (.own a)) → h.get? b = some u → h'.get? b = some u)
    (ho : ∀ b, H b = some (.own a) → H' b = some (.own a)) (ht : ∀ b xs, H b = some (.tup xs) → H' b = some (.tup xs)) : ObjOk P w H' h' a o := by
  induction o with
  | lst xs => obtain ⟨z, its, n, r, e⟩ := x; exact ⟨z, its, n, r, k _ _ (.inl rfl) e⟩
  | tup xs => obtain ⟨z, its, r, ob, e, c⟩ := x; exact ⟨z, its, r, ob, k _ _ (.inl rfl) e, c⟩
  | dK kvs => obtain ⟨z, y, vs, r, ob, es, ep, e, c⟩ := x; exact ⟨z, y, vs, r, ob, es, ep, k _ _ (.inl rfl) e, c⟩
  | dT kvs =>
    obtain ⟨z, y, xs, r, ob, es, ep, e, c⟩ := x
    exact ⟨z, y, xs, Paired.mapP r fun p q z => ⟨z.1, ht _ _ z.2.1, z.2.2⟩, ob, es, ep, k _ _ (.inl rfl) e, c⟩
  | set S n => obtain ⟨ob, es, ep, t, e, c⟩ := x; exact ⟨ob, es, ep, t, k _ _ (.inl rfl) e, c⟩
  | ins C dx fs =>
    obtain ⟨d, z, ne, e, mA, ⟨od, es, ep, e2, c⟩, r⟩ := x
    exact ⟨ho _ d, z, ne, k _ _ (.inl rfl) e, mA, ⟨od, es, ep, k _ _ (.inr d) e2, c⟩, r⟩
  | own y => obtain ⟨ob, e⟩ := x; exact ⟨ob, k _ _ (.inl rfl) e⟩
  | xd fs => obtain ⟨mA, ⟨od, es, ep, e, c⟩, r⟩ := x; exact ⟨mA, ⟨od, es, ep, k _ _ (.inl rfl) e, c⟩, r⟩
  | rng lo hi => obtain ⟨t, u, v, e⟩ := x; exact ⟨t, u, v, k _ _ (.inl rfl) e⟩
  | frz ob u ih => obtain ⟨e, q⟩ := x; exact ⟨k _ _ (.inl rfl) e, ih q⟩
  | tbl ps =>
    have e : h.get? a = some { cls := .none, data := .fields ps } := x
    show h'.get? a = some { cls := .none, data := .fields ps }
    exact k a _ (.inl rfl) e
  | met f y =>
    have e : h.get? a = some (PySem.W.methodObj (.ref f) (.ref y)) := x
    show h'.get? a = some (PySem.W.methodObj (.ref f) (.ref y))
    exact k a _ (.inl rfl) e
  | ext φ => obtain ⟨p, ⟨o, e⟩, st⟩ := x; exact ⟨st _ _ p fun o q => k _ _ (.inl rfl) q, ⟨o, k _ _ (.inl rfl) e⟩, st⟩
theorem HOk.lt (x : HOk P w H h) (e : H a = some o) : a < h.objs.size := (x a o e).lt
theorem HOk.fresh (x : HOk P w H h) (e : h.objs.size ≤ a) : H a = none := by
  cases q : H a with
  | none => rfl
  | some u => exact absurd (Nat.lt_of_lt_of_le (x.lt q) e) (Nat.lt_irrefl _)
theorem HOk.kept (x : HOk P w H h) (k : ∀ b u, h.get? b = some u → h'.get? b = some u) : HOk P w H h' := fun a o e =>
  (x a o e).stay (fun b u _ q => k b u q) (fun _ q => q) fun _ _ q => q
theorem HOk.laid (x : HOk P w H h) (k : ∀ b u, h.get? b = some u → h'.get? b = some u) (hp : h.objs.size ≤ a) (new : ObjOk P w (upd H a o) h' a o) : HOk P w (upd H a o) h' := fun b u e => by
  have hn := x.fresh hp
  by_cases hb : b = a
  · subst hb; rw [upd_same] at e; cases e; exact new
  · rw [upd_ne hb] at e
    exact (x b u e).stay (fun c v _ q => k c v q) (fun c q => by rw [upd_ne (ne_of_none q hn)]; exact q) fun c xs q => by rw [upd_ne (ne_of_none q hn)]; exact q
end
def Rd (H : Hp) (a : Addr) (u : HO) : Prop := H a = some u ∨ ∃ o, H a = some (.frz o u)
theorem Rd.ok {P : Program} {w : World} {H : Hp} {h : Heap} {a : Addr} {u : HO} (r : Rd H a u) (x : HOk P w H h) : ObjOk P w H h a u := by
  rcases r with r | ⟨o, r⟩
  · exact x a u r
  · obtain ⟨_, q⟩ := x a _ r
    exact q
def Mut : Option HO → Prop
  | some (.lst _) => True
  | some (.dK _) => True
  | some (.dT _) => True
  | some (.set _ _) => True
  | some (.ins _ _ _) => True
  | some (.ext _) => True
  | _ => False
section
variable {P : Program} {w : World} {H : Hp} {h h' : Heap} {x e : Addr} {o' : HO}
theorem HOk.write (ok : HOk P w H h) (mu : Mut (H x)) (he : e = x ∨ H e = some (.own x)) (k : ∀ b u, b ≠ e → h.get? b = some u → h'.get? b = some u) (heo : ∃ u, h'.get? e = some u)
    (new : ObjOk P w (upd H x o') h' x o') : HOk P w (upd H x o') h' := fun b u q => by
  have nown : ∀ c y, H c = some (.own y) → c ≠ x := fun c y r z => by subst z; rw [r] at mu; exact mu
  have ntup : ∀ c xs, H c = some (.tup xs) → c ≠ x := fun c xs r z => by subst z; rw [r] at mu; exact mu
  by_cases hb : b = x
  · subst hb; rw [upd_same] at q; cases q; exact new
  · rw [upd_ne hb] at q
    by_cases hbe : b = e
    · have q' : H b = some (.own x) := by
        rcases he with z | z
        · exact absurd (hbe.trans z) hb
        · rw [hbe]; exact z
      rw [q] at q'; cases q'
      obtain ⟨v, hv⟩ := heo
      exact ⟨v, by rw [hbe]; exact hv⟩
    · refine (ok b u q).stay (fun c v hc r => k c v ?_ r) (fun c r => by rw [upd_ne (nown c b r)]; exact r) fun c xs r => by rw [upd_ne (ntup c xs r)]; exact r
      rcases hc with rfl | hc
      · exact hbe
      · rintro rfl
        rcases he with z | z
        · exact nown c b hc z
        · rw [hc] at z; cases z; exact hb rfl
end
structure Un (fs ex : List Addr) (H H' : Hp) (h h' : Heap) : Prop where
  keep : ∀ b o, h.get? b = some o → H b = none → b ∉ fs → b ∉ ex → h'.get? b = some o
  slot : ∀ b o, h.get? b = some o → H b = none → b ∈ fs → b ∉ ex → ∃ sl, h'.get? b = some { o with slots := sl }
  free : ∀ b o, h.get? b = some o → H b = none → b ∉ ex → H' b = none
  there : ∀ b o, h.get? b = some o → b ∉ ex → ∃ o', h'.get? b = some o'
  tups : ∀ b xs, H b = some (.tup xs) → H' b = some (.tup xs)
  frzs : ∀ b o u, H b = some (.frz o u) → H' b = some (.frz o u)
  tbls : ∀ b ps, H b = some (.tbl ps) → ∃ more, H' b = some (.tbl (ps ++ more))
section
variable {fs fs' ex ex' : List Addr} {H H1 H2 : Hp} {h h1 h2 h' : Heap} {a x e : Addr} {o : HO}
theorem Un.any (u : Un fs ex H H1 h h1) {b : Addr} {ob : Obj} (q : h.get? b = some ob) (n : H b = none) (hx : b ∉ ex) : ∃ sl, h1.get? b = some { ob with slots := sl } := by
  by_cases hb : b ∈ fs
  · exact u.slot b ob q n hb hx
  · exact ⟨ob.slots, u.keep b ob q n hb hx⟩
theorem Un.kept (k : ∀ b u, h.get? b = some u → h'.get? b = some u) : Un fs ex H H h h' :=
  ⟨fun b ob q _ _ _ => k b ob q, fun b ob q _ _ _ => ⟨ob.slots, k b ob q⟩, fun _ _ _ n _ => n, fun b ob q _ => ⟨ob, k b ob q⟩, fun _ _ q => q, fun _ _ _ q => q, fun _ ps q => ⟨#[], by rw [q]; simp⟩⟩
theorem Un.refl : Un fs ex H H h h := Un.kept fun _ _ q => q
theorem Un.laid (k : ∀ b u, h.get? b = some u → h'.get? b = some u) (hp : h.objs.size ≤ a) (hn : H a = none) : Un fs ex H (upd H a o) h h' where
  keep := fun b u q _ _ _ => k b u q
  slot := fun b u q _ _ _ => ⟨u.slots, k b u q⟩
  free := fun b u q n _ => by rw [upd_ne (Nat.ne_of_lt (Nat.lt_of_lt_of_le (Heap.lt_size q) hp))]; exact n
  there := fun b u q _ => ⟨u, k b u q⟩
  tups := fun b xs q => by rw [upd_ne (ne_of_none q hn)]; exact q
  frzs := fun b u xs q => by rw [upd_ne (ne_of_none q hn)]; exact q
  tbls := fun b ps q => ⟨#[], by rw [upd_ne (ne_of_none q hn), q]; simp⟩
theorem Un.write (mu : Mut (H x)) (he : e = x ∨ H e = some (.own x)) (k : ∀ b u, b ≠ e → h.get? b = some u → h'.get? b = some u) (heo : ∃ u, h'.get? e = some u) : Un fs ex H (upd H x o) h h' := by
  have hx : ∀ b, H b = none → b ≠ x := fun b n z => by subst z; rw [n] at mu; exact mu
  have hb : ∀ b, H b = none → b ≠ e := fun b n z => by
    subst z
    rcases he with r | r
    · exact hx b n r
    · rw [n] at r; cases r
  have hm : ∀ b u, H b = some u → ¬ Mut (some u) → b ≠ x := fun b u q nm z => by subst z; rw [q] at mu; exact nm mu
  refine ⟨fun b u q n _ _ => k b u (hb b n) q, fun b u q n _ _ => ⟨u.slots, k b u (hb b n) q⟩, fun b u q n _ => by rw [upd_ne (hx b n)]; exact n, fun b u q _ => ?_,
    fun b xs q => by rw [upd_ne (hm b _ q fun z => z)]; exact q, fun b u xs q => by rw [upd_ne (hm b _ q fun z => z)]; exact q, fun b ps q => ⟨#[], by rw [upd_ne (hm b _ q fun z => z), q]; simp⟩⟩
  by_cases hbe : b = e
  · subst hbe; exact heo
  · exact ⟨u, k b u hbe q⟩
end
def trk (h : Heap) (H : Hp) : List Addr := (List.range h.objs.size).filter fun a => (H a).isSome
def hidT (h : Heap) (H : Hp) : Heap := PySem.W.hideAll h (trk h H)
theorem hidT_size (h : Heap) (H : Hp) : (hidT h H).objs.size = h.objs.size := PySem.W.hideAll_size _ _
theorem hidT_get {h : Heap} {H : Hp} {b : Addr} {o : Obj} (e : h.get? b = some o) (n : H b = none) : (hidT h H).get? b = some o :=
  PySem.W.hideAll_get _ e fun hm => by
    have q : (H b).isSome = true := (List.mem_filter.mp hm).2
    rw [n] at q; simp at q
theorem of_hidT {h : Heap} {H : Hp} {b : Addr} {o : Obj} (e : (hidT h H).get? b = some o) : h.get? b = some o ∧ H b = none := by
  have e' : h.get? b = some o := PySem.W.of_hideAll (trk h H) e
  refine ⟨e', ?_⟩
  cases q : H b with
  | none => rfl
  | some x =>
    have hm : b ∈ trk h H := List.mem_filter.mpr ⟨List.mem_range.mpr (Heap.lt_size e'), by simp [q]⟩
    have z : (hidT h H).get? b = none := PySem.W.hideAll_none (trk h H) hm
    rw [z] at e; cases e
end L2
namespace L2
open PySem PySem.Spec PyProof.Rows
structure Mod (K : PySem.W.Frag) (mg : Str → Option Value) (base : Heap) : Prop where
  kin : K.In base
  glob : base.Ns mainGlobals mg
  blt : ∃ mb, base.Ns builtinsNs mb ∧ ∀ x : Str, x ≠ "__name__" → mb x = bootBuiltins x
  nolimit : base.NoLimit
structure Cx where
  prog : Program
  w : World
  K : PySem.W.Frag
  mg : Str → Option Value
  base : Heap
  A : Around
  N : List Str
  s_0 : Shared
  H_0 : Hp
  env : Env
  outer : List Env
  stack : List Env
  ex : List Addr
  fn : Str → Bool
  calm : Bool
  pn : List (Addr × Obj)
  xe : Value → Shared → Prop
def frs (l : List Env) : List Addr := l.filterMap (·.frame)
abbrev Cx.fs (X : Cx) : List Addr := frs X.outer
def Vis (sc : Scope) (x : Str) : Prop := sc.names.lookup x = some .local ∨ sc.names.lookup x = some .cell ∨ sc.names.lookup x = some .free
def Loc (sc : Scope) (x : Str) : Prop := sc.names.lookup x = some .local ∨ sc.names.lookup x = some .cell
def Look (env : Env) (h : Heap) (m : Str → Option Value) (x : Str) (u : Value) : Prop :=
  (env.kindOf x = some .local ∧ m x = some u) ∨ ((env.kindOf x = some .cell ∨ env.kindOf x = some .free) ∧ ∃ c, env.cells.lookup x = some c ∧ h.IsCell c (some u))
structure Cx.Ok (X : Cx) : Prop where
  mod : Mod X.K X.mg X.base
  kind : X.env.scope.kind = .function
  glob : X.env.globals = mainGlobals
  blt : X.env.builtins = builtinsNs
  above : X.s_0.heap.objs.size ≤ X.env.locals
  inj : ∀ x y c, X.env.cells.lookup x = some c → X.env.cells.lookup y = some c → x = y
  has : ∀ x, (X.env.kindOf x = some .cell ∨ X.env.kindOf x = some .free) → ∃ c, X.env.cells.lookup x = some c
  cab : ∀ x c, X.fn x = true → X.env.cells.lookup x = some c → X.s_0.heap.objs.size ≤ c
  hd : X.calm = true → X.A.handled = none
  frames : X.A.frames = some X.stack
  stk : X.stack = X.outer ∨ (X.stack = X.env :: X.outer ∧ X.env.frame = some X.env.locals)
  exf : ∀ b ∈ X.ex, b ≠ X.env.locals ∧ ∀ x c, X.env.cells.lookup x = some c → c ≠ b
  bs : ∀ b o, X.base.get? b = some o → X.s_0.heap.get? b = some o ∧ X.H_0 b = none
  bsz : X.base.objs.size ≤ X.s_0.heap.objs.size
  noex : ∀ b o, X.base.get? b = some o → b ∉ X.ex
  exfs : ∀ b ∈ X.ex, b ∉ X.fs
  funs : X.s_0.heap.FunFrames X.base X.outer
  frf : ∀ b ∈ X.fs, X.H_0 b = none
structure Inv (X : Cx) (pins : List (Addr × Obj)) (σ : List (Option V)) (H : Hp) (s : Shared) : Prop where
  ok : X.Ok
  os : s.os = X.s_0.os
  bare : AllBare s.gens
  base : Un X.fs X.ex X.H_0 H X.s_0.heap s.heap
  loc : ∃ m, s.heap.Ns X.env.locals m ∧ ∀ (i : Nat) (x : Str) (v : V), X.N[i]? = some x → σ[i]? = some (some v) → Vis X.env.scope x → ∃ u, RelV v u ∧ Look X.env s.heap m x u
  cell : ∀ x c, X.env.cells.lookup x = some c → ∃ v, s.heap.IsCell c v
  free : H X.env.locals = none
  freeC : ∀ x c, X.env.cells.lookup x = some c → H c = none
  pin : ∀ p ∈ X.pn ++ pins, s.heap.get? p.1 = some p.2 ∧ H p.1 = none ∧ p.1 ≠ X.env.locals ∧ p.1 ∉ X.fs ∧ ∀ v, p.2.data ≠ .cell v
  hok : HOk X.prog X.w H s.heap
  len : σ.length = X.N.length
section
variable {X : Cx} {pins : List (Addr × Obj)} {σ : List (Option V)} {H H' : Hp} {s : Shared} {h' : Heap}
theorem Cx.Ok.nofr (ok : X.Ok) {b : Addr} {o : Obj} (e : X.base.get? b = some o) : b ∉ X.fs := fun hb => by
  have := (ok.funs.mem hb).1
  rw [e] at this; cases this
theorem Inv.bs (I : Inv X pins σ H s) : ∀ b o, X.base.get? b = some o → s.heap.get? b = some o ∧ H b = none := fun b o e =>
  ⟨I.base.keep b o (I.ok.bs b o e).1 (I.ok.bs b o e).2 (I.ok.nofr e) (I.ok.noex b o e), I.base.free b o (I.ok.bs b o e).1 (I.ok.bs b o e).2 (I.ok.noex b o e)⟩
theorem Inv.bk (I : Inv X pins σ H s) : ∀ b o, X.base.get? b = some o → s.heap.get? b = some o := fun b o e => (I.bs b o e).1
theorem Inv.mod (I : Inv X pins σ H s) : Mod X.K X.mg X.base := I.ok.mod
theorem Inv.kIn (I : Inv X pins σ H s) : X.K.In s.heap := I.ok.mod.kin.keeps I.bk
theorem Inv.lt (I : Inv X pins σ H s) : X.env.locals < s.heap.objs.size := let ⟨_, hn, _⟩ := I.loc; hn.lt
theorem Inv.sz (I : Inv X pins σ H s) : X.s_0.heap.objs.size ≤ s.heap.objs.size := Nat.le_trans I.ok.above (Nat.le_of_lt I.lt)
theorem Inv.nofs (I : Inv X pins σ H s) {a : Addr} (h : s.heap.objs.size ≤ a) : a ∉ X.fs := fun hb => by
  obtain ⟨_, o, ho, _⟩ := I.ok.funs.mem hb
  exact absurd (Nat.lt_of_lt_of_le (Heap.lt_size ho) (Nat.le_trans I.sz h)) (Nat.lt_irrefl _)
theorem Inv.cne (I : Inv X pins σ H s) : ∀ x c, X.env.cells.lookup x = some c → c ≠ X.env.locals := fun x c e z => by
  obtain ⟨v, o, ho, hd⟩ := I.cell x c e
  obtain ⟨m, ⟨o', es, ep, ho', hd', _⟩, _⟩ := I.loc
  rw [z, ho'] at ho; cases ho; rw [hd'] at hd; cases hd
theorem Inv.funs (I : Inv X pins σ H s) : s.heap.FunFrames X.base X.outer := by
  have all : ∀ (l : List Env), (∀ b ∈ frs l, b ∈ X.fs) → X.s_0.heap.FunFrames X.base l → s.heap.FunFrames X.base l := by
    intro l
    induction l with
    | nil => intro _ _; trivial
    | cons env r ih =>
      intro hs hl
      obtain ⟨hk, ⟨L, o, hf, hn, ho, hd⟩, hr⟩ := hl
      have hL : L ∈ X.fs := hs L (by unfold frs; rw [List.filterMap_cons, hf]; exact List.mem_cons_self)
      obtain ⟨sl, e⟩ := I.base.slot L o ho (I.ok.frf L hL) hL fun z => I.ok.exfs L z hL
      exact ⟨hk, ⟨L, _, hf, hn, e, hd⟩, ih (fun b hb => hs b (by unfold frs; rw [List.filterMap_cons, hf]; exact List.mem_cons_of_mem _ hb)) hr⟩
  exact all X.outer (fun _ hb => hb) I.ok.funs
theorem Inv.stack (I : Inv X pins σ H s) : s.heap.FunFrames X.base X.stack := by
  rcases I.ok.stk with e | ⟨e, hf⟩
  · rw [e]; exact I.funs
  · rw [e]
    obtain ⟨m, hn, _⟩ := I.loc
    refine .cons (by rw [I.ok.kind]; decide) hf hn ?_ I.funs
    exact Heap.get?_none_of_le (Nat.le_trans I.ok.bsz I.ok.above)
theorem Inv.stkSub (I : Inv X pins σ H s) : ∀ b ∈ frs X.stack, b ∈ X.env.locals :: X.fs := fun b hb => by
  rcases I.ok.stk with e | ⟨e, hf⟩
  · rw [e] at hb; exact List.mem_cons_of_mem _ hb
  · rw [e] at hb
    unfold frs at hb
    rw [List.filterMap_cons, hf] at hb
    exact hb
theorem Inv.stkFree (I : Inv X pins σ H s) : ∀ b ∈ frs X.stack, H b = none := fun b hb => by
  rcases List.mem_cons.mp (I.stkSub b hb) with e | hb
  · rw [e]; exact I.free
  · obtain ⟨_, o, ho, _⟩ := I.ok.funs.mem hb
    exact I.base.free b o ho (I.ok.frf b hb) fun z => I.ok.exfs b z hb
theorem Inv.step {g' : Array GenState} {t' : Nat} {d' : Drawn} {ch : List Addr} (I : Inv X pins σ H s)
    (hch : ∀ b ∈ ch, (b ∈ X.ex ∨ X.s_0.heap.objs.size ≤ b) ∧ b ≠ X.env.locals ∧ (∀ x c, X.env.cells.lookup x = some c → c ≠ b) ∧ ∀ p ∈ X.pn ++ pins, p.1 ≠ b)
    (keep : ∀ b o, b ≠ X.env.locals → b ∉ X.fs → b ∉ ch → s.heap.get? b = some o → H b = none → h'.get? b = some o)
    (slot : ∀ b o, b ≠ X.env.locals → b ∈ X.fs → b ∉ ch → s.heap.get? b = some o → H b = none → ∃ sl, h'.get? b = some { o with slots := sl }) (free : ∀ b o, b ∉ ch → s.heap.get? b = some o → H b = none → H' b = none)
    (there : ∀ b o, b ∉ ch → s.heap.get? b = some o → ∃ o', h'.get? b = some o')
    (tups : ∀ b xs, H b = some (.tup xs) → H' b = some (.tup xs)) (frzs : ∀ b o u, H b = some (.frz o u) → H' b = some (.frz o u)) (tbls : ∀ b ps, H b = some (.tbl ps) → ∃ more, H' b = some (.tbl (ps ++ more)))
    (ns : ∀ m, s.heap.Ns X.env.locals m → h'.Ns X.env.locals m) (hok : HOk X.prog X.w H' h') (hg : AllBare g') :
    Inv X pins σ H' { s with heap := h', gens := g', drawn := d', toks := t' } := by
  have neL : ∀ b o, X.s_0.heap.get? b = some o → b ≠ X.env.locals := fun b o e => Nat.ne_of_lt (Nat.lt_of_lt_of_le (Heap.lt_size e) I.ok.above)
  have neC : ∀ b o, X.s_0.heap.get? b = some o → b ∉ X.ex → b ∉ ch := fun b o e hx hb => by
    rcases (hch b hb).1 with z | z
    · exact hx z
    · exact absurd (Nat.lt_of_lt_of_le (Heap.lt_size e) z) (Nat.lt_irrefl _)
  have cellK : ∀ x c, X.env.cells.lookup x = some c → ∀ v, s.heap.IsCell c v → h'.IsCell c v := fun x c e v ⟨o, ho, hd⟩ => by
    have nch : c ∉ ch := fun z => (hch c z).2.2.1 x c e rfl
    by_cases hc : c ∈ X.fs
    · obtain ⟨sl, q⟩ := slot c o (I.cne x c e) hc nch ho (I.freeC x c e)
      exact ⟨_, q, hd⟩
    · exact ⟨o, keep c o (I.cne x c e) hc nch ho (I.freeC x c e), hd⟩
  refine ⟨I.ok, I.os, hg, ⟨fun b o e n hb hx => ?_, fun b o e n hb hx => ?_, fun b o e n hx => ?_, fun b o e hx => ?_, fun b xs e => tups b xs (I.base.tups b xs e), fun b o xs e => frzs b o xs (I.base.frzs b o xs e), fun b ps e => ?_⟩, ?_, fun x c e => ?_, ?_, fun x c e => ?_, fun p hp => ?_, hok, I.len⟩
  · exact keep b o (neL b o e) hb (neC b o e hx) (I.base.keep b o e n hb hx) (I.base.free b o e n hx)
  · obtain ⟨sl, e1⟩ := I.base.slot b o e n hb hx
    obtain ⟨sl', e2⟩ := slot b _ (neL b o e) hb (neC b o e hx) e1 (I.base.free b o e n hx)
    exact ⟨sl', e2⟩
  · obtain ⟨o', e1⟩ := I.base.there b o e hx
    exact free b o' (neC b o e hx) e1 (I.base.free b o e n hx)
  · obtain ⟨o', e1⟩ := I.base.there b o e hx
    exact there b o' (neC b o e hx) e1
  · obtain ⟨m1, e1⟩ := I.base.tbls b ps e
    obtain ⟨m2, e2⟩ := tbls b _ e1
    exact ⟨m1 ++ m2, by rw [e2, Array.append_assoc]⟩
  · obtain ⟨m, hn, hl⟩ := I.loc
    refine ⟨m, ns m hn, fun i x v e1 e2 e3 => ?_⟩
    obtain ⟨u, r, l⟩ := hl i x v e1 e2 e3
    refine ⟨u, r, ?_⟩
    rcases l with l | ⟨k, c, e, z⟩
    · exact .inl l
    · exact .inr ⟨k, c, e, cellK x c e _ z⟩
  · obtain ⟨v, z⟩ := I.cell x c e
    exact ⟨v, cellK x c e v z⟩
  · obtain ⟨m, ⟨o, _, _, ho, _⟩, _⟩ := I.loc
    exact free _ o (fun z => (hch _ z).2.1 rfl) ho I.free
  · obtain ⟨v, o, ho, hd⟩ := I.cell x c e
    exact free c o (fun z => (hch c z).2.2.1 x c e rfl) ho (I.freeC x c e)
  · obtain ⟨e, n, ne, nf, d⟩ := I.pin p hp
    have nch : p.1 ∉ ch := fun z => (hch p.1 z).2.2.2 p hp rfl
    exact ⟨keep p.1 p.2 ne nf nch e n, free p.1 p.2 nch e n, ne, nf, d⟩
theorem Inv.un {t' : Nat} (I : Inv X pins σ H s) (u : Un X.fs [] H H' s.heap h') (hok : HOk X.prog X.w H' h') : Inv X pins σ H' { s with heap := h', toks := t' } := by
  obtain ⟨m, ⟨o, es, ep, ho, r⟩, _⟩ := id I.loc
  obtain ⟨sl, hL⟩ := u.any ho I.free (by simp)
  exact I.step (g' := s.gens) (d' := s.drawn) (ch := []) (fun _ z => nomatch z) (fun b o _ hb _ e n => u.keep b o e n hb (by simp)) (fun b o _ hb _ e n => u.slot b o e n hb (by simp)) (fun b o _ e n => u.free b o e n (by simp)) (fun b o _ e => u.there b o e (by simp)) u.tups u.frzs u.tbls (fun m' hm => by
    obtain ⟨o', es', ep', ho', r'⟩ := hm
    rw [ho] at ho'; cases ho'
    exact ⟨_, es', ep', hL, r'⟩) hok I.bare
theorem Inv.call {g' : Array GenState} {t' : Nat} {d' : Drawn} {ch : List Addr} (I : Inv X pins σ H s) (u : Un (frs X.stack) ch H H' s.heap h') (hok : HOk X.prog X.w H' h') (hg : AllBare g')
    (hch : ∀ b ∈ ch, (b ∈ X.ex ∨ X.s_0.heap.objs.size ≤ b) ∧ b ≠ X.env.locals ∧ (∀ x c, X.env.cells.lookup x = some c → c ≠ b) ∧ ∀ p ∈ X.pn ++ pins, p.1 ≠ b) :
    Inv X pins σ H' { s with heap := h', gens := g', drawn := d', toks := t' } := by
  obtain ⟨m, ⟨o, es, ep, ho, r⟩, _⟩ := id I.loc
  obtain ⟨sl, hL⟩ := u.any ho I.free fun z => (hch _ z).2.1 rfl
  exact I.step (ch := ch) hch (fun b o hL hb hc e n => u.keep b o e n (fun z => (List.mem_cons.mp (I.stkSub b z)).elim hL hb) hc) (fun b o _ _ hc e n => u.any e n hc) (fun b o hc e n => u.free b o e n hc) (fun b o hc e => u.there b o e hc) u.tups u.frzs u.tbls (fun m' hm => by
    obtain ⟨o', es', ep', ho', r'⟩ := hm
    rw [ho] at ho'; cases ho'
    exact ⟨_, es', ep', hL, r'⟩) hok hg
theorem Inv.turned {t' : Nat} {it : Addr} (I : Inv X pins σ H s) (k : ∀ b o, b ≠ it → s.heap.get? b = some o → h'.get? b = some o) (hn : H it = none) (hL : it ≠ X.env.locals)
    (h1 : it ∈ X.ex ∨ X.s_0.heap.objs.size ≤ it) (h2 : ∀ x c, X.env.cells.lookup x = some c → c ≠ it) (h3 : ∀ p ∈ X.pn ++ pins, p.1 ≠ it) : Inv X pins σ H { s with heap := h', toks := t' } := by
  have nit : ∀ b u, H b = some u → b ≠ it := fun b u e z => by rw [z, hn] at e; cases e
  refine I.step (g' := s.gens) (d' := s.drawn) (ch := [it]) (fun b hb => ?_) (fun b o _ _ hc e _ => k b o (fun z => hc (by simp [z])) e) (fun b o _ _ hc e _ => ⟨o.slots, k b o (fun z => hc (by simp [z])) e⟩) (fun _ _ _ _ n => n)
    (fun b o hc e => ⟨o, k b o (fun z => hc (by simp [z])) e⟩) (fun _ _ e => e) (fun _ _ _ e => e) (fun b ps e => ⟨#[], by rw [e]; simp⟩) (fun m hm => ?_) (fun b u e => ?_) I.bare
  · have e : b = it := by simpa using hb
    subst e
    exact ⟨h1, hL, h2, h3⟩
  · obtain ⟨o, es, ep, ho, r⟩ := hm
    exact ⟨o, es, ep, k _ o (Ne.symm hL) ho, r⟩
  · refine (I.hok b u e).stay (fun c v hc q => k c v ?_ q) (fun _ q => q) fun _ _ q => q
    rcases hc with z | z
    · rw [z]; exact nit b u e
    · exact nit c _ z
theorem Inv.tok (I : Inv X pins σ H s) (t : Nat) : Inv X pins σ H { s with toks := t } := I.un (h' := s.heap) (t' := t) Un.refl I.hok
theorem Inv.kept {t' : Nat} (I : Inv X pins σ H s) (k : ∀ b u, s.heap.get? b = some u → h'.get? b = some u) : Inv X pins σ H { s with heap := h', toks := t' } := I.un (Un.kept k) (I.hok.kept k)
theorem Inv.laid {a : Addr} {o : HO} {t' : Nat} (I : Inv X pins σ H s) (k : ∀ b u, s.heap.get? b = some u → h'.get? b = some u) (hp : s.heap.objs.size ≤ a) (new : ObjOk X.prog X.w (upd H a o) h' a o) :
    Inv X pins σ (upd H a o) { s with heap := h', toks := t' } := I.un (Un.laid k hp (I.hok.fresh hp)) (I.hok.laid k hp new)
theorem Inv.write {x e : Addr} {o : HO} {t' : Nat} (I : Inv X pins σ H s) (mu : Mut (H x)) (he : e = x ∨ H e = some (.own x)) (k : ∀ b u, b ≠ e → s.heap.get? b = some u → h'.get? b = some u) (heo : ∃ u, h'.get? e = some u)
    (new : ObjOk X.prog X.w (upd H x o) h' x o) : Inv X pins σ (upd H x o) { s with heap := h', toks := t' } := I.un (Un.write mu he k heo) (I.hok.write mu he k heo new)
theorem Inv.weak {σ' : List (Option V)} (I : Inv X pins σ H s) (hl : σ'.length = σ.length) (w : ∀ (i : Nat) v, σ'[i]? = some (some v) → σ[i]? = some (some v)) : Inv X pins σ' H s :=
  ⟨I.ok, I.os, I.bare, I.base, let ⟨m, hn, hl'⟩ := I.loc; ⟨m, hn, fun i x v e1 e2 e3 => hl' i x v e1 (w i v e2) e3⟩, I.cell, I.free, I.freeC, I.pin, I.hok, hl.trans I.len⟩
theorem Inv.pins_of {pins' : List (Addr × Obj)} (I : Inv X pins σ H s) (h : ∀ p ∈ pins', s.heap.get? p.1 = some p.2 ∧ H p.1 = none ∧ p.1 ≠ X.env.locals ∧ p.1 ∉ X.fs ∧ ∀ v, p.2.data ≠ .cell v) : Inv X pins' σ H s :=
  ⟨I.ok, I.os, I.bare, I.base, I.loc, I.cell, I.free, I.freeC, fun p hp => (List.mem_append.mp hp).elim (fun z => I.pin p (List.mem_append_left _ z)) (h p), I.hok, I.len⟩
theorem nodup_ix {N : List Str} (hN : N.Nodup) {i j : Nat} {x : Str} (a : N[i]? = some x) (b : N[j]? = some x) : i = j := by
  obtain ⟨h1, e1⟩ := List.getElem?_eq_some_iff.mp a
  obtain ⟨h2, e2⟩ := List.getElem?_eq_some_iff.mp b
  exact (List.getElem_inj hN).mp (e1.trans e2.symm)
theorem store_ok2 {M : Model} {A : Around} {E : Value → Shared → Prop} {i : Nat} {x : Str} {v : V} {u : Value} {Q : Unit → Shared → Prop} (I : Inv X pins σ H s) (hN : X.N.Nodup) (hi : X.N[i]? = some x) (hx : Loc X.env.scope x) (r : RelV v u)
    (h : ∀ s', Inv X pins (σ.set i (some v)) H s' → (∃ a, Heap.SameBut a s.heap s'.heap ∧ (a = X.env.locals ∨ X.env.cells.lookup x = some a)) → Q () s') (hf : X.fn x = true ∨ X.env.scope.names.lookup x = some .local := by first | exact .inl rfl | exact .inr rfl | assumption) : wpAny M A (storeName X.env x u) Q E s := by
  obtain ⟨m, hn, hl⟩ := id I.loc
  have hcls : (X.env.scope.kind == .class || (X.env.scope.kind == .module && X.env.locals != X.env.globals)) = false := by rw [I.ok.kind]; rfl
  have hiσ : i < σ.length := by rw [I.len]; exact (List.getElem?_eq_some_iff.mp hi).1
  have cne := I.cne
  have tracked : ∀ {a : Addr} {h' : Heap}, (∃ o, s.heap.get? a = some o ∧ H a = none) → Heap.SameBut a s.heap h' → HOk X.prog X.w H h' := fun {a h'} ha hs b ob e => by
    obtain ⟨_, _, hfree⟩ := ha
    refine (I.hok b ob e).stay (fun c w' hc q => (hs.2 c ?_).trans q) (fun _ q => q) fun _ _ q => q
    rintro rfl
    rcases hc with rfl | hc
    · rw [hfree] at e; cases e
    · rw [hfree] at hc; cases hc
  rcases hx with hk | hk
  · refine wpAny_storeName_local hk hn (fun h' hn' hs => ?_) hcls
    obtain ⟨oL, _, _, hoL, _⟩ := id hn
    refine h _ ⟨I.ok, I.os, I.bare, ⟨fun b o e n hb hx => ?_, fun b o e n hb hx => ?_, I.base.free, fun b o e hx => ?_, I.base.tups, I.base.frzs, I.base.tbls⟩, ⟨_, hn', fun j y v' e1 e2 e3 => ?_⟩, fun y c e => ?_, I.free, I.freeC, fun p hp => ?_, tracked ⟨oL, hoL, I.free⟩ hs, by simpa using I.len⟩ ⟨_, hs, .inl rfl⟩
    · exact (hs.2 b (Nat.ne_of_lt (Nat.lt_of_lt_of_le (Heap.lt_size e) I.ok.above))).trans (I.base.keep b o e n hb hx)
    · obtain ⟨sl, e1⟩ := I.base.slot b o e n hb hx
      exact ⟨sl, (hs.2 b (Nat.ne_of_lt (Nat.lt_of_lt_of_le (Heap.lt_size e) I.ok.above))).trans e1⟩
    · obtain ⟨o', e1⟩ := I.base.there b o e hx
      exact ⟨o', (hs.2 b (Nat.ne_of_lt (Nat.lt_of_lt_of_le (Heap.lt_size e) I.ok.above))).trans e1⟩
    · by_cases hj : j = i
      · subst hj
        rw [hi] at e1; cases e1
        rw [List.getElem?_set_self hiσ] at e2
        cases e2
        exact ⟨u, r, .inl ⟨hk, by simp⟩⟩
      · rw [List.getElem?_set_ne (Ne.symm hj)] at e2
        obtain ⟨u', r', q⟩ := hl j y v' e1 e2 e3
        refine ⟨u', r', ?_⟩
        rcases q with ⟨k, e⟩ | ⟨k, c, e, z⟩
        · refine .inl ⟨k, ?_⟩
          have : y ≠ x := fun e => hj (nodup_ix hN e1 (e ▸ hi))
          simp [this, e]
        · exact .inr ⟨k, c, e, z.sameBut hs (cne y c e)⟩
    · obtain ⟨w', z⟩ := I.cell y c e
      exact ⟨w', z.sameBut hs (cne y c e)⟩
    · obtain ⟨e, n, ne, nf, d⟩ := I.pin p hp
      exact ⟨(hs.2 p.1 ne).trans e, n, ne, nf, d⟩
  · have hfn : X.fn x = true := by
      rcases hf with z | z
      · exact z
      · rw [z] at hk; cases hk
    obtain ⟨c, hc⟩ := I.ok.has x (.inl hk)
    obtain ⟨w', z⟩ := I.cell x c hc
    refine wpAny_storeName_cell I.ok.kind hk hc z (fun h' hc' hs => ?_)
    obtain ⟨oc, hoc, hocd⟩ := id z
    refine h { s with heap := h' } ⟨I.ok, I.os, I.bare, ⟨fun b o e n hb hx => ?_, fun b o e n hb hx => ?_, I.base.free, fun b o e hx => ?_, I.base.tups, I.base.frzs, I.base.tbls⟩, ⟨m, hn.sameBut hs (Ne.symm (cne x c hc)), fun j y v' e1 e2 e3 => ?_⟩, fun y c' e => ?_, I.free, I.freeC, fun p hp => ?_, tracked ⟨oc, hoc, I.freeC x c hc⟩ hs, by simpa using I.len⟩ ⟨c, hs, .inr hc⟩
    · exact (hs.2 b (Nat.ne_of_lt (Nat.lt_of_lt_of_le (Heap.lt_size e) (I.ok.cab x c hfn hc)))).trans (I.base.keep b o e n hb hx)
    · obtain ⟨sl, e1⟩ := I.base.slot b o e n hb hx
      exact ⟨sl, (hs.2 b (Nat.ne_of_lt (Nat.lt_of_lt_of_le (Heap.lt_size e) (I.ok.cab x c hfn hc)))).trans e1⟩
    · obtain ⟨o', e1⟩ := I.base.there b o e hx
      exact ⟨o', (hs.2 b (Nat.ne_of_lt (Nat.lt_of_lt_of_le (Heap.lt_size e) (I.ok.cab x c hfn hc)))).trans e1⟩
    · by_cases hj : j = i
      · subst hj
        rw [hi] at e1; cases e1
        rw [List.getElem?_set_self hiσ] at e2
        cases e2
        exact ⟨u, r, .inr ⟨.inl hk, c, hc, hc'⟩⟩
      · rw [List.getElem?_set_ne (Ne.symm hj)] at e2
        obtain ⟨u', r', q⟩ := hl j y v' e1 e2 e3
        refine ⟨u', r', ?_⟩
        rcases q with q | ⟨k, c', e, z'⟩
        · exact .inl q
        · refine .inr ⟨k, c', e, z'.sameBut hs ?_⟩
          rintro rfl
          exact hj (nodup_ix hN e1 (I.ok.inj _ _ _ e hc ▸ hi))
    · by_cases hcc : c' = c
      · subst hcc; exact ⟨_, hc'⟩
      · obtain ⟨w2, z2⟩ := I.cell y c' e
        exact ⟨w2, z2.sameBut hs hcc⟩
    · obtain ⟨e, n, ne, nf, d⟩ := I.pin p hp
      refine ⟨(hs.2 p.1 ?_).trans e, n, ne, nf, d⟩
      intro q
      rw [q, hoc] at e
      have q' : oc = p.2 := Option.some.inj e
      exact d w' (by rw [← q']; exact hocd)
theorem store_ok {M : Model} {A : Around} {E : Value → Shared → Prop} {i : Nat} {x : Str} {v : V} {u : Value} {Q : Unit → Shared → Prop} (I : Inv X pins σ H s) (hN : X.N.Nodup) (hi : X.N[i]? = some x) (hx : Loc X.env.scope x) (r : RelV v u)
    (h : ∀ s', Inv X pins (σ.set i (some v)) H s' → Q () s') (hf : X.fn x = true ∨ X.env.scope.names.lookup x = some .local := by first | exact .inl rfl | exact .inr rfl | assumption) : wpAny M A (storeName X.env x u) Q E s :=
  store_ok2 I hN hi hx r (fun s' I' _ => h s' I') hf
theorem Inv.call' {s' : Shared} {ch : List Addr} (I : Inv X pins σ H s) (ho : s'.os = s.os) (u : Un (frs X.stack) ch H H' s.heap s'.heap) (hok : HOk X.prog X.w H' s'.heap) (hg : AllBare s'.gens)
    (hch : ∀ b ∈ ch, (b ∈ X.ex ∨ X.s_0.heap.objs.size ≤ b) ∧ b ≠ X.env.locals ∧ (∀ x c, X.env.cells.lookup x = some c → c ≠ b) ∧ ∀ p ∈ X.pn ++ pins, p.1 ≠ b) : Inv X pins σ H' s' := by
  obtain ⟨h', g', d', t', o'⟩ := s'
  have e : o' = s.os := ho
  subst e
  exact I.call (g' := g') (t' := t') (d' := d') u hok hg hch
end
abbrev XK := Value → Option Addr → Hp → Prop
abbrev St := List (Option V)
abbrev VK := V → Hp → Prop
abbrev TE := St → Hp → VK → Prop
abbrev TT := St → Hp → (Bool → Hp → Prop) → Prop
abbrev TA := St → Hp → (List V → Hp → Prop) → Prop
structure Ends where
  nx : St → Hp → Prop
  rt : VK
  bk : St → Hp → Prop := fun _ _ => False
  ct : St → Hp → Prop := fun _ _ => False
abbrev TS := Ends → St → Hp → Prop
def EP (X : Cx) (pins : List (Addr × Obj)) (σ : St) (Q : VK) (u : Value) (s' : Shared) : Prop := ∃ v H', Inv X pins σ H' s' ∧ RelV v u ∧ Q v H'
def TP (X : Cx) (pins : List (Addr × Obj)) (σ : St) (Q : Bool → Hp → Prop) (b : Bool) (s' : Shared) : Prop := ∃ H', Inv X pins σ H' s' ∧ Q b H'
def AP (X : Cx) (pins : List (Addr × Obj)) (σ : St) (Q : List V → Hp → Prop) (us : List Value) (s' : Shared) : Prop := ∃ vs H', Inv X pins σ H' s' ∧ Vals vs us ∧ Q vs H'
def SP (X : Cx) (pins : List (Addr × Obj)) (D : Ends) (f : Flow) (s' : Shared) : Prop :=
  match f with
  | .next => ∃ σ' H', Inv X pins σ' H' s' ∧ D.nx σ' H'
  | .brk => ∃ σ' H', Inv X pins σ' H' s' ∧ D.bk σ' H'
  | .cont => ∃ σ' H', Inv X pins σ' H' s' ∧ D.ct σ' H'
  | .ret u => ∃ v σ' H', Inv X pins σ' H' s' ∧ RelV v u ∧ D.rt v H'
def PE (X : Cx) (e : Expr) (t : TE) : Prop :=
  ∀ (pins : List (Addr × Obj)) (s : Shared) (σ : St) (H : Hp) (Q : VK), Inv X pins σ H s → t σ H Q → wpAny (model X.prog X.w) X.A (eval e X.env) (EP X pins σ Q) X.xe s
def PT (X : Cx) (e : Expr) (t : TT) : Prop :=
  ∀ (pins : List (Addr × Obj)) (s : Shared) (σ : St) (H : Hp) (Q : Bool → Hp → Prop), Inv X pins σ H s → t σ H Q → wpAny (model X.prog X.w) X.A (isTrue e X.env (eval e X.env)) (TP X pins σ Q) X.xe s
def PW (X : Cx) (e : Expr) (t : TT) : Prop :=
  ∀ (whole : Sem Value) (pins : List (Addr × Obj)) (s : Shared) (σ : St) (H : Hp) (Q : Bool → Hp → Prop), Inv X pins σ H s → t σ H Q → wpAny (model X.prog X.w) X.A (isTrue e X.env whole) (TP X pins σ Q) X.xe s
theorem PW.pt {X : Cx} {e : Expr} {t : TT} (h : PW X e t) : PT X e t := h _
def PA (X : Cx) (es : List Expr) (t : TA) : Prop :=
  ∀ (pos : Pos) (pins : List (Addr × Obj)) (s : Shared) (σ : St) (H : Hp) (Q : List V → Hp → Prop), Inv X pins σ H s → t σ H Q → wpAny (model X.prog X.w) X.A (spliced (backTo pos (starEach es X.env))) (AP X pins σ Q) X.xe s
def PS (X : Cx) (st : Stmt) (t : TS) : Prop :=
  ∀ (pins : List (Addr × Obj)) (s : Shared) (σ : St) (H : Hp) (D : Ends), Inv X pins σ H s → t D σ H → wpAny (model X.prog X.w) X.A (exec st X.env) (SP X pins D) X.xe s
def PSs (X : Cx) (st : List Stmt) (t : TS) : Prop :=
  ∀ (pins : List (Addr × Obj)) (s : Shared) (σ : St) (H : Hp) (D : Ends), Inv X pins σ H s → t D σ H → wpAny (model X.prog X.w) X.A (execs st X.env) (SP X pins D) X.xe s
theorem thn {α : Type} {t : Sem α} {Q Q' : α → Shared → Prop} {M : Model} {A : Around} {E : Value → Shared → Prop} {s : Shared} (h : wpAny M A t Q E s) (hQ : ∀ a s, Q a s → Q' a s) : wpAny M A t Q' E s := wpAny_mono h hQ fun _ _ x => x
end L2
namespace L2
open PySem PySem.Spec PyProof.Rows
section
variable {X : Cx}
def tVar (i : Nat) : TE := fun σ H Q => ∃ v, σ[i]? = some (some v) ∧ Q v H
def tC (v : V) : TE := fun _ H Q => Q v H
theorem pe_var {i : Nat} {x : Str} {pos : Pos} (hN : X.N[i]? = some x) (hv : Vis X.env.scope x) (hd : (x == ("__debug__" : Str)) = false := by decide) (hcd : (x == ("__classdict__" : Str)) = false := by decide) : PE X (.Name x pos) (tVar i) := by
  intro pins s σ H Q I h
  obtain ⟨v, e, h⟩ := h
  obtain ⟨m, hn, hl⟩ := I.loc
  obtain ⟨u, r, l⟩ := hl i x v hN e hv
  have fin : EP X pins σ Q u s := ⟨v, H, I, r, h⟩
  rcases l with ⟨hk, hm⟩ | ⟨hk, c, hc, hcell⟩
  · exact wpAny_Name (wpAny_loadName_local I.ok.kind hk hn hm fin) hd
  · rcases hk with hk | hk
    · exact wpAny_Name (wpAny_loadName_cell I.ok.kind hk hc hcell fin) hd
    · exact wpAny_Name (wpAny_loadName_free I.ok.kind hk hc hcell fin hcd) hd
theorem pe_int {i j pos} : PE X (.Constant (.int i) j pos) (tC (.int i)) := fun _ _ _ H _ I h => wpAny_Constant_int ⟨.int i, H, I.tok _, ⟨_, rfl⟩, h⟩
theorem pe_bl {b j pos} : PE X (.Constant (.bool b) j pos) (tC (.bl b)) := fun _ _ _ H _ I h => Constant_bool ⟨.bl b, H, I, rfl, h⟩
theorem pe_non {j pos} : PE X (.Constant .none j pos) (tC .non) := fun _ _ _ H _ I h => Constant_none ⟨.non, H, I, rfl, h⟩
theorem pe_str {x j pos} : PE X (.Constant (.str x) j pos) (tC (.str x)) := fun _ _ _ H _ I h => Calls.Constant_str ⟨.str x, H, I.tok _, ⟨_, rfl⟩, h⟩
def Gl (X : Cx) (x : Str) : Prop := X.env.kindOf x = some .globalImplicit
theorem ld_glob {E : Value → Shared → Prop} {pins : List (Addr × Obj)} {s : Shared} {σ : St} {H : Hp} {x : Str} {u : Value} {pos : Pos} {Q : Value → Shared → Prop} (I : Inv X pins σ H s) (hg : Gl X x) (hm : X.mg x = some u) (h : Q u s)
    (hd : (x == ("__debug__" : Str)) = false := by decide) : wpAny (model X.prog X.w) X.A (eval (.Name x pos) X.env) Q E s :=
  Calls.Name_function_global I.ok.kind hg (Calls.loadGlobal_global (by rw [I.ok.glob]; exact I.mod.glob.keeps I.bk) hm h) hd
theorem ld_blt {E : Value → Shared → Prop} {pins : List (Addr × Obj)} {s : Shared} {σ : St} {H : Hp} {x : Str} {u : Value} {pos : Pos} {Q : Value → Shared → Prop} (I : Inv X pins σ H s) (hg : Gl X x) (hm : X.mg x = none) (hv : bootBuiltins x = some u) (h : Q u s)
    (hn : x ≠ "__name__" := by decide) (hd : (x == ("__debug__" : Str)) = false := by decide) : wpAny (model X.prog X.w) X.A (eval (.Name x pos) X.env) Q E s := by
  obtain ⟨mb, h1, h2⟩ := I.mod.blt
  exact Calls.Name_function_global I.ok.kind hg (Calls.loadGlobal_builtin (by rw [I.ok.glob]; exact I.mod.glob.keeps I.bk) hm (by rw [I.ok.blt]; exact h1.keeps I.bk) ((h2 x hn).trans hv) h) hd
theorem pe_glob {x : Str} {v : V} {u : Value} {pos : Pos} (hg : Gl X x) (hm : X.mg x = some u) (r : RelV v u) (hd : (x == ("__debug__" : Str)) = false := by decide) : PE X (.Name x pos) (tC v) :=
  fun _ _ _ H _ I h => ld_glob I hg hm ⟨v, H, I, r, h⟩ hd
variable {a b : Expr} {ta tb : TE} {pos : Pos}
def PC (X : Cx) (op : CmpOp) (a b : Expr) (t : TE) : Prop :=
  ∀ (pins : List (Addr × Obj)) (s : Shared) (σ : St) (H : Hp) (Q : VK), Inv X pins σ H s → t σ H Q →
    wpAny (model X.prog X.w) X.A (eval a X.env) (fun v s₁ => wpAny (model X.prog X.w) X.A (eval b X.env) (fun u s₂ => wpAny (model X.prog X.w) X.A (compareOp op v u) (EP X pins σ Q) X.xe s₂) X.xe s₁) X.xe s
theorem nobehind (b : Expr) {op : CmpOp} (h : op ≠ .In) (h2 : op ≠ .NotIn) : behindInMarks op b = false := by
  have e1 : (op == CmpOp.In) = false := by cases op <;> first | rfl | exact absurd rfl h
  have e2 : (op == CmpOp.NotIn) = false := by cases op <;> first | rfl | exact absurd rfl h2
  cases b <;> simp [behindInMarks, e1, e2]
def tIsN (ta : TE) : TE := fun σ H Q => ta σ H fun x H1 => Q (.bl (decide (x = .non))) H1
def tNotN (ta : TE) : TE := fun σ H Q => ta σ H fun x H1 => Q (.bl (!decide (x = .non))) H1
theorem RelV.none_iff {x : V} {v : Value} (r : RelV x v) : (v == Value.none) = decide (x = .non) := by
  cases x with
  | non => cases r; rfl
  | bl _ => cases r; rfl
  | int _ => obtain ⟨t, rfl⟩ := r; rfl
  | str _ => obtain ⟨t, rfl⟩ := r; rfl
  | byt _ => obtain ⟨t, rfl⟩ := r; rfl
  | flt _ => obtain ⟨t, rfl⟩ := r; rfl
  | ref _ => cases r; rfl
  | ty _ => cases r; rfl
theorem pc_isN {j pos'} (ha : PE X a ta) : PC X .Is a (.Constant .none j pos') (tIsN ta) := by
  intro pins s σ H Q I h
  refine thn (ha pins s σ H _ I h) fun v s1 ⟨x, H1, I1, r1, q1⟩ => ?_
  exact Constant_none (is_none_gen ⟨.bl _, H1, I1, by rw [r1.none_iff]; rfl, q1⟩)
theorem pc_notN {j pos'} (ha : PE X a ta) : PC X .IsNot a (.Constant .none j pos') (tNotN ta) := by
  intro pins s σ H Q I h
  refine thn (ha pins s σ H _ I h) fun v s1 ⟨x, H1, I1, r1, q1⟩ => ?_
  exact Constant_none (isnot_none_gen ⟨.bl _, H1, I1, by rw [r1.none_iff]; rfl, q1⟩)
def tB (t : TE) : TT := fun σ H Q => t σ H fun x H1 => ∃ c, x = .bl c ∧ Q c H1
theorem pe_cmp {op : CmpOp} {t : TE} (h : PC X op a b t) (h1 : behindInMarks op b = false := by first | exact nobehind _ (by decide) (by decide) | rfl) : PE X (.Compare a [op] [b] pos) t := fun pins s σ H Q I hw => wpAny_Compare1 (h pins s σ H Q I hw) h1
theorem pt_cmp {op : CmpOp} {t : TE} (h : PC X op a b t) (h1 : behindInMarks op b = false := by first | exact nobehind _ (by decide) (by decide) | rfl) : PT X (.Compare a [op] [b] pos) (tB t) := by
  intro pins s σ H Q I hw
  refine wpAny_isTrue_Compare1 (thn (h pins s σ H _ I hw) fun v s1 h1 => thn h1 fun u s2 h2 => thn h2 fun c s3 ⟨x, H1, I1, r1, q1⟩ => ?_) h1
  obtain ⟨d, rfl, q⟩ := q1
  cases r1
  exact wpAny_truthy_bool ⟨H1, I1, q⟩
theorem pt_val {e : Expr} {t : TE} (h : PE X e t) (he : ∀ whole, isTrue e X.env whole = (do let v ← whole; standAt e.pos; holding [v] (truthy v)) := by intro _; rfl) : PT X e (tB t) := by
  intro pins s σ H Q I hw
  refine isTrue_plain (thn (h pins s σ H _ I hw) fun v s1 ⟨x, H1, I1, r1, q1⟩ => ?_) (he _)
  obtain ⟨d, rfl, q⟩ := q1
  cases r1
  exact wpAny_truthy_bool ⟨H1, I1, q⟩
variable {tA tB' : TT} {rest : List Expr}
def tAnd (t u : TT) : TT := fun σ H Q => t σ H fun c H1 => if c = true then u σ H1 Q else Q false H1
def tOr (t u : TT) : TT := fun σ H Q => t σ H fun c H1 => if c = true then Q true H1 else u σ H1 Q
def tNot (t : TT) : TT := fun σ H Q => t σ H fun c H1 => Q (!c) H1
theorem pw_and1 (ha : PT X a tA) : PW X (.BoolOp .And [a] pos) tA := by
  intro wh pins s σ H Q I h
  refine isTrue_and (thn (ha pins s σ H Q I h) fun c s1 e => ?_)
  cases c with
  | true => exact isTrue_and_nil e
  | false => exact e
theorem pw_or1 (ha : PT X a tA) : PW X (.BoolOp .Or [a] pos) tA := by
  intro wh pins s σ H Q I h
  refine isTrue_or (thn (ha pins s σ H Q I h) fun c s1 e => ?_)
  cases c with
  | false => exact isTrue_or_nil e
  | true => exact e
theorem pw_and (ha : PT X a tA) (hb : PW X (.BoolOp .And (b :: rest) pos) tB') : PW X (.BoolOp .And (a :: b :: rest) pos) (tAnd tA tB') := by
  intro wh pins s σ H Q I h
  refine isTrue_and (thn (ha pins s σ H _ I h) fun c s1 ⟨H1, I1, q1⟩ => ?_)
  cases c with
  | true => exact hb wh pins s1 σ H1 Q I1 q1
  | false => exact ⟨H1, I1, q1⟩
theorem pw_or (ha : PT X a tA) (hb : PW X (.BoolOp .Or (b :: rest) pos) tB') : PW X (.BoolOp .Or (a :: b :: rest) pos) (tOr tA tB') := by
  intro wh pins s σ H Q I h
  refine isTrue_or (thn (ha pins s σ H _ I h) fun c s1 ⟨H1, I1, q1⟩ => ?_)
  cases c with
  | true => exact ⟨H1, I1, q1⟩
  | false => exact hb wh pins s1 σ H1 Q I1 q1
theorem pt_not (ha : PT X a tA) : PT X (.UnaryOp .Not a pos) (tNot tA) := by
  intro pins s σ H Q I h
  exact isTrue_not (ha pins s σ H (fun c H1 => Q (!c) H1) I h)
def tAndV (ta tb : TE) : TE := fun σ H Q => ta σ H fun x H1 => ∃ c, x = .bl c ∧ if c = true then tb σ H1 Q else Q (.bl false) H1
def tOrV (ta tb : TE) : TE := fun σ H Q => ta σ H fun x H1 => ∃ c, x = .bl c ∧ if c = true then Q (.bl true) H1 else tb σ H1 Q
theorem pe_one {op} {t : TE} (h : PE X a t) : PE X (.BoolOp op [a] pos) t := fun pins s σ H Q I hw => BoolOp_one (h pins s σ H Q I hw)
theorem pe_and (ha : PE X a ta) (hb : PE X (.BoolOp .And (b :: rest) pos) tb) : PE X (.BoolOp .And (a :: b :: rest) pos) (tAndV ta tb) := by
  intro pins s σ H Q I h
  refine BoolOp_and (thn (ha pins s σ H _ I h) fun v s1 ⟨x, H1, I1, r1, q1⟩ => ?_)
  obtain ⟨c, rfl, q1⟩ := q1
  cases r1
  refine wpAny_truthy_bool ?_
  cases c with
  | true => exact hb pins s1 σ H1 Q I1 q1
  | false => exact ⟨.bl false, H1, I1, rfl, q1⟩
theorem pe_or (ha : PE X a ta) (hb : PE X (.BoolOp .Or (b :: rest) pos) tb) : PE X (.BoolOp .Or (a :: b :: rest) pos) (tOrV ta tb) := by
  intro pins s σ H Q I h
  refine BoolOp_or (thn (ha pins s σ H _ I h) fun v s1 ⟨x, H1, I1, r1, q1⟩ => ?_)
  obtain ⟨c, rfl, q1⟩ := q1
  cases r1
  refine wpAny_truthy_bool ?_
  cases c with
  | false => exact hb pins s1 σ H1 Q I1 q1
  | true => exact ⟨.bl true, H1, I1, rfl, q1⟩
def tIf (t : TT) (ta tb : TE) : TE := fun σ H Q => t σ H fun c H1 => if c = true then ta σ H1 Q else tb σ H1 Q
theorem pe_ifExp {c : Expr} (hc : PT X c tA) (ha : PE X a ta) (hb : PE X b tb) : PE X (.IfExp c a b pos) (tIf tA ta tb) := by
  intro pins s σ H Q I h
  refine wpAny_IfExp (thn (hc pins s σ H _ I h) fun d s1 ⟨H1, I1, q1⟩ => ?_)
  cases d with
  | true => exact ha pins s1 σ H1 Q I1 q1
  | false => exact hb pins s1 σ H1 Q I1 q1
end
end L2
namespace L2
open PySem PySem.Spec PyProof.Rows
def SqL (K : PySem.W.Frag) (H : Hp) (a : Addr) (xs : List V) : Prop :=
  Rd H a (.lst xs) ∨
    ∃ (o : Obj) (its : Array Value) (n : Nat), K.lookup a = some o ∧ o.cls = .type "list" ∧ o.dict = none ∧ o.data = .seq its n ∧ its.size ≤ sizeLine ∧ Vals xs its.toList
def SqT (K : PySem.W.Frag) (H : Hp) (a : Addr) (xs : List V) : Prop :=
  Rd H a (.tup xs) ∨
    ∃ (o : Obj) (its : Array Value) (n : Nat), K.lookup a = some o ∧ o.cls = .type "tuple" ∧ o.data = .seq its n ∧ its.size ≤ sizeLine ∧ Vals xs its.toList
def absV : Value → Option V
  | .none => some .non
  | .bool b => some (.bl b)
  | .int i _ => some (.int i)
  | .str x _ => some (.str x)
  | .bytes b _ => some (.byt b)
  | .float b _ => some (.flt b)
  | .ref a => some (.ref a)
  | .type n => some (.ty n)
  | _ => none
theorem RelV.abs {x : V} {u : Value} (r : RelV x u) : absV u = some x := by
  cases x with
  | non => cases r; rfl
  | bl _ => cases r; rfl
  | int _ => obtain ⟨t, rfl⟩ := r; rfl
  | str _ => obtain ⟨t, rfl⟩ := r; rfl
  | byt _ => obtain ⟨t, rfl⟩ := r; rfl
  | flt _ => obtain ⟨t, rfl⟩ := r; rfl
  | ref _ => cases r; rfl
  | ty _ => cases r; rfl
theorem RelV.inj {x y : V} {u : Value} (r : RelV x u) (q : RelV y u) : x = y := Option.some.inj (r.abs.symm.trans q.abs)
theorem Vals.inj : ∀ {xs ys : List V} {us : List Value}, Vals xs us → Vals ys us → xs = ys
  | _, _, _, .nil, .nil => rfl
  | _, _, _, .cons r t, .cons r' t' => by rw [r.inj r', Vals.inj t t']
section
variable {X : Cx} {pins : List (Addr × Obj)} {σ : St} {H : Hp} {s : Shared} {a : Addr} {xs ys : List V}
theorem SqL.of {K : PySem.W.Frag} (h : H a = some (.lst xs)) : SqL K H a xs := .inl (.inl h)
theorem SqT.of {K : PySem.W.Frag} (h : H a = some (.tup xs)) : SqT K H a xs := .inl (.inl h)
theorem Inv.list (I : Inv X pins σ H s) (h : SqL X.K H a xs) : ∃ its : List Value, Vals xs its ∧ PlainL s.heap a its.toArray ∧ xs.length ≤ sizeLine := by
  rcases h with h | ⟨o, its, n, hk, hc, hd, hs, hz, r⟩
  · obtain ⟨z, its, n, r, e⟩ := h.ok I.hok
    exact ⟨its, r, ⟨_, n, e, rfl, rfl, rfl⟩, z⟩
  · refine ⟨its.toList, r, ⟨o, n, I.kIn a o hk, hc, hd, by simpa using hs⟩, ?_⟩
    have e := r.length
    simp only [Array.length_toList] at e
    omega
theorem Inv.tuple (I : Inv X pins σ H s) (h : SqT X.K H a xs) : ∃ its : List Value, Vals xs its ∧ IsTup s.heap a its.toArray ∧ xs.length ≤ sizeLine := by
  rcases h with h | ⟨o, its, n, hk, hc, hs, hz, r⟩
  · obtain ⟨z, its, r, p⟩ := h.ok I.hok
    exact ⟨its, r, p, z⟩
  · refine ⟨its.toList, r, ⟨o, I.kIn a o hk, hc, n, by simpa using hs⟩, ?_⟩
    have e := r.length
    simp only [Array.length_toList] at e
    omega
theorem Inv.list_inj (I : Inv X pins σ H s) (h : SqL X.K H a xs) (h' : SqL X.K H a ys) : xs = ys := by
  obtain ⟨its, r, ⟨o, n, e, _, _, d⟩, _⟩ := I.list h
  obtain ⟨its', r', ⟨o', n', e', _, _, d'⟩, _⟩ := I.list h'
  rw [e] at e'; cases e'
  rw [d] at d'
  injection d' with d1 _
  have : its = its' := by simpa using congrArg Array.toList d1
  subst this
  exact r.inj r'
theorem Inv.tuple_inj (I : Inv X pins σ H s) (h : SqT X.K H a xs) (h' : SqT X.K H a ys) : xs = ys := by
  obtain ⟨its, r, ⟨o, e, _, n, d⟩, _⟩ := I.tuple h
  obtain ⟨its', r', ⟨o', e', _, n', d'⟩, _⟩ := I.tuple h'
  rw [e] at e'; cases e'
  rw [d] at d'
  injection d' with d1 _
  have : its = its' := by simpa using congrArg Array.toList d1
  subst this
  exact r.inj r'
end
abbrev Cx.wish (X : Cx) (E : Value → Shared → Prop) : Cx := { X with xe := E }
abbrev Cx.nox (X : Cx) : Cx := X.wish fun _ _ => False
theorem Cx.Ok.wish {X : Cx} (ok : X.Ok) (E : Value → Shared → Prop) : (X.wish E).Ok :=
  ⟨ok.mod, ok.kind, ok.glob, ok.blt, ok.above, ok.inj, ok.has, ok.cab, ok.hd, ok.frames, ok.stk, ok.exf, ok.bs, ok.bsz, ok.noex, ok.exfs, ok.funs, ok.frf⟩
theorem Cx.Ok.unwish {X : Cx} {E : Value → Shared → Prop} (ok : (X.wish E).Ok) : X.Ok :=
  ⟨ok.mod, ok.kind, ok.glob, ok.blt, ok.above, ok.inj, ok.has, ok.cab, ok.hd, ok.frames, ok.stk, ok.exf, ok.bs, ok.bsz, ok.noex, ok.exfs, ok.funs, ok.frf⟩
section
variable {X : Cx} {pins : List (Addr × Obj)} {σ : St} {H : Hp} {s : Shared} {E : Value → Shared → Prop}
theorem Inv.wish (I : Inv X pins σ H s) (E : Value → Shared → Prop) : Inv (X.wish E) pins σ H s := ⟨I.ok.wish E, I.os, I.bare, I.base, I.loc, I.cell, I.free, I.freeC, I.pin, I.hok, I.len⟩
theorem Inv.unwish (I : Inv (X.wish E) pins σ H s) : Inv X pins σ H s := ⟨I.ok.unwish, I.os, I.bare, I.base, I.loc, I.cell, I.free, I.freeC, I.pin, I.hok, I.len⟩
theorem SP.unwish {D : Ends} {f : Flow} {s' : Shared} (h : SP (X.wish E) pins D f s') : SP X pins D f s' := by
  cases f with
  | next => obtain ⟨σ', H', I, q⟩ := h; exact ⟨σ', H', I.unwish, q⟩
  | brk => obtain ⟨σ', H', I, q⟩ := h; exact ⟨σ', H', I.unwish, q⟩
  | cont => obtain ⟨σ', H', I, q⟩ := h; exact ⟨σ', H', I.unwish, q⟩
  | ret u => obtain ⟨v, σ', H', I, r, q⟩ := h; exact ⟨v, σ', H', I.unwish, r, q⟩
theorem PSs.nox {st : List Stmt} {t : TS} (h : PSs X.nox st t) : PSs X st t := fun pins s σ H D I hw =>
  wpAny_mono (h pins s σ H D (I.wish _) hw) (fun _ _ q => q.unwish) fun _ _ z => False.elim z
end
section
variable {X : Cx} {st : Stmt} {rest : List Stmt} {t u : TS} {e : Expr} {te : TE} {pos : Pos}
def tNext : TS := fun D σ H => D.nx σ H
def tSeq (t u : TS) : TS := fun D σ H => t { D with nx := u D } σ H
theorem pss_nil : PSs X [] tNext := fun _ _ σ H _ I h => wpAny_execs_nil ⟨σ, H, I, h⟩
theorem pss_cons (h1 : PS X st t) (h2 : PSs X rest u) : PSs X (st :: rest) (tSeq t u) := by
  intro pins s σ H D I h
  refine wpAny_execs_cons (thn (h1 pins s σ H { D with nx := u D } I h) fun f s1 q => ?_)
  cases f with
  | next =>
    obtain ⟨σ', H', I', q⟩ := q
    exact h2 pins s1 σ' H' D I' q
  | ret v => exact q
  | brk => exact q
  | cont => exact q
theorem pss_one (h1 : PS X st t) : PSs X [st] t := by
  intro pins s σ H D I h
  refine wpAny_execs_cons (thn (h1 pins s σ H D I h) fun f s1 q => ?_)
  cases f with
  | next => exact wpAny_execs_nil q
  | ret v => exact q
  | brk => exact q
  | cont => exact q
theorem Inv.quiet {pins : List (Addr × Obj)} {σ : St} {H : Hp} {s : Shared} (I : Inv X pins σ H s) : interactive X.env = false := by simp [interactive, I.ok.kind]
def tDrop (te : TE) : TS := fun D σ H => te σ H fun _ H1 => D.nx σ H1
theorem ps_expr (he : PE X e te) (hs : swapsWith e none pos.line X.env = pure false := by rfl) : PS X (.Expr e pos) (tDrop te) := by
  intro pins s σ H D I h
  exact wpAny_Expr_any (thn (he pins s σ H _ I h) fun v s1 ⟨x, H1, I1, r1, q1⟩ => ⟨σ, H1, I1, q1⟩) I.quiet hs
def tRet (te : TE) : TS := fun D σ H => te σ H D.rt
theorem ps_ret (he : PE X e te) : PS X (.Return (some e) pos) (tRet te) := by
  intro pins s σ H D I h
  exact wpAny_Return_some (thn (he pins s σ H _ I h) fun v s1 ⟨x, H1, I1, r1, q1⟩ => ⟨x, σ, H1, I1, r1, q1⟩)
def tIfS (c : TT) (t u : TS) : TS := fun D σ H => c σ H fun b H1 => if b = true then t D σ H1 else u D σ H1
theorem ps_if {c : Expr} {a b : List Stmt} {tc : TT} (hc : PT X c tc) (ha : PSs X a t) (hb : PSs X b u) : PS X (.If c a b pos) (tIfS tc t u) := by
  intro pins s σ H D I h
  refine wpAny_If (thn (hc pins s σ H _ I h) fun d s1 ⟨H1, I1, q1⟩ => ?_)
  cases d with
  | true => exact ha pins s1 σ H1 D I1 q1
  | false => exact hb pins s1 σ H1 D I1 q1
end
abbrev TG := V → St → Hp → (St → Hp → Prop) → Prop
abbrev TGs := List V → St → Hp → (St → Hp → Prop) → Prop
def PG (X : Cx) (target : Expr) (t : TG) : Prop :=
  ∀ (pins : List (Addr × Obj)) (s : Shared) (σ : St) (H : Hp) (v : V) (u : Value) (Q : St → Hp → Prop), Inv X pins σ H s → RelV v u → t v σ H Q →
    wpAny (model X.prog X.w) X.A (assign target X.env u) (fun _ s' => ∃ σ' H', Inv X pins σ' H' s' ∧ Q σ' H') X.xe s
def PGs (X : Cx) (ts : List Expr) (t : TGs) : Prop :=
  ∀ (pins : List (Addr × Obj)) (s : Shared) (σ : St) (H : Hp) (vs : List V) (us : List Value) (Q : St → Hp → Prop), Inv X pins σ H s → Vals vs us → t vs σ H Q →
    wpAny (model X.prog X.w) X.A (assignInOrder ((assignEach ts X.env).map (·.2)) us) (fun _ s' => ∃ σ' H', Inv X pins σ' H' s' ∧ Q σ' H') X.xe s
section
variable {X : Cx} {pos : Pos}
def gName (i : Nat) : TG := fun v σ H Q => Q (σ.set i (some v)) H
theorem pg_name {i : Nat} {x : Str} (hN : X.N.Nodup) (hi : X.N[i]? = some x) (hx : Loc X.env.scope x) (hf : X.fn x = true ∨ X.env.scope.names.lookup x = some .local := by first | exact .inl rfl | exact .inr rfl | assumption) : PG X (.Name x pos) (gName i) := by
  intro pins s σ H v u Q I r h
  exact wpAny_assign_Name (store_ok I hN hi hx r (fun s' I' => ⟨_, H, I', h⟩) hf)
def gNil : TGs := fun vs σ H Q => vs = [] ∧ Q σ H
def gCons (t : TG) (u : TGs) : TGs := fun vs σ H Q => ∃ v r, vs = v :: r ∧ t v σ H fun σ' H' => u r σ' H' Q
theorem pgs_nil : PGs X [] gNil := by
  intro pins s σ H vs us Q I r h
  obtain ⟨e, h⟩ := h
  subst e
  cases r
  exact assignInOrder_nil ⟨σ, H, I, h⟩
theorem pgs_cons {e : Expr} {es : List Expr} {t : TG} {u : TGs} (h1 : PG X e t) (h2 : PGs X es u)
    (hs : (assignEach (e :: es) X.env).map (·.2) = assign e X.env :: (assignEach es X.env).map (·.2) := by rfl) : PGs X (e :: es) (gCons t u) := by
  intro pins s σ H vs us Q I r h
  obtain ⟨v, vr, e1, h⟩ := h
  subst e1
  cases r with
  | cons r rr =>
    rw [hs]
    refine assignInOrder_cons (thn (h1 pins s σ H _ _ _ I r h) fun _ s1 ⟨σ1, H1, I1, q1⟩ => ?_)
    exact h2 pins s1 σ1 H1 _ _ Q I1 rr q1
def gTup (K : PySem.W.Frag) (n : Nat) (t : TGs) : TG := fun v σ H Q => ∃ a xs, v = .ref a ∧ SqT K H a xs ∧ xs.length = n ∧ t xs σ H Q
theorem pg_tup {es : List Expr} {k : Nat} {t : TGs} {n : Nat} (hc : X.calm = true) (h : PGs X es t)
    (hn : (assignEach es X.env).length = n := by rfl) (hst : (assignEach es X.env).findIdx? (·.1) = none := by rfl) : PG X (.Tuple es k pos) (gTup X.K n t) := by
  intro pins s σ H v u Q I r hw
  obtain ⟨a, xs, e1, hq, hl, hw⟩ := hw
  subst e1
  cases r
  obtain ⟨its, rv, ht, hz⟩ := I.tuple hq
  refine assign_Tuple_tuple (I.ok.hd hc) ht (by simp [hn, ← hl, rv.length]) hst fun h' hx => ?_
  have I1 : Inv X pins σ H { s with heap := h' } := I.kept (t' := s.toks) fun b o e => hx b o (Nat.ne_of_lt (Heap.lt_size e)) e
  exact h pins _ σ H xs _ Q I1 (by simpa using rv) hw
def tAsg (te : TE) (g : TG) : TS := fun D σ H => te σ H fun x H1 => g x σ H1 D.nx
theorem ps_set {i : Nat} {x : Str} {e : Expr} {te : TE} {pos' : Pos} (hN : X.N.Nodup) (hi : X.N[i]? = some x) (hx : Loc X.env.scope x) (he : PE X e te) (hs : swapsWith e (some (.Name x pos')) pos.line X.env = pure false := by rfl) (hf : X.fn x = true ∨ X.env.scope.names.lookup x = some .local := by first | exact .inl rfl | exact .inr rfl | assumption) :
    PS X (.Assign [.Name x pos'] e pos) (tAsg te (gName i)) := by
  intro pins s σ H D I h
  refine wpAny_Assign_Name (thn (he pins s σ H _ I h) fun v s1 ⟨y, H1, I1, r1, q1⟩ => ?_) hs
  exact store_ok I1 hN hi hx r1 (fun s2 I2 => ⟨_, H1, I2, q1⟩) hf
end
section
variable {X : Cx} {pos : Pos}
def tWhile (c : TT) (tb : TS) : TS := fun D σ H => ∃ W : Nat → St → Hp → Prop, (∃ m, W m σ H) ∧ ∀ m σ H, W m σ H →
  c σ H fun b H1 => if b = true then ∃ N : St → Hp → Prop, (∀ σ' H', N σ' H' → ∃ m', m' < m ∧ W m' σ' H') ∧ tb { D with nx := N, ct := N, bk := D.nx } σ H1 else D.nx σ H1
theorem ps_while {c : Expr} {body : List Stmt} {tc : TT} {tb : TS} (hp : PassesOwn (model X.prog X.w) X.A X.env X.xe) (hc : PT X c tc) (hb : PSs X body tb) : PS X (.While c body [] pos) (tWhile tc tb) := by
  intro pins s σ H D I h
  obtain ⟨W, ⟨m0, w0⟩, turn⟩ := h
  refine wpAny_While (codeAny_whileLoop (fun n s' => ∃ σ' H', Inv X pins σ' H' s' ∧ W n σ' H') ?_ m0 ⟨σ, H, I, w0⟩)
  rintro n s1 ⟨σ1, H1, I1, w1⟩
  refine wpAny_passesOwn hp (thn (hc pins s1 σ1 H1 _ I1 (turn n σ1 H1 w1)) fun b s2 ⟨H2, I2, q2⟩ => ?_)
  cases b with
  | true =>
    obtain ⟨N, hN, q2⟩ := q2
    rw [if_pos rfl]
    refine wpAny_passesOwn hp (thn (hb pins s2 σ1 H2 _ I2 q2) fun f s3 q3 => ?_)
    cases f with
    | next =>
      obtain ⟨σ3, H3, I3, n3⟩ := q3
      obtain ⟨m', hm, w3⟩ := hN σ3 H3 n3
      exact ⟨m', hm, σ3, H3, I3, w3⟩
    | cont =>
      obtain ⟨σ3, H3, I3, n3⟩ := q3
      obtain ⟨m', hm, w3⟩ := hN σ3 H3 n3
      exact ⟨m', hm, σ3, H3, I3, w3⟩
    | brk => exact q3
    | ret v => exact q3
  | false =>
    rw [if_neg Bool.false_ne_true]
    exact wpAny_execs_nil ⟨σ1, H2, I2, q2⟩
end
structure It where
  go : Nat → Hp → Prop
  yld : Nat → Hp → V → Hp → Prop
  stop : Nat → Hp → Prop
def FpOk (X : Cx) (pins : List (Addr × Obj)) (H : Hp) (b : Addr) : Prop :=
  H b = none ∧ b ≠ X.env.locals ∧ b ∉ X.fs ∧ (b ∈ X.ex ∨ X.s_0.heap.objs.size ≤ b) ∧ (∀ x c, X.env.cells.lookup x = some c → c ≠ b) ∧ ∀ p ∈ X.pn ++ pins, p.1 ≠ b
theorem Inv.fpOk {X : Cx} {pins : List (Addr × Obj)} {σ : St} {H H' : Hp} {s : Shared} {b : Addr} (I : Inv X pins σ H s) (hb : s.heap.objs.size ≤ b) (hn : H' b = none) : FpOk X pins H' b := by
  refine ⟨hn, Nat.ne_of_gt (Nat.lt_of_lt_of_le I.lt hb), I.nofs hb, .inr (Nat.le_trans I.sz hb), fun x c e z => ?_, fun p hp z => ?_⟩
  · obtain ⟨v, q⟩ := I.cell x c e
    exact absurd (Nat.lt_of_lt_of_le q.lt (by rw [z]; exact hb)) (Nat.lt_irrefl _)
  · exact absurd (Nat.lt_of_lt_of_le (Heap.lt_size (I.pin p hp).1) (by rw [z]; exact hb)) (Nat.lt_irrefl _)
structure Turn (P : Program) (w : World) (K : PySem.W.Frag) (tg : Expr) (J : It) (fp : List Addr) (it : Addr) (tn : Nat → Heap → Prop) : Prop where
  mem : it ∈ fp
  obj : ∀ i h, tn i h → ∀ b ∈ fp, ∃ o, h.get? b = some o ∧ ∀ v, o.data ≠ .cell v
  keep : ∀ i h h', tn i h → (∀ b ∈ fp, ∀ o, h.get? b = some o → h'.get? b = some o) → tn i h'
  item : ∀ (X : Cx), X.prog = P → X.w = w → X.K = K → X.calm = true → ∀ (i : Nat) (pins : List (Addr × Obj)) (s : Shared) (σ : St) (H : Hp) (E : Value → Shared → Prop), Inv X pins σ H s → (∀ b ∈ fp, FpOk X pins H b) → tn i s.heap → J.go i H →
    wpAny (model P w) X.A (pyNext (.ref it)) (fun r s1 => ∃ u, r = some u ∧
      wpAny (model P w) X.A (letOwnedTupleGo tg (.ref it) u) (fun _ s2 => ∃ x H', Inv X pins σ H' s2 ∧ RelV x u ∧ J.yld i H x H' ∧ tn (i + 1) s2.heap ∧ ∀ b ∈ fp, H' b = none) E s1) E s
  done : ∀ (X : Cx), X.prog = P → X.w = w → X.K = K → X.calm = true → ∀ (i : Nat) (pins : List (Addr × Obj)) (s : Shared) (σ : St) (H : Hp) (E : Value → Shared → Prop), Inv X pins σ H s → (∀ b ∈ fp, FpOk X pins H b) → tn i s.heap → J.stop i H →
    wpAny (model P w) X.A (pyNext (.ref it)) (fun r s1 => r = none ∧ Inv X pins σ H s1) E s
  self : ∀ (A : Around) (i : Nat) (s : Shared) (Q : Value → Shared → Prop) (E : Value → Shared → Prop), tn i s.heap → Q (.ref it) s → wpAny (model P w) A (pyIter (.ref it)) Q E s
abbrev TI := St → Hp → (It → Hp → Prop) → Prop
def PIE (X : Cx) (pins : List (Addr × Obj)) (σ : St) (tg : Expr) (R : It → Hp → Prop) (itv : Value) (s2 : Shared) : Prop :=
  ∃ (it : Addr) (fp : List Addr) (tn : Nat → Heap → Prop) (J : It) (H' : Hp), itv = .ref it ∧ Inv X pins σ H' s2 ∧ Turn X.prog X.w X.K tg J fp it tn ∧ tn 0 s2.heap ∧ (∀ b ∈ fp, FpOk X pins H' b) ∧ R J H'
def PI (X : Cx) (tg iter : Expr) (wi : TI) : Prop :=
  ∀ (pins : List (Addr × Obj)) (s : Shared) (σ : St) (H : Hp) (R : It → Hp → Prop), Inv X pins σ H s → wi σ H R →
    wpAny (model X.prog X.w) X.A (eval iter X.env) (fun v s1 => wpAny (model X.prog X.w) X.A (pyIter v) (PIE X pins σ tg R) X.xe s1) X.xe s
theorem go_of {M : Model} {A : Around} {E : Value → Shared → Prop} {s : Shared} {tg : Expr} {it : Addr} {u : Value} {o : Obj} {n : String} {vs : Array Value} {Q : Unit → Shared → Prop} (ho : s.heap.get? it = some o) (hc : o.cls = .type n) (hd : o.data = .fields vs)
    (hn : ["enumerate", "zip", "dict_itemiterator", "dict_reverseitemiterator", "odict_iterator", "itertools.zip_longest", "itertools.pairwise"].contains n = false) (hQ : Q () s) : wpAny M A (letOwnedTupleGo tg (.ref it) u) Q E s := by
  unfold letOwnedTupleGo
  cases tg <;> first
    | exact wpAny_pure hQ
    | (cases u <;> first
        | exact wpAny_pure hQ
        | (refine wpAny_bind (wpAny_load ho ?_)
           rw [hc, hd]
           show wpAny M A (if (["enumerate", "zip", "dict_itemiterator", "dict_reverseitemiterator", "odict_iterator", "itertools.zip_longest", "itertools.pairwise"].contains n && vs[0]? == some (rawInt _)) = true then _ else _) Q E s
           rw [if_neg (by intro h; rw [hn, Bool.false_and] at h; cases h)]
           exact wpAny_pure hQ))
def Itl (K : PySem.W.Frag) (a : Addr) : It :=
  ⟨fun i H => ∃ xs x, SqL K H a xs ∧ xs[i]? = some x, fun i H x H' => H' = H ∧ ∀ xs, SqL K H a xs → xs[i]? = some x, fun i H => ∃ xs, SqL K H a xs ∧ xs.length ≤ i⟩
def Itt (K : PySem.W.Frag) (a : Addr) : It :=
  ⟨fun i H => ∃ xs x, SqT K H a xs ∧ xs[i]? = some x, fun i H x H' => H' = H ∧ ∀ xs, SqT K H a xs → xs[i]? = some x, fun i H => ∃ xs, SqT K H a xs ∧ xs.length ≤ i⟩
theorem turn_list {P : Program} {w : World} {K : PySem.W.Frag} {tg : Expr} (a it : Addr) : Turn P w K tg (Itl K a) [it] it (fun i h => h.IsListIter it a i) where
  mem := by simp
  obj := fun i h st b hb => by
    have e : b = it := by simpa using hb
    subst e
    obtain ⟨o, e, c, d⟩ := st
    exact ⟨o, e, fun v z => by rw [d] at z; cases z⟩
  keep := fun i h h' st k => st.at fun o e => k it (by simp) o e
  item := by
    intro X hP hw hK hc i pins s σ H E I hf st hg
    subst hP hw hK
    obtain ⟨xs, x, hq, hx⟩ := hg
    obtain ⟨its, rv, p, hz⟩ := I.list hq
    obtain ⟨u, hu, ru⟩ := rv.get hx
    obtain ⟨f0, f1, f2, f3, f4, f5⟩ := hf it (by simp)
    refine wpAny_pyNext_list_item st p.isList (x := u) (by simpa using hu) fun h' st' sb => ?_
    have I1 : Inv X pins σ H { s with heap := h' } := I.turned (t' := s.toks) (fun b o hb e => (sb.2 b hb).trans e) f0 f1 f3 f4 f5
    obtain ⟨o, e, c, d⟩ := id st'
    exact ⟨u, rfl, go_of (s := { s with heap := h' }) e c d (by decide) ⟨x, H, I1, ru, ⟨rfl, fun ys hy => by rw [I.list_inj hy hq]; exact hx⟩, st', fun b hb => (hf b hb).1⟩⟩
  done := by
    intro X hP hw hK hc i pins s σ H E I hf st hg
    subst hP hw hK
    obtain ⟨xs, hq, hx⟩ := hg
    obtain ⟨its, rv, p, hz⟩ := I.list hq
    obtain ⟨f0, f1, f2, f3, f4, f5⟩ := hf it (by simp)
    have hl := rv.length
    exact wpAny_pyNext_list_end (I.ok.hd hc) st p.isList (by simp; omega) fun h' eb => ⟨rfl, I.turned (t' := s.toks) (fun b o hb e => eb b o hb e) f0 f1 f3 f4 f5⟩
  self := fun _ _ _ _ _ st h => wpAny_pyIter_listiter st h
theorem turn_tuple {P : Program} {w : World} {K : PySem.W.Frag} {tg : Expr} (a it : Addr) : Turn P w K tg (Itt K a) [it] it (fun i h => h.IsTupleIter it a i) where
  mem := by simp
  obj := fun i h st b hb => by
    have e : b = it := by simpa using hb
    subst e
    obtain ⟨o, e, c, d⟩ := st
    exact ⟨o, e, fun v z => by rw [d] at z; cases z⟩
  keep := fun i h h' st k => st.at fun o e => k it (by simp) o e
  item := by
    intro X hP hw hK hc i pins s σ H E I hf st hg
    subst hP hw hK
    obtain ⟨xs, x, hq, hx⟩ := hg
    obtain ⟨its, rv, p, hz⟩ := I.tuple hq
    obtain ⟨u, hu, ru⟩ := rv.get hx
    obtain ⟨f0, f1, f2, f3, f4, f5⟩ := hf it (by simp)
    refine wpAny_pyNext_tuple_item st (show s.heap.IsTuple a its.toArray from p) (x := u) (by simpa using hu) fun h' st' sb => ?_
    have I1 : Inv X pins σ H { s with heap := h' } := I.turned (t' := s.toks) (fun b o hb e => (sb.2 b hb).trans e) f0 f1 f3 f4 f5
    obtain ⟨o, e, c, d⟩ := id st'
    exact ⟨u, rfl, go_of (s := { s with heap := h' }) e c d (by decide) ⟨x, H, I1, ru, ⟨rfl, fun ys hy => by rw [I.tuple_inj hy hq]; exact hx⟩, st', fun b hb => (hf b hb).1⟩⟩
  done := by
    intro X hP hw hK hc i pins s σ H E I hf st hg
    subst hP hw hK
    obtain ⟨xs, hq, hx⟩ := hg
    obtain ⟨its, rv, p, hz⟩ := I.tuple hq
    obtain ⟨f0, f1, f2, f3, f4, f5⟩ := hf it (by simp)
    have hl := rv.length
    exact wpAny_pyNext_tuple_end (I.ok.hd hc) st (show s.heap.IsTuple a its.toArray from p) (by simp; omega) fun h' eb => ⟨rfl, I.turned (t' := s.toks) (fun b o hb e => eb b o hb e) f0 f1 f3 f4 f5⟩
  self := fun _ _ _ _ _ st h => wpAny_pyIter_tupleiter st h
end L2
namespace L2
open PySem PySem.Spec PyProof.Rows
section
variable {X : Cx} {tg : Expr}
def iList (K : PySem.W.Frag) (tl : TE) : TI := fun σ H R => tl σ H fun x H1 => ∃ a, x = .ref a ∧ (∃ xs, SqL K H1 a xs) ∧ R (Itl K a) H1
def iTup (K : PySem.W.Frag) (tl : TE) : TI := fun σ H R => tl σ H fun x H1 => ∃ a, x = .ref a ∧ (∃ xs, SqT K H1 a xs) ∧ R (Itt K a) H1
theorem pi_list {l : Expr} {tl : TE} (hl : PE X l tl) : PI X tg l (iList X.K tl) := by
  intro pins s σ H R I h
  refine thn (hl pins s σ H _ I h) fun v s1 ⟨x, H1, I1, r1, q1⟩ => ?_
  obtain ⟨a, e, ⟨xs, hq⟩, q⟩ := q1
  subst e
  cases r1
  obtain ⟨its, rv, p, hz⟩ := I1.list hq
  refine wpAny_pyIter_list p.isList ?_
  refine ⟨s1.heap.objs.size, [s1.heap.objs.size], _, _, H1, rfl, I1.kept (t' := s1.toks) fun b o e => Heap.get?_push_of_some _ e, turn_list a _, ⟨_, Heap.get?_push_size _ rfl, rfl, rfl⟩, fun b hb => ?_, q⟩
  have e : b = s1.heap.objs.size := by simpa using hb
  subst e
  exact I1.fpOk (Nat.le_refl _) (I1.hok.fresh (Nat.le_refl _))
theorem pi_tup {l : Expr} {tl : TE} (hl : PE X l tl) : PI X tg l (iTup X.K tl) := by
  intro pins s σ H R I h
  refine thn (hl pins s σ H _ I h) fun v s1 ⟨x, H1, I1, r1, q1⟩ => ?_
  obtain ⟨a, e, ⟨xs, hq⟩, q⟩ := q1
  subst e
  cases r1
  obtain ⟨its, rv, p, hz⟩ := I1.tuple hq
  refine wpAny_pyIter_tuple (show s1.heap.IsTuple a its.toArray from p) ?_
  refine ⟨s1.heap.objs.size, [s1.heap.objs.size], _, _, H1, rfl, I1.kept (t' := s1.toks) fun b o e => Heap.get?_push_of_some _ e, turn_tuple a _, ⟨_, Heap.get?_push_size _ rfl, rfl, rfl⟩, fun b hb => ?_, q⟩
  have e : b = s1.heap.objs.size := by simpa using hb
  subst e
  exact I1.fpOk (Nat.le_refl _) (I1.hok.fresh (Nat.le_refl _))
def tFor (wi : TI) (g : TG) (tb : TS) : TS := fun D σ H => wi σ H fun J H1 => ∃ W : Nat → Nat → St → Hp → Prop, (∃ m, W 0 m σ H1) ∧ ∀ i m σ H, W i m σ H →
  (J.stop i H ∧ D.nx σ H) ∨ (J.go i H ∧ ∃ N : St → Hp → Prop, (∀ σ' H', N σ' H' → ∃ m', m' < m ∧ W (i + 1) m' σ' H') ∧ ∀ x H', J.yld i H x H' → g x σ H' fun σ2 H2 => tb { D with nx := N, ct := N, bk := D.nx } σ2 H2)
def pinsAt (fp : List Addr) (h : Heap) : List (Addr × Obj) := fp.filterMap fun b => (h.get? b).map fun o => (b, o)
theorem mem_pinsAt {fp : List Addr} {h : Heap} {b : Addr} {o : Obj} (hb : b ∈ fp) (e : h.get? b = some o) : (b, o) ∈ pinsAt fp h := List.mem_filterMap.mpr ⟨b, hb, by rw [e]; rfl⟩
theorem of_pinsAt {fp : List Addr} {h : Heap} {p : Addr × Obj} (hp : p ∈ pinsAt fp h) : p.1 ∈ fp ∧ h.get? p.1 = some p.2 := by
  obtain ⟨b, hb, e⟩ := List.mem_filterMap.mp hp
  cases q : h.get? b with
  | none => rw [q] at e; cases e
  | some o =>
    rw [q] at e
    have e' : (b, o) = p := Option.some.inj e
    subst e'
    exact ⟨hb, q⟩
theorem Inv.pinned {pins : List (Addr × Obj)} {σ : St} {H : Hp} {s : Shared} {fp : List Addr} (I : Inv X pins σ H s) (hf : ∀ b ∈ fp, FpOk X pins H b) (ho : ∀ b ∈ fp, ∃ o, s.heap.get? b = some o ∧ ∀ v, o.data ≠ .cell v) : Inv X (pins ++ pinsAt fp s.heap) σ H s :=
  I.pins_of fun p hp => (List.mem_append.mp hp).elim (fun z => I.pin p (List.mem_append_right _ z)) fun z => by
    obtain ⟨hb, e⟩ := of_pinsAt z
    obtain ⟨f0, f1, f2, _⟩ := hf p.1 hb
    obtain ⟨o, e', d⟩ := ho p.1 hb
    rw [e] at e'; cases e'
    exact ⟨e, f0, f1, f2, d⟩
theorem Inv.unpinned {pins pl : List (Addr × Obj)} {σ : St} {H : Hp} {s : Shared} (I : Inv X (pins ++ pl) σ H s) : Inv X pins σ H s := I.pins_of fun p hp => I.pin p (List.mem_append_right _ (List.mem_append_left _ hp))
theorem ps_for {iter : Expr} {body : List Stmt} {wi : TI} {g : TG} {tb : TS} {pos : Pos} (hp : PassesOwn (model X.prog X.w) X.A X.env X.xe) (hc : X.calm = true) (hi : PI X tg iter wi) (hg : PG X tg g) (hb : PSs X body tb)
    (hs : ∀ x, foldedSetIterable iter X.env x = pure x := by intro _; rfl) : PS X (.For tg iter body [] pos) (tFor wi g tb) := by
  intro pins s σ H D I h
  refine wpAny_For (thn (hi pins s σ H _ I h) fun v s1 h1 => thn h1 fun itv s2 h2 => ?_) hs
  obtain ⟨it, fp, tn, J, H2, e, I2, T, st2, f2, W, ⟨m0, w0⟩, turn⟩ := h2
  subst e
  have stat : ∀ {H' : Hp}, (∀ b ∈ fp, H' b = none) → ∀ b ∈ fp, FpOk X pins H' b := fun hn b hb => ⟨hn b hb, (f2 b hb).2⟩
  refine codeAny_forLoop_any (fun n s' => ∃ i σ' H', Inv X pins σ' H' s' ∧ tn i s'.heap ∧ (∀ b ∈ fp, H' b = none) ∧ W i n σ' H') ?_ m0 ⟨0, σ, H2, I2, st2, fun b hb => (f2 b hb).1, w0⟩
  rintro n s3 ⟨i, σ3, H3, I3, st3, fr3, w3⟩
  rcases turn i n σ3 H3 w3 with ⟨stop, qn⟩ | ⟨go, N, hN, step⟩
  · refine wpAny_passesOwn hp (thn (T.done X rfl rfl rfl hc i pins s3 σ3 H3 X.xe I3 (stat fr3) st3 stop) fun r s4 ⟨hr, I4⟩ => ?_)
    subst hr
    exact wpAny_execs_nil ⟨σ3, H3, I4, qn⟩
  · refine wpAny_passesOwn hp (thn (T.item X rfl rfl rfl hc i pins s3 σ3 H3 X.xe I3 (stat fr3) st3 go) fun r s4 ⟨u, hr, h4⟩ => ?_)
    subst hr
    refine wpAny_passesOwn hp (thn h4 fun _ s5 ⟨x, H5, I5, r5, y5, st5, fr5⟩ => ?_)
    have I5' := I5.pinned (stat fr5) (T.obj _ _ st5)
    refine wpAny_passesOwn hp (thn (hg _ s5 σ3 H5 x u _ I5' r5 (step x H5 y5)) fun _ s6 ⟨σ6, H6, I6, q6⟩ => ?_)
    refine wpAny_passesOwn hp (thn (hb _ s6 σ6 H6 _ I6 q6) fun f s7 q7 => ?_)
    have again : ∀ {σ7 : St} {H7 : Hp}, Inv X (pins ++ pinsAt fp s5.heap) σ7 H7 s7 → N σ7 H7 → ∃ m, m < n ∧ ∃ i σ' H', Inv X pins σ' H' s7 ∧ tn i s7.heap ∧ (∀ b ∈ fp, H' b = none) ∧ W i m σ' H' := fun {σ7 H7} I7 n7 => by
      obtain ⟨m', hm, w7⟩ := hN σ7 H7 n7
      refine ⟨m', hm, i + 1, σ7, H7, I7.unpinned, T.keep _ _ _ st5 fun b hb o e => (I7.pin (b, o) (List.mem_append_right _ (List.mem_append_right _ (mem_pinsAt hb e)))).1, fun b hb => ?_, w7⟩
      obtain ⟨o, e, d⟩ := T.obj _ _ st5 b hb
      exact (I7.pin (b, o) (List.mem_append_right _ (List.mem_append_right _ (mem_pinsAt hb e)))).2.1
    cases f with
    | next => obtain ⟨σ7, H7, I7, n7⟩ := q7; exact again I7 n7
    | cont => obtain ⟨σ7, H7, I7, n7⟩ := q7; exact again I7 n7
    | brk => obtain ⟨σ7, H7, I7, q7⟩ := q7; exact ⟨σ7, H7, I7.unpinned, q7⟩
    | ret v => obtain ⟨x7, σ7, H7, I7, r7, q7⟩ := q7; exact ⟨x7, σ7, H7, I7.unpinned, r7, q7⟩
end
theorem for_list {K : PySem.W.Frag} {a : Addr} {xs : List V} {g : TG} {tb : TS} {D : Ends} {σ : St} {H : Hp} (Pv : Nat → St → Hp → Prop) (h0 : Pv 0 σ H) (hl : ∀ i σ H, i ≤ xs.length → Pv i σ H → SqL K H a xs)
    (hs : ∀ i x σ H, xs[i]? = some x → Pv i σ H → g x σ H fun σ2 H2 => tb { D with nx := Pv (i + 1), ct := Pv (i + 1), bk := D.nx } σ2 H2) (hd : ∀ σ H, Pv xs.length σ H → D.nx σ H) :
    ∃ W : Nat → Nat → St → Hp → Prop, (∃ m, W 0 m σ H) ∧ ∀ i m σ H, W i m σ H →
      ((Itl K a).stop i H ∧ D.nx σ H) ∨ ((Itl K a).go i H ∧ ∃ N : St → Hp → Prop, (∀ σ' H', N σ' H' → ∃ m', m' < m ∧ W (i + 1) m' σ' H') ∧ ∀ x H', (Itl K a).yld i H x H' → g x σ H' fun σ2 H2 => tb { D with nx := N, ct := N, bk := D.nx } σ2 H2) := by
  refine ⟨fun i m σ H => m = xs.length - i ∧ i ≤ xs.length ∧ Pv i σ H, ⟨xs.length, by simp, Nat.zero_le _, h0⟩, ?_⟩
  rintro i m σ H ⟨rfl, hi, p⟩
  have q := hl i σ H hi p
  by_cases hlt : i < xs.length
  · refine .inr ⟨⟨xs, xs[i], q, by simp [hlt]⟩, Pv (i + 1), fun σ' H' p' => ⟨xs.length - (i + 1), by omega, rfl, hlt, p'⟩, fun x H' y => ?_⟩
    obtain ⟨e, y⟩ := y
    subst e
    exact hs i x σ _ (y xs q) p
  · have e : i = xs.length := by omega
    subst e
    exact .inl ⟨⟨xs, q, Nat.le_refl _⟩, hd σ H p⟩
theorem for_tup {K : PySem.W.Frag} {a : Addr} {xs : List V} {g : TG} {tb : TS} {D : Ends} {σ : St} {H : Hp} (Pv : Nat → St → Hp → Prop) (h0 : Pv 0 σ H) (hl : ∀ i σ H, i ≤ xs.length → Pv i σ H → SqT K H a xs)
    (hs : ∀ i x σ H, xs[i]? = some x → Pv i σ H → g x σ H fun σ2 H2 => tb { D with nx := Pv (i + 1), ct := Pv (i + 1), bk := D.nx } σ2 H2) (hd : ∀ σ H, Pv xs.length σ H → D.nx σ H) :
    ∃ W : Nat → Nat → St → Hp → Prop, (∃ m, W 0 m σ H) ∧ ∀ i m σ H, W i m σ H →
      ((Itt K a).stop i H ∧ D.nx σ H) ∨ ((Itt K a).go i H ∧ ∃ N : St → Hp → Prop, (∀ σ' H', N σ' H' → ∃ m', m' < m ∧ W (i + 1) m' σ' H') ∧ ∀ x H', (Itt K a).yld i H x H' → g x σ H' fun σ2 H2 => tb { D with nx := N, ct := N, bk := D.nx } σ2 H2) := by
  refine ⟨fun i m σ H => m = xs.length - i ∧ i ≤ xs.length ∧ Pv i σ H, ⟨xs.length, by simp, Nat.zero_le _, h0⟩, ?_⟩
  rintro i m σ H ⟨rfl, hi, p⟩
  have q := hl i σ H hi p
  by_cases hlt : i < xs.length
  · refine .inr ⟨⟨xs, xs[i], q, by simp [hlt]⟩, Pv (i + 1), fun σ' H' p' => ⟨xs.length - (i + 1), by omega, rfl, hlt, p'⟩, fun x H' y => ?_⟩
    obtain ⟨e, y⟩ := y
    subst e
    exact hs i x σ _ (y xs q) p
  · have e : i = xs.length := by omega
    subst e
    exact .inl ⟨⟨xs, q, Nat.le_refl _⟩, hd σ H p⟩
end L2
namespace L2
open PySem PySem.Spec PyProof.Rows
abbrev R2 := V → V → Hp → VK → Prop
def OpR (X : Cx) (f : Value → Value → Sem Value) (r : R2) : Prop :=
  ∀ (pins : List (Addr × Obj)) (s : Shared) (σ : St) (H : Hp) (x y : V) (v u : Value) (Q : VK), Inv X pins σ H s → RelV x v → RelV y u → r x y H Q →
    wpAny (model X.prog X.w) X.A (f v u) (EP X pins σ Q) X.xe s
def UnR (X : Cx) (f : Value → Sem Value) (r : V → Hp → VK → Prop) : Prop :=
  ∀ (pins : List (Addr × Obj)) (s : Shared) (σ : St) (H : Hp) (x : V) (v : Value) (Q : VK), Inv X pins σ H s → RelV x v → r x H Q →
    wpAny (model X.prog X.w) X.A (f v) (EP X pins σ Q) X.xe s
def CallR (X : Cx) (f : Value) (r : List V → Hp → VK → Prop) : Prop :=
  ∀ (pins : List (Addr × Obj)) (s : Shared) (σ : St) (H : Hp) (xs : List V) (us : List Value) (Q : VK), Inv X pins σ H s → Vals xs us → r xs H Q →
    wpAny (model X.prog X.w) X.A (call f us) (EP X pins σ Q) X.xe s
def tOp (r : R2) (ta tb : TE) : TE := fun σ H Q => ta σ H fun x H1 => tb σ H1 fun y H2 => r x y H2 Q
def tUn (r : V → Hp → VK → Prop) (ta : TE) : TE := fun σ H Q => ta σ H fun x H1 => r x H1 Q
def rI0 (g : Int → Int → V) : R2 := fun x y H Q => ∃ i j, x = .int i ∧ y = .int j ∧ Q (g i j) H
def rU (g : Int → V) : V → Hp → VK → Prop := fun x H Q => ∃ i, x = .int i ∧ Q (g i) H
section
variable {X : Cx} {a b c : Expr} {ta tb tc : TE} {pos : Pos}
theorem binT (ha : PE X a ta) (hb : PE X b tb) {pins : List (Addr × Obj)} {s : Shared} {σ : St} {H : Hp} {R : V → V → Hp → Prop} (I : Inv X pins σ H s)
    (h : ta σ H fun x H1 => tb σ H1 fun y H2 => R x y H2) {Q : Value → Shared → Prop} {f : Value → Value → Sem Value}
    (hf : ∀ v u s2 x y H2, Inv X pins σ H2 s2 → RelV x v → RelV y u → R x y H2 → wpAny (model X.prog X.w) X.A (f v u) Q X.xe s2) :
    wpAny (model X.prog X.w) X.A (eval a X.env) (fun v s₁ => wpAny (model X.prog X.w) X.A (eval b X.env) (fun u s₂ => wpAny (model X.prog X.w) X.A (f v u) Q X.xe s₂) X.xe s₁) X.xe s := by
  refine thn (ha pins s σ H _ I h) fun v s1 ⟨x, H1, I1, r1, q1⟩ => ?_
  refine thn (hb pins s1 σ H1 _ I1 q1) fun u s2 ⟨y, H2, I2, r2, q2⟩ => ?_
  exact hf v u s2 x y H2 I2 r1 r2 q2
theorem pe_op {op : Operator} {r : R2} (ho : OpR X (binaryOp op) r) (ha : PE X a ta) (hb : PE X b tb) : PE X (.BinOp a op b pos) (tOp r ta tb) := by
  intro pins s σ H Q I h
  exact wpAny_BinOp (binT ha hb I h fun v u s2 x y H2 I2 rx ry q => ho pins s2 σ H2 x y v u Q I2 rx ry q)
theorem pe_un {op : UnaryOp} {r : V → Hp → VK → Prop} (ho : UnR X (unaryOp op) r) (ha : PE X a ta) : PE X (.UnaryOp op a pos) (tUn r ta) := by
  intro pins s σ H Q I h
  exact UnaryOp_ (thn (ha pins s σ H _ I h) fun v s1 ⟨x, H1, I1, r1, q1⟩ => ho pins s1 σ H1 x v Q I1 r1 q1)
theorem opI0 {f : Value → Value → Sem Value} {g : Int → Int → Int}
    (rule : ∀ (i j : Int) (t u : Tok) (s : Shared) (Q : Value → Shared → Prop) (E : Value → Shared → Prop), Q (.int (g i j) s.toks) { s with toks := s.toks + 1 } → wpAny (model X.prog X.w) X.A (f (.int i t) (.int j u)) Q E s) :
    OpR X f (rI0 fun i j => .int (g i j)) := by
  intro pins s σ H x y v u Q I rx ry h
  obtain ⟨i, j, rfl, rfl, q⟩ := h
  obtain ⟨t, rfl⟩ := rx
  obtain ⟨t', rfl⟩ := ry
  exact rule i j t t' s _ _ ⟨.int (g i j), H, I.tok _, ⟨_, rfl⟩, q⟩
theorem opB0 {f : Value → Value → Sem Value} {g : Int → Int → Bool}
    (rule : ∀ (i j : Int) (t u : Tok) (s : Shared) (Q : Value → Shared → Prop) (E : Value → Shared → Prop), Q (.bool (g i j)) s → wpAny (model X.prog X.w) X.A (f (.int i t) (.int j u)) Q E s) :
    OpR X f (rI0 fun i j => .bl (g i j)) := by
  intro pins s σ H x y v u Q I rx ry h
  obtain ⟨i, j, rfl, rfl, q⟩ := h
  obtain ⟨t, rfl⟩ := rx
  obtain ⟨t', rfl⟩ := ry
  exact rule i j t t' s _ _ ⟨.bl (g i j), H, I, rfl, q⟩
theorem op_add : OpR X (binaryOp .Add) (rI0 fun i j => .int (i + j)) := opI0 fun _ _ _ _ _ _ _ q => add_int q
theorem op_sub : OpR X (binaryOp .Sub) (rI0 fun i j => .int (i - j)) := opI0 fun _ _ _ _ _ _ _ q => sub_int q
theorem unI {f : Value → Sem Value} {g : Int → Int}
    (rule : ∀ (i : Int) (t : Tok) (s : Shared) (Q : Value → Shared → Prop) (E : Value → Shared → Prop), Q (.int (g i) s.toks) { s with toks := s.toks + 1 } → wpAny (model X.prog X.w) X.A (f (.int i t)) Q E s) :
    UnR X f (rU fun i => .int (g i)) := by
  intro pins s σ H x v Q I rx h
  obtain ⟨i, rfl, q⟩ := h
  obtain ⟨t, rfl⟩ := rx
  exact rule i t s _ _ ⟨.int (g i), H, I.tok _, ⟨_, rfl⟩, q⟩
theorem un_neg : UnR X (unaryOp .USub) (rU fun i => .int (-i)) := unI fun _ _ _ _ _ q => neg_int q
end
def scal : V → V → Bool
  | .non, .non => true | .non, .int _ => true | .int _, .non => true | .non, .bl _ => true | .bl _, .non => true | .non, .str _ => true | .str _, .non => true
  | .int _, .int _ => true | .bl _, .bl _ => true | .str _, .str _ => true | .byt _, .byt _ => true
  | .int _, .str _ => true | .str _, .int _ => true | .bl _, .str _ => true | .str _, .bl _ => true
  | _, _ => false
def rEq : R2 := fun x y H Q => scal x y = true ∧ Q (.bl (decide (x = y))) H
def rNe : R2 := fun x y H Q => scal x y = true ∧ Q (.bl (!decide (x = y))) H
theorem dec_int {i j : Int} : decide (V.int i = V.int j) = (i == j) := by
  rw [Bool.eq_iff_iff]
  simp
theorem dec_bl {i j : Bool} : decide (V.bl i = V.bl j) = (i == j) := by
  rw [Bool.eq_iff_iff]
  simp
theorem dec_str {i j : Str} : decide (V.str i = V.str j) = (i == j) := by
  rw [Bool.eq_iff_iff]
  simp
theorem dec_byt {i j : Array UInt8} : decide (V.byt i = V.byt j) = (i.toList == j.toList) := by
  rw [Bool.eq_iff_iff]
  cases i
  cases j
  simp
section
variable {X : Cx} {a b c : Expr} {ta tb tc : TE} {pos : Pos}
theorem fin_bl {pins : List (Addr × Obj)} {σ : St} {H : Hp} {s : Shared} {Q : VK} {k k' : Bool} (I : Inv X pins σ H s) (q : Q (.bl k) H) (e : k = k') : EP X pins σ Q (.bool k') s := by
  subst e
  exact ⟨.bl k, H, I, rfl, q⟩
theorem op_eq : OpR X (compareOp .Eq) rEq := by
  intro pins s σ H x y v u Q I rx ry h
  obtain ⟨hs, q⟩ := h
  cases x with
  | non =>
    cases rx
    cases y with
    | non => cases ry; exact PySem.EqNone.eq_none_none (fin_bl I q (by simp))
    | bl j => cases ry; exact PySem.EqNone.eq_none_bool (fin_bl I q (by simp))
    | int j => obtain ⟨t', rfl⟩ := ry; exact PySem.EqNone.eq_none_int (fin_bl I q (by simp))
    | str j => obtain ⟨t', rfl⟩ := ry; exact PySem.EqNone.eq_none_str (fin_bl I q (by simp))
    | _ => exact absurd (show false = true from hs) Bool.false_ne_true
  | bl i =>
    cases rx
    cases y with
    | non => cases ry; exact PySem.EqNone.eq_bool_none (fin_bl I q (by simp))
    | bl j => cases ry; exact eq_bool (fin_bl I q dec_bl)
    | str j => obtain ⟨t', rfl⟩ := ry; exact PySem.EqMixed.eq_bool_str (fin_bl I q (by simp))
    | _ => exact absurd (show false = true from hs) Bool.false_ne_true
  | int i =>
    obtain ⟨t, rfl⟩ := rx
    cases y with
    | non => cases ry; exact PySem.EqNone.eq_int_none (fin_bl I q (by simp))
    | int j => obtain ⟨t', rfl⟩ := ry; exact eq_int (fin_bl I q dec_int)
    | str j => obtain ⟨t', rfl⟩ := ry; exact PySem.EqMixed.eq_int_str (fin_bl I q (by simp))
    | _ => exact absurd (show false = true from hs) Bool.false_ne_true
  | str i =>
    obtain ⟨t, rfl⟩ := rx
    cases y with
    | non => cases ry; exact PySem.EqNone.eq_str_none (fin_bl I q (by simp))
    | bl j => cases ry; exact PySem.EqMixed.eq_str_bool (fin_bl I q (by simp))
    | int j => obtain ⟨t', rfl⟩ := ry; exact PySem.EqMixed.eq_str_int (fin_bl I q (by simp))
    | str j => obtain ⟨t', rfl⟩ := ry; exact eq_str (fin_bl I q dec_str)
    | _ => exact absurd (show false = true from hs) Bool.false_ne_true
  | byt i =>
    obtain ⟨t, rfl⟩ := rx
    cases y with
    | byt j => obtain ⟨t', rfl⟩ := ry; exact PySem.W.eq_bytes (fin_bl I q dec_byt)
    | _ => exact absurd (show false = true from hs) Bool.false_ne_true
  | _ => cases y <;> exact absurd (show false = true from hs) Bool.false_ne_true
theorem op_ne : OpR X (compareOp .NotEq) rNe := by
  intro pins s σ H x y v u Q I rx ry h
  obtain ⟨hs, q⟩ := h
  cases x with
  | non =>
    cases rx
    cases y with
    | non => cases ry; exact PySem.EqNone.ne_none_none (fin_bl I q (by simp))
    | bl j => cases ry; exact PySem.EqNone.ne_none_bool (fin_bl I q (by simp))
    | int j => obtain ⟨t', rfl⟩ := ry; exact PySem.EqNone.ne_none_int (fin_bl I q (by simp))
    | str j => obtain ⟨t', rfl⟩ := ry; exact PySem.EqNone.ne_none_str (fin_bl I q (by simp))
    | _ => exact absurd (show false = true from hs) Bool.false_ne_true
  | bl i =>
    cases rx
    cases y with
    | non => cases ry; exact PySem.EqNone.ne_bool_none (fin_bl I q (by simp))
    | bl j => cases ry; exact ne_bool (fin_bl I q (congrArg not dec_bl))
    | str j => obtain ⟨t', rfl⟩ := ry; exact PySem.EqMixed.ne_bool_str (fin_bl I q (by simp))
    | _ => exact absurd (show false = true from hs) Bool.false_ne_true
  | int i =>
    obtain ⟨t, rfl⟩ := rx
    cases y with
    | non => cases ry; exact PySem.EqNone.ne_int_none (fin_bl I q (by simp))
    | int j => obtain ⟨t', rfl⟩ := ry; exact ne_int (fin_bl I q (congrArg not dec_int))
    | str j => obtain ⟨t', rfl⟩ := ry; exact PySem.EqMixed.ne_int_str (fin_bl I q (by simp))
    | _ => exact absurd (show false = true from hs) Bool.false_ne_true
  | str i =>
    obtain ⟨t, rfl⟩ := rx
    cases y with
    | non => cases ry; exact PySem.EqNone.ne_str_none (fin_bl I q (by simp))
    | bl j => cases ry; exact PySem.EqMixed.ne_str_bool (fin_bl I q (by simp))
    | int j => obtain ⟨t', rfl⟩ := ry; exact PySem.EqMixed.ne_str_int (fin_bl I q (by simp))
    | str j => obtain ⟨t', rfl⟩ := ry; exact ne_str (fin_bl I q (congrArg not dec_str))
    | _ => exact absurd (show false = true from hs) Bool.false_ne_true
  | byt i =>
    obtain ⟨t, rfl⟩ := rx
    cases y with
    | byt j => obtain ⟨t', rfl⟩ := ry; exact PySem.W.ne_bytes (fin_bl I q (congrArg not dec_byt))
    | _ => exact absurd (show false = true from hs) Bool.false_ne_true
  | _ => cases y <;> exact absurd (show false = true from hs) Bool.false_ne_true
theorem op_lt : OpR X (compareOp .Lt) (rI0 fun i j => .bl (decide (i < j))) := opB0 fun _ _ _ _ _ _ _ q => lt_int q
theorem op_le : OpR X (compareOp .LtE) (rI0 fun i j => .bl (decide (i ≤ j))) := opB0 fun _ _ _ _ _ _ _ q => le_int q
theorem op_gt : OpR X (compareOp .Gt) (rI0 fun i j => .bl (decide (j < i))) := opB0 fun _ _ _ _ _ _ _ q => gt_int q
theorem op_ge : OpR X (compareOp .GtE) (rI0 fun i j => .bl (decide (j ≤ i))) := opB0 fun _ _ _ _ _ _ _ q => ge_int q
theorem nomark (b : Expr) {op : CmpOp} (h : op ≠ .In := by decide) (h2 : op ≠ .NotIn := by decide) : behindInMarks op b = false := by
  have e1 : (op == CmpOp.In) = false := by cases op <;> first | rfl | exact absurd rfl h
  have e2 : (op == CmpOp.NotIn) = false := by cases op <;> first | rfl | exact absurd rfl h2
  cases b <;> simp [behindInMarks, e1, e2]
theorem pe_cmpR {op : CmpOp} {r : R2} (ho : OpR X (compareOp op) r) (ha : PE X a ta) (hb : PE X b tb) (hm : behindInMarks op b = false) : PE X (.Compare a [op] [b] pos) (tOp r ta tb) := by
  intro pins s σ H Q I h
  exact wpAny_Compare1 (binT ha hb I h fun v u s2 x y H2 I2 rx ry q => ho pins s2 σ H2 x y v u Q I2 rx ry q) hm
def tTest (t : TE) : TT := fun σ H Q => t σ H fun x H' => ∃ k, x = .bl k ∧ Q k H'
theorem pt_cmpR {op : CmpOp} {r : R2} (ho : OpR X (compareOp op) r) (ha : PE X a ta) (hb : PE X b tb) (hm : behindInMarks op b = false) : PT X (.Compare a [op] [b] pos) (tTest (tOp r ta tb)) := by
  intro pins s σ H Q I h
  refine wpAny_isTrue_Compare1 (thn (ha pins s σ H _ I h) fun v s1 ⟨x, H1, I1, r1, q1⟩ => thn (hb pins s1 σ H1 _ I1 q1) fun u s2 ⟨y, H2, I2, r2, q2⟩ =>
    thn (ho pins s2 σ H2 x y v u _ I2 r1 r2 q2) fun c s3 ⟨z, H3, I3, r3, k, e, q3⟩ => ?_) hm
  subst e
  cases r3
  exact wpAny_truthy_bool ⟨H3, I3, q3⟩
def tChain (r r' : R2) (ta tb tc : TE) : TE := fun σ H Q => ta σ H fun x H1 => tb σ H1 fun y H2 => r x y H2 fun z H3 => ∃ k, z = .bl k ∧
  (if k = true then tc σ H3 fun w' H4 => r' y w' H4 Q else Q (.bl false) H3)
theorem pe_chain {op op' : CmpOp} {r r' : R2} (ho : OpR X (compareOp op) r) (ho' : OpR X (compareOp op') r') (ha : PE X a ta) (hb : PE X b tb) (hc : PE X c tc)
    (hm : lastMarks [op, op'] [b, c] = false := by with_unfolding_all rfl) : PE X (.Compare a [op, op'] [b, c] pos) (tChain r r' ta tb tc) := by
  intro pins s σ H Q I h
  refine Compare_chain (thn (ha pins s σ H _ I h) fun v s1 ⟨x, H1, I1, r1, q1⟩ => chain_link (thn (hb pins s1 σ H1 _ I1 q1) fun u s2 ⟨y, H2, I2, r2, q2⟩ =>
    thn (ho pins s2 σ H2 x y v u _ I2 r1 r2 q2) fun d s3 ⟨z, H3, I3, r3, k, e, q3⟩ => ?_)) hm
  subst e
  cases r3
  refine wpAny_truthy_bool ?_
  cases k with
  | false => exact ite_ff ⟨.bl false, H3, I3, rfl, q3⟩
  | true => exact ite_tt (chain_last (thn (hc pins s3 σ H3 _ I3 q3) fun w' s4 ⟨z', H4, I4, r4, q4⟩ => ho' pins s4 σ H4 y z' u w' Q I4 r2 r4 q4))
theorem pt_chain {op op' : CmpOp} {r r' : R2} (ho : OpR X (compareOp op) r) (ho' : OpR X (compareOp op') r') (ha : PE X a ta) (hb : PE X b tb) (hc : PE X c tc)
    (hm : lastMarks [op, op'] [b, c] = false := by with_unfolding_all rfl) : PT X (.Compare a [op, op'] [b, c] pos) (tTest (tChain r r' ta tb tc)) := by
  intro pins s σ H Q I h
  refine isTrue_chain (thn (ha pins s σ H _ I h) fun v s1 ⟨x, H1, I1, r1, q1⟩ => test_link (thn (hb pins s1 σ H1 _ I1 q1) fun u s2 ⟨y, H2, I2, r2, q2⟩ =>
    thn (ho pins s2 σ H2 x y v u _ I2 r1 r2 q2) fun d s3 ⟨z, H3, I3, r3, k, e, q3⟩ => ?_)) hm
  subst e
  cases r3
  refine wpAny_truthy_bool ?_
  cases k with
  | false =>
    obtain ⟨k', e', q'⟩ := q3
    cases e'
    exact ite_ff ⟨H3, I3, q'⟩
  | true =>
    refine ite_tt (test_last (thn (hc pins s3 σ H3 _ I3 q3) fun w' s4 ⟨z', H4, I4, r4, q4⟩ => thn (ho' pins s4 σ H4 y z' u w' _ I4 r2 r4 q4) fun d' s5 ⟨z2, H5, I5, r5, k2, e2, q5⟩ => ?_))
    subst e2
    cases r5
    exact wpAny_truthy_bool ⟨H5, I5, q5⟩
theorem line63 : (sizeLine : Nat) < 2 ^ 63 := by rw [sizeLine_eq]; decide
theorem vals1 {x : V} {us : List Value} (r : Vals [x] us) : ∃ u, us = [u] ∧ RelV x u := by
  cases r with
  | cons r1 r2 => cases r2; exact ⟨_, rfl, r1⟩
theorem vals2 {x y : V} {us : List Value} (r : Vals [x, y] us) : ∃ u w', us = [u, w'] ∧ RelV x u ∧ RelV y w' := by
  cases r with
  | cons r1 r2 =>
    cases r2 with
    | cons r3 r4 => cases r4; exact ⟨_, _, rfl, r1, r3⟩
theorem call_max2 (hc : X.calm = true) : CallR X (.builtin "max") (fun xs H Q => ∃ i j, xs = [.int i, .int j] ∧ Q (.int (if j > i then j else i)) H) := by
  intro pins s σ H xs us Q I r h
  obtain ⟨i, j, rfl, q⟩ := h
  obtain ⟨u, w', rfl, ⟨t, rfl⟩, ⟨t', rfl⟩⟩ := vals2 r
  refine max_two_ints (I.ok.hd hc) fun h' tk k => ⟨_, H, I.kept k, ?_, q⟩
  by_cases hj : j > i
  · rw [if_pos hj, if_pos hj]; exact ⟨_, rfl⟩
  · rw [if_neg hj, if_neg hj]; exact ⟨_, rfl⟩
theorem call_ord : CallR X (.builtin "ord") (fun xs H Q => ∃ x, xs = [.str x] ∧ x.length = 1 ∧ Q (.int (x.cps.getD 0 0 : Nat)) H) := by
  intro pins s σ H xs us Q I r h
  obtain ⟨x, rfl, hz, q⟩ := h
  obtain ⟨u, rfl, t, rfl⟩ := vals1 r
  exact ord_of_one hz ⟨.int _, H, I.tok _, ⟨_, rfl⟩, q⟩
end
end L2
namespace L2
open PySem PySem.Spec PyProof.Rows
structure ObjM (h : Heap) (x dx C : Addr) (mA : Str → Option Value) : Prop where
  obj : h.get? x = some (PySem.W.instObj C dx)
  ns : h.Ns1 dx mA
  ne : dx ≠ x
theorem lookIn_ns {h : Heap} {dx : Addr} {mA : Str → Option Value} (n : h.Ns1 dx mA) : ∃ od, h.get? dx = some od ∧ ∀ name, PySem.W.lookIn name od = some (mA name) := by
  obtain ⟨o, es, ep, ho, hd, hk, _, hm⟩ := n
  refine ⟨o, ho, fun name => ?_⟩
  have e := hm name
  unfold nsFind findBy at e
  rw [← Array.find?_toList] at e
  unfold PySem.W.lookIn
  rw [hd]
  dsimp only
  split
  · rename_i y q
    rw [q] at e
    exact congrArg some e
  · rename_i q
    rw [q] at e
    have a : es.toList.any (·.refKey) = false := by
      rw [List.any_eq_false]
      intro y hy
      obtain ⟨z, t, hkey⟩ := hk y (Array.mem_toList_iff.mp hy)
      simp [DictEntry.refKey, hkey]
    have a' : ¬ es.toList.any (·.refKey) = true := by rw [a]; exact Bool.false_ne_true
    rw [if_neg a']
    exact congrArg some e
theorem ObjM.look {h : Heap} {x dx C : Addr} {mA : Str → Option Value} (I : ObjM h x dx C mA) : ∃ od, PySem.W.InstAt h x (PySem.W.instObj C dx) C (some od) ∧ ∀ name, PySem.W.lookIn name od = some (mA name) :=
  let ⟨od, ho, hl⟩ := lookIn_ns I.ns
  ⟨od, ⟨I.obj, rfl, rfl, ho⟩, hl⟩
section
variable {prog : Program} {w : World} {A : Around} {E : Value → Shared → Prop} {s : Shared} {K : PySem.W.Frag} {x dx C f : Addr} {mA : Str → Option Value} {name : Str} {v : Value}
theorem get_map {expr : Bool} {Q : Value → Shared → Prop} (X : K.In s.heap) (I : ObjM s.heap x dx C mA) (hg : PySem.W.plainGet K C name = true) (hh : PySem.W.hasDictIn K C = true)
    (ha : PySem.W.findIn K (.ref C) name = some none) (hv : mA name = some v) (hv' : PySem.W.handedIn v = true) (h : Q v { s with toks := s.toks + 1 }) :
    wpAny (model prog w) A (getAttr (.ref x) name expr) Q E s := by
  obtain ⟨od, J, hl⟩ := I.look
  exact PySem.W.get_value X J (PySem.W.plainGet_of hg).1 (PySem.W.findObj_own hh ha rfl (by rw [hl, hv])) hv' h
theorem get_meth {pl : Sem Bool} {Q : Value × List Value → Shared → Prop} (X : K.In s.heap) (I : ObjM s.heap x dx C mA) (hg : PySem.W.plainGet K C name = true)
    (hf : PySem.W.findIn K (.ref C) name = some (some (.ref f))) (ht : PySem.W.isFn K (.ref f) = true) (hv : mA name = none) (h : Q (.ref f, [.ref x]) s) :
    wpAny (model prog w) A (getMethod (.ref x) name pl) Q E s := by
  obtain ⟨od, J, hl⟩ := I.look
  exact PySem.W.method_fn X J (PySem.W.plainGet_of hg).1 (PySem.W.plainGet_of hg).2 hf (beq_iff_eq.mp ht) (by show (PySem.W.lookIn name od).map (·.isSome) = some false; rw [hl, hv]; rfl) h
theorem set_map {ns : List Str} {Q : Unit → Shared → Prop} (X : K.In s.heap) (I : ObjM s.heap x dx C mA)
    (hs : PySem.W.findIn K (.ref C) "__setattr__" = some (some (.builtin "object.__setattr__"))) (hp : PySem.W.plainOver K C = true) (ht : PySem.W.takerIn K C name = some none) (hh : PySem.W.hasDictIn K C = true)
    (hw : PySem.Within mA ns) (hsz : ns.length ≤ sizeLine)
    (h : ∀ h', ObjM h' x dx C (fun y => if y = name then some v else mA y) → Heap.SameBut dx s.heap h' → Q () { s with heap := h', toks := s.toks + 2 }) :
    wpAny (model prog w) A (setAttr (.ref x) name v) Q E s := by
  obtain ⟨od, J, hl⟩ := I.look
  refine PySem.W.set_plain X J hs (PySem.W.osa_open (s := { s with toks := s.toks + 1 }) (r := none) X J hp ht fun b => ?_)
  obtain ⟨cd, hc, hd'⟩ := PySem.W.any_some hh
  have hx : s.heap.get? x = some ⟨.ref C, some dx, .plain, #[]⟩ := I.obj
  refine wpAny_bind (wpAny_pure (wpAny_bind (wpAny_bind (wpAny_loadPart hx (wpAny_bind (PySem.W.Looks.here (s := { s with toks := s.toks + 1 }) (PySem.W.looks_clsIn X hc) ?_))))))
  rw [hd']
  refine wpAny_pure (a := some dx) (wpAny_bind (wpAny_pure (wpAny_bind ?_)))
  refine wpAny_nsSet1 (s := { s with toks := s.toks + 1 }) I.ns fun h' hn2 hs2 => ?_
  obtain ⟨oD, esD, epD, hoD, hdD, hcD⟩ := hn2.count (PySem.Within.cons name v hw)
  refine wpAny_bind (wpAny_lookBehind hoD (by rw [hdD]; exact pastItsLine_dict (Nat.le_trans hcD (by rw [List.length_cons]; omega))) ?_)
  exact wpAny_pure (h _ ⟨(hs2.2 _ (Ne.symm I.ne)).trans I.obj, hn2, I.ne⟩ hs2)
theorem make_map {R : Result → Shared → Prop} {vs : List Value} {kw : List (Str × Value)} (X : K.In s.heap) (hm : PySem.W.makesIn K C = true)
    (hi : PySem.W.findIn K (.ref C) "__init__" = some (some (.ref f))) (hf : PySem.W.typeIn K (.ref f) = some (.type "function"))
    (h : codeAny (model prog w) (A.under (.builtin "type.__call__" ⟨.ref C :: vs, kw⟩)) (.call (.ref f) ⟨.ref (s.heap.objs.size + 1) :: vs, kw⟩) (PySem.W.InitBack (s.heap.objs.size + 1) R)
      { s with heap := (s.heap.push PySem.W.emptyDict).push (PySem.W.instObj C s.heap.objs.size) }) :
    codeAny (model prog w) A (.call (.ref C) ⟨vs, kw⟩) R s := by
  obtain ⟨hh, g, d, t, os⟩ := s
  exact PySem.W.make_core (PySem.W.makes_of X hm) (PySem.W.looks_findIn X hi) (fun self => PySem.W.bind_fn X self hf) (.inl rfl) h
end
def putF (f : Str) (v : V) : List (Str × V) → List (Str × V)
  | [] => [(f, v)]
  | (g, x) :: r => if g = f then (g, v) :: r else (g, x) :: putF f v r
theorem lookup_putF (f g : Str) (v : V) : ∀ fs : List (Str × V), (putF f v fs).lookup g = if g = f then some v else fs.lookup g
  | [] => by
    show List.lookup g [(f, v)] = _
    by_cases h : g = f
    · have hb : (g == f) = true := beq_iff_eq.mpr h
      simp only [List.lookup, hb, if_pos h]
    · have hb : (g == f) = false := beq_eq_false_iff_ne.mpr h
      simp only [List.lookup, hb, if_neg h]
  | (k, x) :: r => by
    have ih := lookup_putF f g v r
    rw [show putF f v ((k, x) :: r) = (if k = f then (k, v) :: r else (k, x) :: putF f v r) from rfl]
    by_cases hk : k = f
    · rw [if_pos hk]
      by_cases h : g = k
      · have hb : (g == k) = true := beq_iff_eq.mpr h
        simp only [List.lookup, hb, if_pos (h.trans hk)]
      · have hb : (g == k) = false := beq_eq_false_iff_ne.mpr h
        simp only [List.lookup, hb, if_neg (fun e : g = f => h (e.trans hk.symm))]
    · rw [if_neg hk]
      by_cases h : g = k
      · have hb : (g == k) = true := beq_iff_eq.mpr h
        simp only [List.lookup, hb, if_neg (fun e : g = f => hk (h.symm.trans e))]
      · have hb : (g == k) = false := beq_eq_false_iff_ne.mpr h
        simp only [List.lookup, hb]
        exact ih
theorem keys_putF (f : Str) (v : V) : ∀ fs : List (Str × V), f ∈ (putF f v fs).map (·.1) ∧ ∀ g, g ∈ fs.map (·.1) → g ∈ (putF f v fs).map (·.1)
  | [] => ⟨by simp [putF], fun g h => by simp at h⟩
  | (k, x) :: r => by
    obtain ⟨i1, i2⟩ := keys_putF f v r
    rw [show putF f v ((k, x) :: r) = (if k = f then (k, v) :: r else (k, x) :: putF f v r) from rfl]
    by_cases hk : k = f
    · rw [if_pos hk]
      subst hk
      exact ⟨by simp, fun g h => by simpa using h⟩
    · rw [if_neg hk]
      refine ⟨?_, fun g h => ?_⟩
      · rw [List.map_cons]
        exact List.mem_cons_of_mem _ i1
      · rw [List.map_cons] at h ⊢
        rcases List.mem_cons.mp h with e | e
        · exact List.mem_cons.mpr (.inl e)
        · exact List.mem_cons_of_mem _ (i2 g e)
theorem length_putF (f : Str) (v : V) : ∀ fs : List (Str × V), (putF f v fs).length ≤ fs.length + 1
  | [] => by simp [putF]
  | (k, x) :: r => by
    have ih := length_putF f v r
    rw [show putF f v ((k, x) :: r) = (if k = f then (k, v) :: r else (k, x) :: putF f v r) from rfl]
    by_cases hk : k = f
    · rw [if_pos hk, List.length_cons, List.length_cons]; omega
    · rw [if_neg hk, List.length_cons, List.length_cons]; omega
theorem RelO.some_of {v : V} {o : Option Value} (r : RelO (some v) o) : ∃ u, o = some u ∧ RelV v u := by
  cases o with
  | none => exact (show False from r).elim
  | some u => exact ⟨u, rfl, r⟩
theorem RelO.none_of {o : Option Value} (r : RelO none o) : o = none := by
  cases o with
  | none => rfl
  | some u => exact (show False from r).elim
theorem handed_of {v : V} {u : Value} (r : RelV v u) : PySem.W.handedIn u = true := by
  cases v with
  | non => cases (show u = Value.none from r); rfl
  | bl b => cases (show u = Value.bool b from r); rfl
  | int i => obtain ⟨t, e⟩ := (show ∃ t, u = Value.int i t from r); cases e; rfl
  | str x => obtain ⟨t, e⟩ := (show ∃ t, u = Value.str x t from r); cases e; rfl
  | byt b => obtain ⟨t, e⟩ := (show ∃ t, u = Value.bytes b t from r); cases e; rfl
  | flt b => obtain ⟨t, e⟩ := (show ∃ t, u = Value.float b t from r); cases e; rfl
  | ref a => cases (show u = Value.ref a from r); rfl
  | ty n => cases (show u = Value.type n from r); rfl
section
variable {P : Program} {w : World} {H H' : Hp} {h h' : Heap} {a C dx : Addr} {fs fs' : List (Str × V)}
theorem ins_get (hok : HOk P w H h) (e : H a = some (.ins C dx fs)) : ∃ mA, ObjM h a dx C mA ∧ (∀ f, RelO (fs.lookup f) (mA f)) ∧ PySem.Within mA (fs.map (·.1)) ∧ fs.length ≤ 1000 ∧ H dx = some (.own a) := by
  obtain ⟨d, z, ne, ob, mA, n, r, q⟩ := (show ObjOk P w H h a (.ins C dx fs) from hok a _ e)
  exact ⟨mA, ⟨ob, n, ne⟩, r, q, z, d⟩
end
structure Cls (K : PySem.W.Frag) (C : Addr) : Prop where
  pg : PySem.W.plainGet K C Str.empty = true
  hd : PySem.W.hasDictIn K C = true
  po : PySem.W.plainOver K C = true
  sa : PySem.W.findIn K (.ref C) "__setattr__" = some (some (.builtin "object.__setattr__"))
theorem Cls.get {K : PySem.W.Frag} {C : Addr} (c : Cls K C) (f : Str) : PySem.W.plainGet K C f = true := c.pg
def NoAttr (K : PySem.W.Frag) (C : Addr) (f : Str) : Prop := PySem.W.findIn K (.ref C) f = some none
theorem NoAttr.taker {K : PySem.W.Frag} {C : Addr} {f : Str} (n : NoAttr K C f) : PySem.W.takerIn K C f = some none := by
  unfold PySem.W.takerIn
  rw [show PySem.W.findIn K (.ref C) f = some none from n]
  rfl
structure Con (K : PySem.W.Frag) (C : Addr) (f : Str) (v : V) (u : Value) : Prop where
  at_ : PySem.W.findIn K (.ref C) f = some (some u)
  rel : RelV v u
  get : PySem.W.specialIn K u "__get__" = some none
  cp : PySem.W.copiedNames.contains f = false
structure Meth (K : PySem.W.Frag) (C : Addr) (m : Str) (f : Addr) : Prop where
  at_ : PySem.W.findIn K (.ref C) m = some (some (.ref f))
  fn : PySem.W.isFn K (.ref f) = true
  kp : PySem.W.keepIn K (.ref f) = true
section
variable {X : Cx} {pins : List (Addr × Obj)} {σ : St} {H : Hp} {s : Shared} {a C dx : Addr} {fs : List (Str × V)} {f : Str} {v : V} {A : Around} {E : Value → Shared → Prop}
theorem getattr_ok {b : Bool} {Q : Value → Shared → Prop} (I : Inv X pins σ H s) (e : H a = some (.ins C dx fs)) (c : Cls X.K C) (n : NoAttr X.K C f) (l : fs.lookup f = some v)
    (h : ∀ u s', Inv X pins σ H s' → RelV v u → Q u s') : wpAny (model X.prog X.w) A (getAttr (.ref a) f b) Q E s := by
  obtain ⟨mA, O, r, _, _, _⟩ := ins_get I.hok e
  obtain ⟨u, hu, ru⟩ := RelO.some_of (v := v) (o := mA f) (by rw [← l]; exact r f)
  exact get_map I.kIn O (c.get f) c.hd n hu (handed_of ru) (h u _ (I.tok _) ru)
theorem getmeth_ok {m : Str} {g : Addr} {pl : Sem Bool} {Q : Value × List Value → Shared → Prop} (I : Inv X pins σ H s) (e : H a = some (.ins C dx fs)) (c : Cls X.K C) (k : Meth X.K C m g) (l : fs.lookup m = none)
    (h : Q (.ref g, [.ref a]) s) : wpAny (model X.prog X.w) A (getMethod (.ref a) m pl) Q E s := by
  obtain ⟨mA, O, r, _, _, _⟩ := ins_get I.hok e
  have hn : mA m = none := RelO.none_of (by rw [← l]; exact r m)
  exact get_meth I.kIn O (c.get m) k.at_ k.fn hn h
theorem setattr_ok {y : V} {u : Value} {Q : Unit → Shared → Prop} (I : Inv X pins σ H s) (e : H a = some (.ins C dx fs)) (c : Cls X.K C) (n : NoAttr X.K C f) (hl : fs.length < 1000) (ry : RelV y u)
    (h : ∀ s', Inv X pins σ (upd H a (.ins C dx (putF f y fs))) s' → Q () s') : wpAny (model X.prog X.w) A (setAttr (.ref a) f u) Q E s := by
  obtain ⟨mA, O, r, wi, _, ho⟩ := ins_get I.hok e
  have hz : (fs.map (·.1)).length ≤ sizeLine := by rw [List.length_map, sizeLine_eq]; omega
  refine set_map I.kIn O c.sa c.po n.taker c.hd wi hz fun h' O' sb => h _ ?_
  have hd : ∃ o, h'.get? dx = some o := let ⟨o, _, _, e', _⟩ := O'.ns; ⟨o, e'⟩
  refine I.write (x := a) (e := dx) (by rw [e]; exact True.intro) (.inr ho) (fun b q hb z => (sb.2 b hb).trans z) hd ?_
  refine ⟨by rw [upd_ne O.ne]; exact ho, ?_, O.ne, O'.obj, _, O'.ns, fun g => ?_, fun g hg => ?_⟩
  · have := length_putF f y fs; omega
  · show RelO ((putF f y fs).lookup g) (if g = f then some u else mA g)
    rw [lookup_putF]
    by_cases q : g = f
    · rw [if_pos q, if_pos q]; exact ry
    · rw [if_neg q, if_neg q]; exact r g
  · by_cases q : g = f
    · rw [q]; exact (keys_putF f y fs).1
    · refine (keys_putF f y fs).2 g (wi g fun z => hg ?_)
      show (if g = f then some u else mA g) = none
      rw [if_neg q]; exact z
theorem Inv.made (I : Inv X pins σ H s) : Inv X pins σ (upd (upd H s.heap.objs.size (.own (s.heap.objs.size + 1))) (s.heap.objs.size + 1) (.ins C s.heap.objs.size []))
    { s with heap := (s.heap.push PySem.W.emptyDict).push (PySem.W.instObj C s.heap.objs.size) } := by
  have e1 : (s.heap.push PySem.W.emptyDict).get? s.heap.objs.size = some PySem.W.emptyDict := Heap.get?_push_size s.heap rfl
  have e2 : ((s.heap.push PySem.W.emptyDict).push (PySem.W.instObj C s.heap.objs.size)).get? (s.heap.objs.size + 1) = some (PySem.W.instObj C s.heap.objs.size) := by
    have := Heap.get?_push_size (s.heap.push PySem.W.emptyDict) (o := PySem.W.instObj C s.heap.objs.size) rfl
    rwa [Heap.size_push] at this
  have e3 : (s.heap.push PySem.W.emptyDict).Ns s.heap.objs.size (fun _ => none) := ⟨PySem.W.emptyDict, #[], _, e1, rfl, (fun e he => absurd he (by simp)), fun _ => rfl⟩
  have I1 := I.laid (a := s.heap.objs.size) (o := .own (s.heap.objs.size + 1)) (h' := s.heap.push PySem.W.emptyDict) (t' := s.toks) (fun b u q => Heap.get?_push_of_some _ q) (Nat.le_refl _) ⟨_, e1⟩
  refine I1.laid (a := s.heap.objs.size + 1) (o := .ins C s.heap.objs.size []) (t' := s.toks) (fun b u q => Heap.get?_push_of_some _ q) (Nat.le_of_eq (Heap.size_push _ _)) ?_
  have ne : s.heap.objs.size ≠ s.heap.objs.size + 1 := Nat.ne_of_lt (Nat.lt_succ_self _)
  refine ⟨by rw [upd_ne ne, upd_same], Nat.zero_le _, ne, e2, fun _ => none, (Heap.Ns1.of_empty e3).at fun o q => Heap.get?_push_of_some _ q, fun _ => True.intro, fun y hy => absurd rfl hy⟩
theorem attr_of {prog : Program} {w : World} {env : Env} {e : Expr} {f : Str} {pos : Pos} {s : Shared} {Q : Value → Shared → Prop} (hb : attributeBase e f env (eval e env) = eval e env)
    (h : wpAny (model prog w) A (eval e env) (fun o s₁ => wpAny (model prog w) A (getAttr o f true) Q E s₁) E s) : wpAny (model prog w) A (eval (.Attribute e f pos) env) Q E s :=
  Attribute_any_ h (by rw [arm_eval_Attribute, hb])
end
def tFld (K : PySem.W.Frag) (ta : TE) (f : Str) : TE := fun σ H Q => ta σ H fun x H1 => ∃ a C dx fs v, x = .ref a ∧ H1 a = some (.ins C dx fs) ∧ Cls K C ∧ NoAttr K C f ∧ fs.lookup f = some v ∧ Q v H1
def sFld (K : PySem.W.Frag) (ta tv : TE) (f : Str) : TS := fun D σ H => tv σ H fun y H1 => ta σ H1 fun x H2 => ∃ a C dx fs, x = .ref a ∧ H2 a = some (.ins C dx fs) ∧ Cls K C ∧ NoAttr K C f ∧ fs.length < 1000 ∧
  D.nx σ (upd H2 a (.ins C dx (putF f y fs)))
section
variable {X : Cx} {o e value : Expr} {f : Str} {pos pos' tpos : Pos} {ta tv : TE}
theorem pe_fld (he : PE X e ta) (hb : attributeBase e f X.env (eval e X.env) = eval e X.env) : PE X (.Attribute e f pos) (tFld X.K ta f) := by
  intro pins s σ H Q I h
  refine attr_of hb (thn (he pins s σ H _ I h) fun u s1 ⟨x, H1, I1, rx, a, C, dx, fs, v, ex, ea, c, n, l, q⟩ => ?_)
  subst ex
  obtain rfl : u = Value.ref a := rx
  exact getattr_ok I1 ea c n l fun u' s2 I2 ru => ⟨v, H1, I2, ru, q⟩
theorem ps_fld (ha : PE X o ta) (hv : PE X value tv) (hs : swapsWith value (some (.Attribute o f pos')) pos.line X.env = pure false) : PS X (.Assign [.Attribute o f pos'] value pos) (sFld X.K ta tv f) := by
  intro pins s σ H D I h
  refine plainObj_wpAny_Assign_Attribute (thn (hv pins s σ H _ I h) fun u s1 ⟨y, H1, I1, ry, q⟩ => thn (ha pins s1 σ H1 _ I1 q) fun ov s2 ⟨x, H2, I2, rx, a, C, dx, fs, ex, ea, c, n, l, q2⟩ => ?_) hs
  subst ex
  obtain rfl : ov = Value.ref a := rx
  exact setattr_ok I2 ea c n l ry fun s3 I3 => ⟨σ, _, I3, q2⟩
end
section
variable {X : Cx} {pins : List (Addr × Obj)} {σ : St} {H : Hp} {s : Shared} {A : Around} {E : Value → Shared → Prop} {Q : Value → Shared → Prop} {c : Value} {b : Bool}
inductive TyOf (K : PySem.W.Frag) (H : Hp) : V → Value → Prop where
  | non : TyOf K H .non (.type "NoneType")
  | bl (x : Bool) : TyOf K H (.bl x) (.type "bool")
  | int (i : Int) : TyOf K H (.int i) (.type "int")
  | str (x : Str) : TyOf K H (.str x) (.type "str")
  | flt (x : UInt64) : TyOf K H (.flt x) (.type "float")
  | lst {a : Addr} {xs : List V} (e : H a = some (.lst xs)) : TyOf K H (.ref a) (.type "list")
  | frz {a : Addr} {o : Obj} {xs : List V} (e : H a = some (.frz o (.lst xs))) : TyOf K H (.ref a) (.type "list")
  | tup {a : Addr} {xs : List V} (e : H a = some (.tup xs)) : TyOf K H (.ref a) (.type "tuple")
  | dK {a : Addr} {kvs : List (Key × V)} (e : H a = some (.dK kvs)) : TyOf K H (.ref a) (.type "dict")
  | dT {a : Addr} {kvs : List (List Key × V)} (e : H a = some (.dT kvs)) : TyOf K H (.ref a) (.type "dict")
  | ins {a C dx : Addr} {fs : List (Str × V)} (e : H a = some (.ins C dx fs)) (cl : Cls K C) (ha : PySem.W.findIn K (.ref C) "__class__" = some (some (.builtin "object.__class__")))
      (hn : PySem.W.specialIn K (.builtin "object.__class__") "__get__" = some (some (.builtin "getset_descriptor.__get__"))) (htk : PySem.W.takesIn K (.builtin "object.__class__") = some true)
      (hm : PySem.W.mroIn K C (.type "object") = some true) : TyOf K H (.ref a) (.ref C)
end
end L2
namespace L2
open PySem PySem.Spec PyProof.Rows
structure Room (k : Nat) (A : Around) : Prop where
  hd : A.handled = none
  dp : A.depth + 3 * k + 5 < recursionLimit
  un : A.units + 16 * k + 200 < cLine
theorem Room.mono {j k : Nat} {A : Around} (r : Room k A) (h : j ≤ k) : Room j A := ⟨r.hd, by have := r.dp; omega, by have := r.un; omega⟩
theorem Room.deeper {k : Nat} {A : Around} (r : Room (k + 1) A) (env : Env) : Room k (A.deeper env) :=
  ⟨r.hd, by have := r.dp; show A.depth + 1 + 3 * k + 5 < _; omega, by have := r.un; show A.units + 3 + 16 * k + 200 < _; omega⟩
theorem make_depth {A : Around} {C : Addr} {us : List Value} {kw : List (Str × Value)} : (A.under (.builtin "type.__call__" ⟨.ref C :: us, kw⟩)).depth = A.depth + 1 := by
  first | rfl | simp [Around.under, Code.weight, Code.isCreation, Code.isGuard, Code.isCaller, Code.frames, Code.isFrame, guardIds]
theorem make_units {A : Around} {C : Addr} {us : List Value} {kw : List (Str × Value)} : (A.under (.builtin "type.__call__" ⟨.ref C :: us, kw⟩)).units = A.units + 1 := by
  first | rfl | simp [Around.under, Code.cUnits, Code.frames, Code.isFrame]
theorem Room.make {k : Nat} {A : Around} (r : Room (k + 1) A) (C : Addr) (us : List Value) (kw : List (Str × Value)) : Room k (A.under (.builtin "type.__call__" ⟨.ref C :: us, kw⟩)) :=
  ⟨r.hd, by have := r.dp; rw [make_depth]; omega, by have := r.un; rw [make_units]; omega⟩
theorem Room.depth {k : Nat} {A : Around} (r : Room k A) : A.depth < recursionLimit := by have := r.dp; omega
theorem Room.units {k : Nat} {A : Around} (r : Room k A) : A.units + 64 < cLine := by have := r.un; omega
theorem Room.units0 {k : Nat} {A : Around} (r : Room k A) : A.units < cLine := by have := r.un; omega
def tNil : TA := fun _ H Q => Q [] H
def tCons (ta : TE) (tr : TA) : TA := fun σ H Q => ta σ H fun x H1 => tr σ H1 fun xs H2 => Q (x :: xs) H2
section
variable {X : Cx} {e : Expr} {es : List Expr} {te : TE} {t : TA} {pos : Pos}
theorem pa_nil : PA X [] tNil := fun _ _ _ _ H Q I h => Calls.spliced_nil ⟨[], H, I, .nil, h⟩
theorem pa_cons (ha : PE X e te) (hr : PA X es t) (hs : starEach (e :: es) X.env = (false, eval e X.env) :: starEach es X.env := by rfl) : PA X (e :: es) (tCons te t) := by
  intro pos pins s σ H Q I h
  rw [hs]
  show wpAny _ _ (spliced ((false, eval e X.env) :: backTo pos (starEach es X.env))) _ _ s
  refine Calls.spliced_cons (thn (ha pins s σ H _ I h) fun u s1 ⟨x, H1, I1, r1, q1⟩ => ?_)
  exact thn (hr pos pins s1 σ H1 _ I1 q1) fun us s2 ⟨xs, H2, I2, r2, q2⟩ => ⟨x :: xs, H2, I2, .cons r1 r2, q2⟩
def tTup (t : TA) : TE := fun σ H Q => t σ H fun xs H1 => xs.length ≤ sizeLine ∧ ∀ p, H1 p = none → Q (.ref p) (upd H1 p (.tup xs))
def tLst (t : TA) : TE := fun σ H Q => t σ H fun xs H1 => xs.length ≤ sizeLine ∧ ∀ p, H1 p = none → Q (.ref p) (upd H1 p (.lst xs))
theorem pe_tup {x1} (h : PA X es t) : PE X (.Tuple es x1 pos) (tTup t) := by
  intro pins s σ H Q I hq
  refine wpAny_Tuple_spliced (thn (h pos pins s σ H _ I hq) fun us s1 ⟨xs, H1, I1, r, z, q⟩ => ⟨by rw [← r.length]; exact z, ?_⟩)
  have hf : H1 s1.heap.objs.size = none := I1.hok.fresh (Nat.le_refl _)
  refine ⟨.ref s1.heap.objs.size, upd H1 s1.heap.objs.size (.tup xs), I1.laid (t' := s1.toks) (fun b u e => Heap.get?_push_of_some _ e) (Nat.le_refl _) ?_, rfl, q _ hf⟩
  exact ⟨z, us, r, ⟨_, Heap.get?_push_size _ rfl, rfl, _, rfl⟩⟩
theorem pe_lst (h : PA X es t) : PE X (.List es pos) (tLst t) := by
  intro pins s σ H Q I hq
  refine wpAny_List_spliced (thn (h pos pins s σ H _ I hq) fun us s1 ⟨xs, H1, I1, r, z, q⟩ => ⟨by rw [← r.length]; exact z, ?_⟩)
  have hf : H1 s1.heap.objs.size = none := I1.hok.fresh (Nat.le_refl _)
  refine ⟨.ref s1.heap.objs.size, upd H1 s1.heap.objs.size (.lst xs), I1.laid (t' := s1.toks) (fun b u e => Heap.get?_push_of_some _ e) (Nat.le_refl _) ?_, rfl, q _ hf⟩
  exact ⟨z, us, 0, r, Heap.get?_push_size _ rfl⟩
end
abbrev Sp := List V → Hp → VK → XK → Prop
abbrev CXT := List Env → Hp → Shared → XK → Value → Shared → Prop
structure Env0 (P : Program) (w : World) (K : PySem.W.Frag) (mg : Str → Option Value) (base : Heap) (A : Around) (outer : List Env) (s : Shared) (H : Hp) : Prop where
  frames : A.frames = some outer
  mod : Mod K mg base
  bs : ∀ b o, base.get? b = some o → s.heap.get? b = some o ∧ H b = none
  bsz : base.objs.size ≤ s.heap.objs.size
  funs : s.heap.FunFrames base outer
  frf : ∀ b ∈ frs outer, H b = none
  hok : HOk P w H s.heap
  bare : AllBare s.gens
def CE (outer : List Env) (P : Program) (w : World) (H : Hp) (s : Shared) (Q : VK) (u : Value) (s' : Shared) : Prop :=
  ∃ v H', s'.os = s.os ∧ AllBare s'.gens ∧ Un (frs outer) [] H H' s.heap s'.heap ∧ HOk P w H' s'.heap ∧ RelV v u ∧ Q v H'
def CR (CX : CXT) (outer : List Env) (P : Program) (w : World) (H : Hp) (s : Shared) (Q : VK) (E : XK) (r : Result) (s' : Shared) : Prop :=
  match r with
  | .ok (.ret u) => CE outer P w H s Q u s'
  | .ok _ => False
  | .error e => CX outer H s E e s'
structure FnOk (P : Program) (w : World) (K : PySem.W.Frag) (mg : Str → Option Value) (base : Heap) (CX : CXT) (k : Nat) (f : Addr) (fd : FuncData) (ps : List Str) (sp : Sp) : Prop where
  len : ∀ vs H Q E, sp vs H Q E → vs.length = ps.length
  run : ∀ (A : Around) (outer : List Env) (s : Shared) (H : Hp) (args : Args) (us : List Value) (vs : List V) (Q : VK) (E : XK), Room k A → Env0 P w K mg base A outer s H → BindsTo s fd args (ps.zip us) → Vals vs us → sp vs H Q E →
    codeAny (model P w) A (.call (.ref f) args) (CR CX outer P w H s Q E) s
theorem FnOk.mono {P : Program} {w : World} {K : PySem.W.Frag} {mg : Str → Option Value} {base : Heap} {CX : CXT} {j k : Nat} {f : Addr} {fd : FuncData} {ps : List Str} {sp : Sp} (F : FnOk P w K mg base CX j f fd ps sp) (h : j ≤ k) :
    FnOk P w K mg base CX k f fd ps sp := ⟨F.len, fun A outer s H args us vs Q E hr => F.run A outer s H args us vs Q E (hr.mono h)⟩
theorem Env0.make {P : Program} {w : World} {K : PySem.W.Frag} {mg : Str → Option Value} {base : Heap} {A : Around} {outer : List Env} {s : Shared} {H : Hp} (e : Env0 P w K mg base A outer s H) (C : Addr) (us : List Value) (kw : List (Str × Value)) :
    Env0 P w K mg base (A.under (.builtin "type.__call__" ⟨.ref C :: us, kw⟩)) outer s H := ⟨by first | exact e.frames | (simpa [Around.under, Code.envs, Code.isFrame, pushEnvs] using e.frames), e.mod, e.bs, e.bsz, e.funs, e.frf, e.hok, e.bare⟩
section
variable {X : Cx} {pins : List (Addr × Obj)} {σ : St} {H : Hp} {s s' : Shared}
theorem Inv.env0 (I : Inv X pins σ H s) : Env0 X.prog X.w X.K X.mg X.base X.A X.stack s H :=
  ⟨I.ok.frames, I.ok.mod, I.bs, Nat.le_trans I.ok.bsz I.sz, I.stack, I.stkFree, I.hok, I.bare⟩
theorem Inv.after {Q : VK} {u : Value} (I : Inv X pins σ H s) (h : CE X.stack X.prog X.w H s Q u s') : EP X pins σ Q u s' := by
  obtain ⟨v, H', os, bare, un, hok, r, q⟩ := h
  obtain ⟨hh, g, d, t, os'⟩ := s'
  obtain rfl : os' = s.os := os
  exact ⟨v, H', I.call (h' := hh) (g' := g) (d' := d) (t' := t) (ch := []) un hok bare (fun b z => absurd z (by simp)), r, q⟩
end
def tCall (sp : Sp) (dvs : List V) (E : XK) (t : TA) : TE := fun σ H Q => t σ H fun vs H1 => sp (vs ++ dvs) H1 Q E
def tMeth (C : Addr) (m : Str) (sp : Sp) (dvs : List V) (E : XK) (ta : TE) (t : TA) : TE := fun σ H Q => ta σ H fun x H1 => ∃ a dx fs, x = .ref a ∧ H1 a = some (.ins C dx fs) ∧ fs.lookup m = none ∧
  t σ H1 fun vs H2 => sp (x :: (vs ++ dvs)) H2 Q E
def tMake (C : Addr) (sp : Sp) (dvs : List V) (E : XK) (t : TA) : TE := fun σ H Q => t σ H fun vs H1 => ∀ x dx, H1 x = none → H1 dx = none → dx ≠ x →
  sp (.ref x :: (vs ++ dvs)) (upd (upd H1 dx (.own x)) x (.ins C dx [])) (fun v H2 => v = .non ∧ Q (.ref x) H2) E
def Binds (K : PySem.W.Frag) (fd : FuncData) (ps : List Str) (ds : List Value) : Prop :=
  ∀ (s : Shared) (us : List Value), K.In s.heap → (us ++ ds).length = ps.length → BindsTo s fd ⟨us, []⟩ (ps.zip (us ++ ds))
theorem Binds.all {K : PySem.W.Frag} {fd : FuncData} {ps : List Str} (h : ∀ us : List Value, us.length = ps.length → bindArgs fd ⟨us, []⟩ = pure (ps.zip us)) : Binds K fd ps [] := fun s us _ hl => by
  rw [List.append_nil] at hl ⊢
  exact .of_eq (h us hl)
def Passes (CX : CXT) (X : Cx) (E : XK) : Prop := ∀ (pins : List (Addr × Obj)) (σ : St) (H : Hp) (s : Shared) (e : Value) (s' : Shared), Inv X pins σ H s → CX X.stack H s E e s' → X.xe e s'
section
variable {X : Cx} {CX : CXT} {k : Nat} {f C : Addr} {fd : FuncData} {ps : List Str} {sp : Sp} {dvs : List V} {ds : List Value} {E : XK} {x m : Str} {p pos apos : Pos} {e o : Expr} {es : List Expr} {ta : TE} {t : TA}
theorem run_fn {pins : List (Addr × Obj)} {σ : St} {H : Hp} {s : Shared} {Q : VK} {us : List Value} {vs : List V} (F : FnOk X.prog X.w X.K X.mg X.base CX k f fd ps sp) (hr : Room k X.A) (hb : Binds X.K fd ps ds) (hd : Vals dvs ds) (hx : Passes CX X E)
    (I : Inv X pins σ H s) (r : Vals vs us) (h : sp (vs ++ dvs) H Q E) : wpAny (model X.prog X.w) X.A (call (.ref f) us) (EP X pins σ Q) X.xe s := by
  have r2 : Vals (vs ++ dvs) (us ++ ds) := r.append hd
  have hl : (us ++ ds).length = ps.length := by rw [← r2.length]; exact F.len _ _ _ _ h
  refine wpAny_call (codeAny_mono (F.run X.A X.stack s H ⟨us, []⟩ (us ++ ds) (vs ++ dvs) Q E hr I.env0 (hb s us I.kIn hl) r2 h) fun r s' hq => ?_)
  cases r with
  | error e => exact hx pins σ H s e s' I hq
  | ok fl =>
    cases fl with
    | ret u => exact I.after hq
    | next => exact False.elim hq
    | brk => exact False.elim hq
    | cont => exact False.elim hq
theorem pe_call (F : FnOk X.prog X.w X.K X.mg X.base CX k f fd ps sp) (hr : Room k X.A) (hg : Gl X x) (hm : X.mg x = some (.ref f)) (hk : PySem.W.keepIn X.K (.ref f) = true) (hb : Binds X.K fd ps ds) (hd : Vals dvs ds) (hx : Passes CX X E)
    (ha : PA X (e :: es) t) (hdb : (x == ("__debug__" : Str)) = false := by decide) (he : starEach (e :: es) X.env = (false, eval e X.env) :: starEach es X.env := by rfl) (hpl : (backTo pos (starEach es X.env)).any (·.1) = false := by rfl) :
    PE X (.Call (.Name x p) (e :: es) [] pos) (tCall sp dvs E t) := by
  intro pins s σ H Q I h
  refine wpAny_Call_Name_kw (ld_glob I hg hm ?_ hdb)
  refine PySem.W.callWith_K (h₀ := X.base) I.ok.mod.kin hk (thn (ha pos pins s σ H _ I h) fun us s1 ⟨vs, H1, I1, r, q⟩ => ⟨I1.kIn, ?_⟩) he hpl
  exact run_fn F hr hb hd hx I1 r q
theorem pe_meth {pl : Sem Bool} (he : PE X o ta) (c : Cls X.K C) (hm : Meth X.K C m f) (F : FnOk X.prog X.w X.K X.mg X.base CX k f fd ps sp) (hr : Room k X.A) (hb : Binds X.K fd ps ds) (hd : Vals dvs ds) (hx : Passes CX X E) (ha : PA X (e :: es) t)
    (hst : starEach (e :: es) X.env = (false, eval e X.env) :: starEach es X.env := by rfl) (hpl : (backTo pos (starEach es X.env)).any (·.1) = false := by rfl)
    (ht : eval (.Call (.Attribute o m apos) (e :: es) [] pos) X.env = (do
      let ov ← eval o X.env
      standAt apos.atName
      let (f, first) ← holding [ov] (getMethod ov m pl)
      callWith pos f first (backTo pos (starEach (e :: es) X.env)) (backToKw pos (keywordEach [] X.env))) := by rfl) :
    PE X (.Call (.Attribute o m apos) (e :: es) [] pos) (tMeth C m sp dvs E ta t) := by
  intro pins s σ H Q I h
  refine PySem.W.methodCall_KW (pl := pl) (thn (he pins s σ H _ I h) fun u s1 ⟨x, H1, I1, rx, a, dx, fs, ex, ea, l, q⟩ => ?_) ht
  subst ex
  obtain rfl : u = Value.ref a := rx
  refine getmeth_ok I1 ea c hm l ?_
  refine PySem.W.callWith_K (first := [.ref a]) (h₀ := X.base) I.ok.mod.kin hm.kp (thn (ha pos pins s1 σ H1 _ I1 q) fun us s2 ⟨vs, H2, I2, r, q2⟩ => ⟨I2.kIn, ?_⟩) hst hpl
  exact run_fn (us := .ref a :: us) (vs := .ref a :: vs) F hr hb hd hx I2 (.cons rfl r) q2
theorem pe_meth0 {pl : Sem Bool} (he : PE X o ta) (c : Cls X.K C) (hm : Meth X.K C m f) (F : FnOk X.prog X.w X.K X.mg X.base CX k f fd ps sp) (hr : Room k X.A) (hb : Binds X.K fd ps ds) (hd : Vals dvs ds) (hx : Passes CX X E)
    (ht : eval (.Call (.Attribute o m apos) [] [] pos) X.env = (do
      let ov ← eval o X.env
      standAt apos.atName
      let (f, first) ← holding [ov] (getMethod ov m pl)
      callWith pos f first (backTo pos (starEach [] X.env)) (backToKw pos (keywordEach [] X.env))) := by rfl) :
    PE X (.Call (.Attribute o m apos) [] [] pos) (tMeth C m sp dvs E ta tNil) := by
  intro pins s σ H Q I h
  refine PySem.W.methodCall_KW (pl := pl) (thn (he pins s σ H _ I h) fun u s1 ⟨x, H1, I1, rx, a, dx, fs, ex, ea, l, q⟩ => ?_) ht
  subst ex
  obtain rfl : u = Value.ref a := rx
  refine getmeth_ok I1 ea c hm l ?_
  exact PySem.W.callWith_K0 (first := [.ref a]) I1.kIn hm.kp (run_fn (us := [.ref a]) (vs := [.ref a]) F hr hb hd hx I1 (.cons rfl .nil) q)
structure Mk (K : PySem.W.Frag) (C f : Addr) : Prop where
  makes : PySem.W.makesIn K C = true
  init : PySem.W.findIn K (.ref C) "__init__" = some (some (.ref f))
  fn : PySem.W.isFn K (.ref f) = true
  kp : PySem.W.keepIn K (.ref C) = true
theorem run_make {pins : List (Addr × Obj)} {σ : St} {H : Hp} {s : Shared} {Q : VK} {us : List Value} {vs : List V} (M : Mk X.K C f) (F : FnOk X.prog X.w X.K X.mg X.base CX k f fd ps sp) (hr : Room (k + 1) X.A) (hb : Binds X.K fd ps ds) (hd : Vals dvs ds)
    (hx : Passes CX X E) (I : Inv X pins σ H s) (r : Vals vs us)
    (h : ∀ x dx, H x = none → H dx = none → dx ≠ x → sp (.ref x :: (vs ++ dvs)) (upd (upd H dx (.own x)) x (.ins C dx [])) (fun v H2 => v = .non ∧ Q (.ref x) H2) E) :
    wpAny (model X.prog X.w) X.A (call (.ref C) us) (EP X pins σ Q) X.xe s := by
  have hq := h (s.heap.objs.size + 1) s.heap.objs.size (I.hok.fresh (Nat.le_succ _)) (I.hok.fresh (Nat.le_refl _)) (Nat.ne_of_lt (Nat.lt_succ_self _))
  have I2 := Inv.made (C := C) I
  have r2 : Vals (V.ref (s.heap.objs.size + 1) :: (vs ++ dvs)) (Value.ref (s.heap.objs.size + 1) :: (us ++ ds)) := .cons rfl (r.append hd)
  have hl : (Value.ref (s.heap.objs.size + 1) :: us ++ ds).length = ps.length := by
    have e := r2.length
    rw [F.len _ _ _ _ hq] at e
    exact e.symm
  refine wpAny_call (make_map (f := f) I.kIn M.makes M.init (beq_iff_eq.mp M.fn) (codeAny_mono (F.run _ X.stack _ _ ⟨Value.ref (s.heap.objs.size + 1) :: us, []⟩ (Value.ref (s.heap.objs.size + 1) :: (us ++ ds)) _ _ E (hr.make C us [])
    (I2.env0.make C us []) (hb _ (Value.ref (s.heap.objs.size + 1) :: us) I2.kIn hl) r2 hq) fun r s' hq' => ?_))
  cases r with
  | error e => exact hx pins σ _ _ e s' I2 hq'
  | ok fl =>
    cases fl with
    | ret u =>
      obtain ⟨v, H', I3, rv, ev, q3⟩ := I2.after hq'
      subst ev
      exact ⟨rv, ⟨V.ref (s.heap.objs.size + 1), H', I3, rfl, q3⟩⟩
    | next => exact False.elim hq'
    | brk => exact False.elim hq'
    | cont => exact False.elim hq'
theorem pe_make0 (M : Mk X.K C f) (F : FnOk X.prog X.w X.K X.mg X.base CX k f fd ps sp) (hr : Room (k + 1) X.A) (hg : Gl X x) (hm : X.mg x = some (.ref C)) (hb : Binds X.K fd ps ds) (hd : Vals dvs ds) (hx : Passes CX X E)
    (hdb : (x == ("__debug__" : Str)) = false := by decide) : PE X (.Call (.Name x p) [] [] pos) (tMake C sp dvs E tNil) := by
  intro pins s σ H Q I h
  refine wpAny_Call_Name_kw (ld_glob I hg hm ?_ hdb)
  exact PySem.W.callWith_K0 I.kIn M.kp (run_make (us := []) M F hr hb hd hx I .nil h)
end
section
variable {X : Cx} {CX : CXT} {k : Nat} {f C : Addr} {fd : FuncData} {ps ks : List Str} {sp : Sp} {E : XK} {x m : Str} {p pos apos kpos : Pos} {e o : Expr} {es : List Expr} {kws : List Keyword} {te ta : TE} {t tk : TA} {nm : Option Str}
structure KBinds (K : PySem.W.Frag) (fd : FuncData) (ps ks : List Str) (g : List Value → List Value → List Value) (gV : List V → List V → List V) : Prop where
  to : ∀ (s : Shared) (us ws : List Value), K.In s.heap → (g us ws).length = ps.length → BindsTo s fd ⟨us, ks.zip ws⟩ (ps.zip (g us ws))
  rel : ∀ {vs : List V} {us : List Value} {zs : List V} {ws : List Value}, Vals vs us → Vals zs ws → Vals (gV vs zs) (g us ws)
variable {g : List Value → List Value → List Value} {gV : List V → List V → List V}
end
structure FnScope (N P : List Str) (sc : Scope) : Prop where
  kind : sc.kind = .function
  co : sc.isCoroutine = false
  gen : sc.isGenerator = false
  nd : N.Nodup
  pre : N.take P.length = P
  par : ∀ x ∈ P, sc.names.lookup x = some .local ∨ sc.names.lookup x = some .cell
  nofree : ∀ y ∈ sc.names, y.2 ≠ .free
theorem bindL_out {kindOf : Str → Option NameKind} {x : Str} : ∀ {binds : List (Str × Value)} {m : Str → Option Value}, (∀ v, (x, v) ∉ binds) → bindL kindOf binds m x = m x
  | [], _, _ => rfl
  | (n, v) :: r, m, h => by
    unfold bindL
    rw [bindL_out fun w hw => h w (List.mem_cons_of_mem _ hw)]
    split
    · have : x ≠ n := by rintro rfl; exact h v List.mem_cons_self
      simp [this]
    · rfl
theorem bindC_out {kindOf : Str → Option NameKind} {x : Str} : ∀ {binds : List (Str × Value)} {m : Str → Option Value}, (∀ v, (x, v) ∉ binds) → bindC kindOf binds m x = m x
  | [], _, _ => rfl
  | (n, v) :: r, m, h => by
    unfold bindC
    rw [bindC_out fun w hw => h w (List.mem_cons_of_mem _ hw)]
    split
    · rfl
    · have : x ≠ n := by rintro rfl; exact h v List.mem_cons_self
      simp [this]
theorem bindL_get {kindOf : Str → Option NameKind} {x : Str} {v : Value} : ∀ {P : List Str} {vs : List Value} {i : Nat} {m : Str → Option Value}, P.Nodup → P[i]? = some x → vs[i]? = some v → kindOf x = some .local →
    bindL kindOf (P.zip vs) m x = some v
  | [], _, _, _, _, h, _, _ => by simp at h
  | _ :: _, [], _, _, _, _, h, _ => by simp at h
  | p :: P, w :: vs, 0, m, nd, h1, h2, hk => by
    simp at h1 h2; subst h1; subst h2
    show bindL kindOf ((p, w) :: P.zip vs) m p = _
    unfold bindL
    rw [bindL_out fun v hv => (List.nodup_cons.mp nd).1 (List.of_mem_zip hv).1, if_pos hk]
    simp
  | p :: P, w :: vs, i + 1, m, nd, h1, h2, hk => by
    show bindL kindOf ((p, w) :: P.zip vs) m x = _
    unfold bindL
    exact bindL_get (i := i) (List.nodup_cons.mp nd).2 (by simpa using h1) (by simpa using h2) hk
theorem bindC_get {kindOf : Str → Option NameKind} {x : Str} {v : Value} : ∀ {P : List Str} {vs : List Value} {i : Nat} {m : Str → Option Value}, P.Nodup → P[i]? = some x → vs[i]? = some v → kindOf x ≠ some .local →
    bindC kindOf (P.zip vs) m x = some v
  | [], _, _, _, _, h, _, _ => by simp at h
  | _ :: _, [], _, _, _, _, h, _ => by simp at h
  | p :: P, w :: vs, 0, m, nd, h1, h2, hk => by
    simp at h1 h2; subst h1; subst h2
    show bindC kindOf ((p, w) :: P.zip vs) m p = _
    unfold bindC
    rw [bindC_out fun v hv => (List.nodup_cons.mp nd).1 (List.of_mem_zip hv).1, if_neg hk]
    simp
  | p :: P, w :: vs, i + 1, m, nd, h1, h2, hk => by
    show bindC kindOf ((p, w) :: P.zip vs) m x = _
    unfold bindC
    exact bindC_get (i := i) (List.nodup_cons.mp nd).2 (by simpa using h1) (by simpa using h2) hk
def start (N : List Str) (vs : List V) : St := vs.map some ++ List.replicate (N.length - vs.length) none
def cxOf (CX : CXT) (P : Program) (w : World) (K : PySem.W.Frag) (mg : Str → Option Value) (base : Heap) (N : List Str) (qual : Str) (scope : Scope) (f : Addr) (cd : Value) (A : Around) (outer : List Env) (s : Shared) (H : Hp) (E : XK) : Cx where
  prog := P
  w := w
  K := K
  mg := mg
  base := base
  A := A.deeper (envOfC qual scope s.heap.objs.size f cd)
  N := N
  s_0 := s
  H_0 := H
  env := envOfC qual scope s.heap.objs.size f cd
  outer := outer
  stack := envOfC qual scope s.heap.objs.size f cd :: outer
  ex := []
  calm := true
  fn := fun _ => true
  pn := []
  xe := fun e s' => wpAny (model P w) (A.deeper (envOfC qual scope s.heap.objs.size f cd)) (leaving (envOfC qual scope s.heap.objs.size f cd) e) (fun _ s'' => CX outer H s E e s'') (fun e' s'' => CX outer H s E e' s'') s'
theorem cell_has {sc : Scope} {n : Nat} {x : Str} (h : sc.names.lookup x = some .cell) : ∃ c, (cellsFrom n sc.names []).lookup x = some c := by
  have q := PySem.W.cellsFrom_some sc.names n [] (.inl h)
  exact Option.isSome_iff_exists.mp q
theorem inv_start {CX : CXT} {P : Program} {w : World} {K : PySem.W.Frag} {mg : Str → Option Value} {base : Heap} {N ps : List Str} {qual : Str} {scope : Scope} {f : Addr} {cd : Value} {A : Around} {outer : List Env} {s s1 : Shared} {H : Hp} {E : XK} {us : List Value} {vs : List V}
    (S : FnScope N ps scope) (hd : A.handled = none) (e0 : Env0 P w K mg base A outer s H) (hl : vs.length = ps.length) (r : Vals vs us)
    (x : InCallC s s.heap.objs.size (bindL (envOfC qual scope s.heap.objs.size f cd).kindOf (ps.zip us) fun _ => none) (cellsFrom (s.heap.objs.size + 1) scope.names []) (bindC (envOfC qual scope s.heap.objs.size f cd).kindOf (ps.zip us) fun _ => none) s1) :
    Inv (cxOf CX P w K mg base N qual scope f cd A outer s H E) [] (start N vs) H s1 := by
  have hpl : ps.length ≤ N.length := by have := congrArg List.length S.pre; rw [List.length_take] at this; omega
  obtain ⟨h1, tk, rfl, hk⟩ := x.done
  have noA : ∀ b : Addr, b ∉ (cxOf CX P w K mg base N qual scope f cd A outer s H E).ex := fun b z => absurd (show b ∈ ([] : List Addr) from z) (by simp)
  refine ⟨⟨e0.mod, S.kind, rfl, rfl, Nat.le_refl _, fun y z c h1 h2 => ?_, fun y hy => ?_, fun y c _ h => ?_, fun _ => hd, Around.frames_deeper e0.frames, .inr ⟨rfl, rfl⟩, fun b z => absurd z (noA b), e0.bs, e0.bsz, fun b _ _ => noA b, fun b z => absurd z (noA b), e0.funs, e0.frf⟩,
    rfl, e0.bare, Un.kept hk, ⟨_, x.toInCall.ns, fun i y v h1 h2 h3 => ?_⟩, fun y c h => ⟨_, x.cell y c h⟩, e0.hok.fresh (Nat.le_refl _), fun y c h => ?_, fun p hp => absurd (show p ∈ ([] : List (Addr × Obj)) from hp) (by simp), e0.hok.kept hk, ?_⟩
  · exact name_of_addr x.apart (PySem.mem_of_lookup h1) (PySem.mem_of_lookup h2)
  · have hy : scope.names.lookup y = some .cell ∨ scope.names.lookup y = some .free := hy
    rcases hy with hy | hy
    · exact cell_has hy
    · exact absurd rfl (S.nofree _ (PySem.mem_of_lookup hy))
  · exact Nat.le_of_lt (x.above y c (PySem.mem_of_lookup h))
  · have hi : i < vs.length := by
      unfold start at h2
      by_cases hi : i < vs.length
      · exact hi
      · rw [List.getElem?_append_right (by simpa using hi)] at h2
        rw [List.getElem?_replicate] at h2
        split at h2 <;> cases h2
    have ha : vs[i]? = some v := by
      unfold start at h2
      rw [List.getElem?_append_left (by simpa using hi), List.getElem?_map] at h2
      cases e : vs[i]? with
      | none => rw [e] at h2; cases h2
      | some a => rw [e] at h2; cases h2; rfl
    obtain ⟨u, hu, rv⟩ := r.get ha
    have hp : ps[i]? = some y := by
      rw [← S.pre, List.getElem?_take_of_lt (by omega)]; exact h1
    have ndP : ps.Nodup := by rw [← S.pre]; exact S.nd.sublist (List.take_sublist _ _)
    refine ⟨u, rv, ?_⟩
    rcases S.par y (List.mem_of_getElem? hp) with k | k
    · exact .inl ⟨k, bindL_get ndP hp hu k⟩
    · obtain ⟨c, e⟩ := cell_has (n := s.heap.objs.size + 1) k
      refine .inr ⟨.inl k, c, e, ?_⟩
      have q := x.cell y c e
      rw [bindC_get ndP hp hu (by show scope.names.lookup y ≠ _; rw [k]; decide)] at q
      exact q
  · exact e0.hok.fresh (Nat.le_of_lt (x.above y c (PySem.mem_of_lookup h)))
  · unfold start
    show _ = N.length
    rw [List.length_append, List.length_map, List.length_replicate]
    omega
theorem fn_of {CX : CXT} {P : Program} {w : World} {K : PySem.W.Frag} {mg : Str → Option Value} {base : Heap} {k : Nat} {f : Addr} {name qual : Str} {params : Arguments} {body : List Stmt} {scope : Scope} {dV kV doc pm cdv ct oc : Value} {an od : Option Addr}
    {osl : Array (Option Value)} {N ps : List Str} {sp : Sp} (lk : K.lookup f = some ⟨oc, od, .func (PySem.W.fnOf name qual params body scope dV kV doc pm an cdv ct), osl⟩) (hcd : PySem.W.codeIn K cdv qual = true) (S : FnScope N ps scope)
    (len : ∀ vs H Q E, sp vs H Q E → vs.length = ps.length)
    (hbody : ∀ (A : Around) (outer : List Env) (s : Shared) (H : Hp) (vs : List V) (Q : VK) (E : XK), Room k (A.deeper (envOfC qual scope s.heap.objs.size f cdv)) → sp vs H Q E →
      ∃ t, PSs (cxOf CX P w K mg base N qual scope f cdv A outer s H E) body t ∧ t { nx := fun _ H' => Q .non H', rt := Q } (start N vs) H) :
    FnOk P w K mg base CX (k + 1) f (PySem.W.fnOf name qual params body scope dV kV doc pm an cdv ct) ps sp := by
  refine ⟨len, fun A outer s H args us vs Q E hr e0 hb r hsp => ?_⟩
  have hl := len _ _ _ _ hsp
  have KX : K.In s.heap := e0.mod.kin.keeps fun b o e => (e0.bs b o e).1
  have lim : s.heap.NoLimit := e0.mod.nolimit.keeps fun b o e => (e0.bs b o e).1
  have hkind : ∀ y ∈ ps.zip us, scope.names.lookup y.1 = some .local ∨ (scope.names.lookup y.1 = some .cell ∧ ((cellsFrom (s.heap.objs.size + 1) scope.names []).lookup y.1).isSome = true) := fun ⟨n, v⟩ hy => by
    rcases S.par n (List.of_mem_zip hy).1 with q | q
    · exact .inl q
    · exact .inr ⟨q, PySem.W.cellsFrom_some _ _ _ (.inl q)⟩
  refine codeAny_call_function hr.depth (KX _ _ lk) rfl S.co S.gen rfl (PySem.W.codeRec_of KX hcd) (hb _ _ _ _ ?_)
  refine wpAny_newFunctionEnv_cells S.kind hkind fun env he s1 x => ?_
  subst he
  refine ⟨lim.keeps x.toInCall.keep, codeAny_func ?_⟩
  obtain ⟨t, ht, hq⟩ := hbody A outer s H vs Q E (hr.deeper _) hsp
  have I : Inv (cxOf CX P w K mg base N qual scope f cdv A outer s H E) [] (start N vs) H s1 := inv_start S hr.hd e0 hl r x
  refine wpAny_mono (ht [] s1 (start N vs) H _ I hq) (fun fl s' hs => ?_) fun e s' hs => hs
  have fin : ∀ {σ' : St} {H' : Hp} {v : V} {u : Value}, Inv (cxOf CX P w K mg base N qual scope f cdv A outer s H E) [] σ' H' s' → RelV v u → Q v H' → CE outer P w H s Q u s' :=
    fun {σ' H' v u} J rv q => ⟨v, H', J.os, J.bare, J.base, J.hok, rv, q⟩
  cases fl with
  | ret u =>
    obtain ⟨v, σ', H', J, rv, q⟩ := hs
    exact fin J rv q
  | next =>
    obtain ⟨σ', H', J, q⟩ := hs
    exact fin (v := V.non) (u := Value.none) J rfl q
  | brk =>
    obtain ⟨_, _, _, q⟩ := hs
    exact False.elim q
  | cont =>
    obtain ⟨_, _, _, q⟩ := hs
    exact False.elim q
end L2
namespace L2
open PySem PySem.Spec PyProof.Rows
section
variable {X : Cx} {x : Str} {p pos : Pos} {e : Expr} {es : List Expr} {t : TA} {id T : String} {r : List V → Hp → VK → Prop}
def tCB (r : List V → Hp → VK → Prop) (t : TA) : TE := fun σ H Q => t σ H fun vs H1 => r vs H1 Q
theorem pe_callB (hc : CallR X (.builtin id) r) (hg : Gl X x) (hm : X.mg x = none) (hv : bootBuiltins x = some (.builtin id)) (ha : PA X (e :: es) t) (hn : x ≠ "__name__" := by decide) (hdb : (x == ("__debug__" : Str)) = false := by decide)
    (he : starEach (e :: es) X.env = (false, eval e X.env) :: starEach es X.env := by rfl) (hpl : (backTo pos (starEach es X.env)).any (·.1) = false := by rfl) : PE X (.Call (.Name x p) (e :: es) [] pos) (tCB r t) := by
  intro pins s σ H Q I h
  refine wpAny_Call_Name_kw (ld_blt I hg hm hv ?_ hn hdb)
  exact PyProof.Rows.callWith_builtin1 (thn (ha pos pins s σ H _ I h) fun us s1 ⟨vs, H1, I1, r1, q1⟩ => hc pins s1 σ H1 vs us Q I1 r1 q1) he hpl
theorem pe_callTy (hc : CallR X (.type T) r) (hg : Gl X x) (hm : X.mg x = none) (hv : bootBuiltins x = some (.type T)) (ha : PA X (e :: es) t) (hn : x ≠ "__name__" := by decide) (hdb : (x == ("__debug__" : Str)) = false := by decide)
    (he : starEach (e :: es) X.env = (false, eval e X.env) :: starEach es X.env := by rfl) (hpl : (backTo pos (starEach es X.env)).any (·.1) = false := by rfl) : PE X (.Call (.Name x p) (e :: es) [] pos) (tCB r t) := by
  intro pins s σ H Q I h
  refine wpAny_Call_Name_kw (ld_blt I hg hm hv ?_ hn hdb)
  exact PyProof.Rows.callWith_type1 (thn (ha pos pins s σ H _ I h) fun us s1 ⟨vs, H1, I1, r1, q1⟩ => hc pins s1 σ H1 vs us Q I1 r1 q1) he hpl
end
end L2
namespace HT
open PySem PyProof.Rows
def lexLt : List Int → List Int → Bool
  | [], [] => false
  | [], _ :: _ => true
  | _ :: _, [] => false
  | x :: xs, y :: ys => if x = y then lexLt xs ys else decide (x < y)
theorem lexLt_cons (x y : Int) (xs ys : List Int) : lexLt (x :: xs) (y :: ys) = if x = y then lexLt xs ys else decide (x < y) := rfl
theorem lexLt_nil_nil : lexLt [] [] = false := rfl
theorem lexLt_nil_cons (y : Int) (ys : List Int) : lexLt [] (y :: ys) = true := rfl
theorem lexLt_cons_nil (x : Int) (xs : List Int) : lexLt (x :: xs) [] = false := rfl
theorem eqAt_int (A : Around) (s : Shared) (a : Int) (t : Tok) (c : Int) (u : Tok) : ∃ e, SeqAt.EqAt A s (.int a t) (.int c u) e ∧ (e = true ↔ a = c) :=
  ⟨(a == c), SeqAt.EqAt.int_int a t c u, by simp⟩
theorem rcLt_int (A : Around) (s : Shared) (a : Int) (t : Tok) (c : Int) (u : Tok) (prog : Program) (w : World) (E : Value → Shared → Prop) (Q : Value → Shared → Prop) (h : Q (.bool (decide (a < c))) s) :
    wpAny (model prog w) A (richCompare .Lt (.int a t) (.int c u)) Q E s :=
  (PyProof.Rows.lt_int h : wpAny (model prog w) A (compareOp .Lt (.int a t) (.int c u)) Q E s)
section
open PySem.SeqAt
open PySem.AutoSeq1 (wpAny_loadPart')
open PySem.MeetsSeq PySem.MeetsSeq2 PySem.MeetsSeq3
theorem tuple_lt_ints (l b : Addr) (items items2 : Array Value) (n n2 : Nat) (dd dd2 : Option Addr) (sl sl2 : Array (Option Value)) (ns ms : List Int) (hi : IntsAre items.toList ns) (hj : IntsAre items2.toList ms) :
    Meets (Builtin.«tuple.__lt__» ⟨[.ref l, .ref b], []⟩)
      (fun _ R s => s.heap.get? l = some { cls := .type "tuple", dict := dd, data := .seq items n, slots := sl } ∧ s.heap.get? b = some { cls := .type "tuple", dict := dd2, data := .seq items2 n2, slots := sl2 } ∧
        R (.ok (.ret (.bool (lexLt ns ms)))) s) :=
  .of_wp fun prog w A R s h => by
    obtain ⟨hp, g, d, tk, os⟩ := s; obtain ⟨hl, hb, h⟩ := h
    have f2 := AutoSeq1.sub_tuple_tuple
    have z1 : items.size = ns.length := by rw [← hi.length]; simp
    have z2 : items2.size = ms.length := by rw [← hj.length]; simp
    wp_walk using wpAny_loadPart' hl, wpAny_loadPart' hb, wpAny_forIn_list _ (fun rest b s' => b.1 = none ∧ s' = ⟨hp, g, d, tk, os⟩ ∧ ∃ (vs ws : List Value) (ns' ms' : List Int), rest = vs.zip ws ∧
      IntsAre vs ns' ∧ IntsAre ws ms' ∧ ns'.length + items2.size = ms'.length + items.size ∧ R (.ok (.ret (.bool (lexLt ns' ms')))) ⟨hp, g, d, tk, os⟩) _
    case turn =>
      rintro ⟨y, x⟩ rest b s' ⟨hb', rfl, vs, ws, ns', ms', hz, hvi, hwi, hlen, hR⟩
      cases hvi with
      | nil => rw [List.zip_nil_left] at hz; cases hz
      | cons a t hvi' =>
        cases hwi with
        | nil => rw [List.zip_nil_right] at hz; cases hz
        | cons c u hwi' =>
          rw [List.zip_cons_cons] at hz
          injection hz with hyx hrest
          injection hyx with hy hx
          subst hy hx
          rw [lexLt_cons] at hR
          simp only [List.length_cons] at hlen
          obtain ⟨e, he, hiff⟩ := eqAt_int A.in1 ⟨hp, g, d, tk, os⟩ a t c u
          refine wpAny_bind (he prog w _ _ ?_)
          cases e with
          | true =>
            rw [if_pos (hiff.mp rfl)] at hR
            wp_walk
            exact ⟨rfl, rfl, _, _, _, _, hrest, hvi', hwi', by omega, hR⟩
          | false =>
            rw [if_neg (fun q => absurd (hiff.mpr q) Bool.false_ne_true)] at hR
            have hri := rcLt_int A.in1 ⟨hp, g, d, tk, os⟩ a t c u prog w
            wp_walk using hri
            exact ⟨_, rfl, by simpa using hR⟩
    case fin =>
      rintro ⟨b1, b2⟩ s' ⟨hb', rfl, vs, ws, ns', ms', hz, hvi, hwi, hlen, hR⟩
      simp only at hb'
      subst hb'
      have hv : lexLt ns' ms' = decide (items.size < items2.size) := by
        cases hvi with
        | nil =>
          cases hwi with
          | nil =>
            simp only [List.length_nil] at hlen
            rw [lexLt_nil_nil]
            exact (decide_eq_false (by omega)).symm
          | cons c u hw =>
            simp only [List.length_nil, List.length_cons] at hlen
            rw [lexLt_nil_cons]
            exact (decide_eq_true (by omega)).symm
        | cons a t hv =>
          cases hwi with
          | nil =>
            simp only [List.length_nil, List.length_cons] at hlen
            rw [lexLt_cons_nil]
            exact (decide_eq_false (by omega)).symm
          | cons c u hw =>
            rw [List.zip_cons_cons] at hz
            cases hz
      rw [hv] at hR
      wp_walk
      exact ⟨_, rfl, by simpa [Builtin.Tuple.tupleCompareSizes] using hR⟩
    case h =>
      exact ⟨rfl, rfl, items.toList, items2.toList, ns, ms, rfl, hi, hj, by omega, h⟩
end
section
variable {prog : Program} {w : World} {A : Around} {E : Value → Shared → Prop} {s : Shared}
theorem lt_tupInts {l b : Addr} {items items2 : Array Value} {ns ms : List Int} {Q : Value → Shared → Prop} (hl : IsTup s.heap l items) (hb : IsTup s.heap b items2) (hi : IntsAre items.toList ns) (hj : IntsAre items2.toList ms)
    (hu : A.units < cLine) (h : Q (.bool (lexLt ns ms)) s) : wpAny (model prog w) A (compareOp .Lt (.ref l) (.ref b)) Q E s := by
  obtain ⟨⟨cls, dd, data, sl⟩, ho, hc, n, hd⟩ := id hl
  obtain ⟨⟨cls2, dd2, data2, sl2⟩, ho2, hc2, n2, hd2⟩ := id hb
  simp only at hc hd hc2 hd2
  subst hc hd hc2 hd2
  exact richCompare_meets_room (op := .Lt) ⟨_, ho, rfl⟩ ⟨_, ho2, rfl⟩ PySem.F.slot_tuple_lt PySem.F.entry_tuple_lt (PySem.F.args_tuple_lt_2 _ _) (tuple_lt_ints l b items items2 n n2 dd dd2 sl sl2 ns ms hi hj)
    ⟨ho, ho2, show Value.bool (lexLt ns ms) ≠ Value.notImplemented ∧ Q (.bool (lexLt ns ms)) s from ⟨(fun x => nomatch x), h⟩⟩ hu
theorem cat_tup {t b : Addr} {vs ws : List Value} {Q : Value → Shared → Prop} (ht : IsTup s.heap t vs.toArray) (hb : IsTup s.heap b ws.toArray) (hv : vs ≠ [])
    (h1 : ws = [] → Q (.ref t) s) (h2 : ws ≠ [] → Q (.ref s.heap.objs.size) { s with heap := s.heap.push { cls := .type "tuple", data := .seq (vs ++ ws).toArray } })
    (hsz : vs.length + ws.length ≤ sizeLine) : wpAny (model prog w) A (binaryOp .Add (.ref t) (.ref b)) Q E s := by
  obtain ⟨⟨cls, dd, data, sl⟩, ho, hc, n, hd⟩ := id ht
  obtain ⟨⟨cls2, dd2, data2, sl2⟩, ho2, hc2, n2, hd2⟩ := id hb
  simp only at hc hd hc2 hd2
  subst hc hd hc2 hd2
  have e : vs.toArray ++ ws.toArray = (vs ++ ws).toArray := by simp
  by_cases hw : ws = []
  · exact concat_meets ⟨_, ho, rfl⟩ ⟨_, ho2, rfl⟩ noFill_tuple_add seq_tuple_add PySem.F.slot_tuple_add PySem.F.entry_tuple_add (PySem.F.args_tuple_add_2 _ _)
      (tuple_addW1 t b vs.toArray ws.toArray n n2 dd dd2 sl sl2 (by simpa using hv) (by simp [hw])) ⟨ho, ho2, h1 hw⟩
  · refine concat_meets ⟨_, ho, rfl⟩ ⟨_, ho2, rfl⟩ noFill_tuple_add seq_tuple_add PySem.F.slot_tuple_add PySem.F.entry_tuple_add (PySem.F.args_tuple_add_2 _ _)
      (tuple_addW2 t b vs.toArray ws.toArray n n2 dd dd2 sl sl2 (by simpa using hv) (by simpa using hw) (by rw [List.size_toArray, List.size_toArray]; exact hsz)) ⟨ho, ho2, ?_⟩
    rw [e]
    exact h2 hw
def sIx (n d : Nat) : Option Int → Nat
  | none => d
  | some v => if v < 0 then (v + (n : Int)).toNat else min v.toNat n
theorem sIx_none (n d : Nat) : sIx n d none = d := rfl
theorem sIx_nat (n d k : Nat) : sIx n d (some (k : Int)) = min k n := by
  show (if (k : Int) < 0 then ((k : Int) + (n : Int)).toNat else min (k : Int).toNat n) = min k n
  rw [if_neg (by omega), Int.toNat_natCast]
theorem sIx_le (n d : Nat) (hd : d ≤ n) (o : Option Int) : sIx n d o ≤ n := by
  cases o with
  | none => exact hd
  | some v =>
    show (if v < 0 then (v + (n : Int)).toNat else min v.toNat n) ≤ n
    by_cases hv : v < 0
    · rw [if_pos hv]; omega
    · rw [if_neg hv]; exact Nat.min_le_right _ _
theorem clip_eq (v : Int) (n d : Nat) : (if v < 0 then max (v + (n : Int)) 0 else min v (n : Int)) = ((sIx n d (some v) : Nat) : Int) := by
  show (if v < 0 then max (v + (n : Int)) 0 else min v (n : Int)) = (((if v < 0 then (v + (n : Int)).toNat else min v.toNat n) : Nat) : Int)
  by_cases hv : v < 0
  · simp only [if_pos hv]; omega
  · simp only [if_neg hv]; omega
theorem adjust_gen (lo hi : Option Int) (n : Nat) : Builtin.Slice.sliceAdjust lo hi 1 (n : Int) = (((sIx n 0 lo : Nat) : Int), ((sIx n n hi : Nat) : Int)) := by
  have h1 : ¬ ((1 : Int) < 0) := by omega
  unfold Builtin.Slice.sliceAdjust
  simp only [h1, if_false]
  refine Prod.ext ?_ ?_
  · cases lo with
    | none => rfl
    | some v => exact clip_eq v n 0
  · cases hi with
    | none => rfl
    | some v => exact clip_eq v n n
theorem places_gen (i j : Nat) : Builtin.Slice.slicePlaces (i : Int) (j : Int) 1 = j - i := by
  unfold Builtin.Slice.slicePlaces
  have h1 : (1 : Int) > 0 := by omega
  simp only [h1, if_true, Int.ediv_one]
  split <;> omega
theorem slicePart_ {v : Value} {o : Option Int} {Q : Option Int → Shared → Prop} (p : IsPart v o) (h : Q o s) : wpAny (model prog w) A (Builtin.Slice.slicePartIndex v) Q E s := by
  cases p with
  | none => exact slicePart_none h
  | int i t => exact slicePart_int h
theorem sliceApplied_gen {sl : Addr} {vl vu : Value} {lo hi : Option Int} {n : Nat} {Q : Int × Int × Nat → Shared → Prop} (hs : s.heap.IsSliceOf sl vl vu .none) (pl : IsPart vl lo) (pu : IsPart vu hi)
    (h : Q (((sIx n 0 lo : Nat) : Int), 1, sIx n n hi - sIx n 0 lo) s) : wpAny (model prog w) A (Builtin.Slice.sliceApplied (.ref sl) (pure (n : Int))) Q E s := by
  obtain ⟨os, hos, hcs, hds⟩ := id hs
  unfold Builtin.Slice.sliceApplied Builtin.Slice.sliceFields
  refine wpAny_bind (wpAny_bind (wpAny_field hos hds (x := vl) rfl (wpAny_bind (wpAny_field hos hds (x := vu) rfl (wpAny_bind (wpAny_field hos hds (x := .none) rfl (wpAny_pure ?_)))))))
  refine wpAny_bind (slicePart_none ?_)
  show wpAny _ _ (if ((1 : Int) == 0) = true then _ else _) _ _ s
  rw [if_neg (by decide)]
  refine wpAny_bind (slicePart_ pl (wpAny_bind (slicePart_ pu (wpAny_bind (wpAny_pure ?_)))))
  show wpAny _ _ (match Builtin.Slice.sliceAdjust lo hi 1 (n : Int) with | (lo, hi) => pure (lo, (1 : Int), Builtin.Slice.slicePlaces lo hi 1)) _ _ s
  rw [adjust_gen lo hi n]
  show wpAny _ _ (pure (((sIx n 0 lo : Nat) : Int), (1 : Int), Builtin.Slice.slicePlaces ((sIx n 0 lo : Nat) : Int) ((sIx n n hi : Nat) : Int) 1)) _ _ s
  rw [places_gen]
  exact wpAny_pure h
theorem pick_gen (xs : Array Value) (i k : Nat) : ((List.range k).filterMap fun (m : Nat) => xs[((i : Int) + (m : Int) * 1).toNat]?).toArray = ((xs.toList.drop i).take k).toArray := by
  have e : (fun (m : Nat) => xs[((i : Int) + (m : Int) * 1).toNat]?) = fun m => xs[i + m]? := by
    funext m
    have : ((i : Int) + (m : Int) * 1).toNat = i + m := by omega
    rw [this]
  rw [e]
  have := pick_run xs i k
  rw [List.filterMap_map] at this
  have e2 : ((fun x => xs[x]?) ∘ fun x => i + x) = fun m => xs[i + m]? := rfl
  rw [e2] at this
  rw [this]
theorem getItem_tuple_cut {t sl : Addr} {items : Array Value} {vl vu : Value} {lo hi : Option Int} {Q : Value → Shared → Prop} (ht : IsTup s.heap t items) (hs : s.heap.IsSliceOf sl vl vu .none) (pl : IsPart vl lo) (pu : IsPart vu hi)
    (hw : ¬ (sIx items.size 0 lo = 0 ∧ sIx items.size items.size hi = items.size))
    (h : Q (.ref s.heap.objs.size) { s with heap := s.heap.push { cls := .type "tuple", data := .seq ((items.toList.drop (sIx items.size 0 lo)).take (sIx items.size items.size hi - sIx items.size 0 lo)).toArray } })
    (hsz : items.size ≤ sizeLine) : wpAny (model prog w) A (getItem (.ref t) (.ref sl)) Q E s := by
  have htake : sizeOk (.seq ((items.toList.drop (sIx items.size 0 lo)).take (sIx items.size items.size hi - sIx items.size 0 lo)).toArray) := by
    show ((items.toList.drop (sIx items.size 0 lo)).take (sIx items.size items.size hi - sIx items.size 0 lo)).toArray.size ≤ sizeLine
    rw [List.size_toArray, List.length_take, List.length_drop, Array.length_toList]
    omega
  have hj : sIx items.size items.size hi ≤ items.size := sIx_le _ _ (Nat.le_refl _) hi
  obtain ⟨os, hos, hcs, hds⟩ := id hs
  have hTs : s.TypeIs (.ref sl) "slice" := ⟨os, hos, hcs⟩
  unfold getItem
  try with_reducible refine wpAny_holding ?_
  first | refine wpAny_bind (wpAny_pure ?_) | skip
  refine wpAny_bind (wpAny_sequenceKey ht.typeIs (by decide) ?_)
  refine wpAny_bind (wpAny_callSpecial?_slot (name := Str.ofString "__getitem__") ht.typeIs PyProof.Rows.slot_tuple_getitem
    (wpAny_call_entry PyProof.Rows.slot_tuple_getitem ht.typeIs entry_tuple_getitem ?_ (args_tuple_getitem _ _)))
  show wpAny _ _ (Builtin.Tuple.tupleItemsOf (.ref t) >>= _) _ _ s
  refine wpAny_bind (tupleItemsOf_ ht ?_)
  refine wpAny_bind (wpAny_typeOf hTs ?_)
  rw [if_pos (by decide)]
  refine wpAny_bind (sliceApplied_gen hs pl pu ?_)
  have hno : ¬ ((((sIx items.size 0 lo : Nat) : Int) == 0 && (1 : Int) == 1 && (sIx items.size items.size hi - sIx items.size 0 lo) == items.size) = true) := by
    intro q
    rw [Bool.and_eq_true, Bool.and_eq_true] at q
    have q1 : ((sIx items.size 0 lo : Nat) : Int) = 0 := eq_of_beq q.1.1
    have q2 : sIx items.size items.size hi - sIx items.size 0 lo = items.size := eq_of_beq q.2
    exact hw ⟨by omega, by omega⟩
  show wpAny _ _ (if (((sIx items.size 0 lo : Nat) : Int) == 0 && (1 : Int) == 1 && (sIx items.size items.size hi - sIx items.size 0 lo) == items.size) = true then _ else _) _ _ s
  rw [if_neg hno, pick_gen]
  first
    | exact wpAny_bind (m := Builtin.Tuple.tupleExact _) (wpAny_newObj_type (wpAny_pure ⟨_, rfl, wpAny_pure h⟩) htake)
    | exact wpAny_bind (m := Builtin.Tuple.tupleExact _) (wpAny_newObj_type (wpAny_bind (wpAny_pure (wpAny_pure ⟨_, rfl, wpAny_pure h⟩))) htake)
    | exact wpAny_bind (wpAny_bind (m := Builtin.Tuple.tupleExact _) (wpAny_newObj_type (wpAny_pure (wpAny_pure ⟨_, rfl, wpAny_pure h⟩)) htake))
    | exact wpAny_bind (wpAny_bind (m := Builtin.Tuple.tupleExact _) (wpAny_newObj_type (wpAny_pure ⟨_, rfl, wpAny_pure h⟩) htake))
end
end HT
namespace L2
open PySem PySem.Spec PyProof.Rows
abbrev TO := St → Hp → (Option Int → Hp → Prop) → Prop
def PO (X : Cx) (e : Option Expr) (t : TO) : Prop :=
  ∀ (pins : List (Addr × Obj)) (s : Shared) (σ : St) (H : Hp) (Q : Option Int → Hp → Prop), Inv X pins σ H s → t σ H Q →
    wpAny (model X.prog X.w) X.A (evalPart e X.env) (fun u s' => ∃ o H', Inv X pins σ H' s' ∧ IsPart u o ∧ Q o H') X.xe s
def tNoPart : TO := fun _ H Q => Q none H
def tPart (t : TE) : TO := fun σ H Q => t σ H fun x H1 => ∃ i, x = .int i ∧ Q (some i) H1
theorem intsAre_of {ns : List Int} : ∀ {us : List Value}, Vals (ns.map V.int) us → IntsAre us ns := by
  induction ns with
  | nil => intro us r; rw [List.map_nil] at r; cases r; exact .nil
  | cons n ns ih =>
    intro us r
    rw [List.map_cons] at r
    cases r with
    | cons r1 r2 =>
      obtain ⟨t, e⟩ := r1
      subst e
      exact .cons n t (ih r2)
section
variable {X : Cx} {e : Expr} {te : TE} {lo hi : Option Expr} {tl th : TO} {pos p2 : Pos}
theorem po_none : PO X none tNoPart := by
  intro pins s σ H Q I h
  rw [evalPart_none]
  exact wpAny_pure ⟨none, H, I, .none, h⟩
theorem po_some (h : PE X e te) : PO X (some e) (tPart te) := by
  intro pins s σ H Q I hw
  rw [evalPart_some]
  refine thn (h pins s σ H _ I hw) fun u s1 ⟨x, H1, I1, r1, q1⟩ => ?_
  obtain ⟨i, rfl, q⟩ := q1
  obtain ⟨t, rfl⟩ := r1
  exact ⟨some i, H1, I1, .int i t, q⟩
def SlR (X : Cx) (r : V → Option Int → Option Int → Hp → VK → Prop) : Prop :=
  ∀ (pins : List (Addr × Obj)) (s : Shared) (σ : St) (H : Hp) (x : V) (v vl vu : Value) (lo hi : Option Int) (sl : Addr) (Q : VK), Inv X pins σ H s → RelV x v → s.heap.IsSliceOf sl vl vu .none → IsPart vl lo → IsPart vu hi → r x lo hi H Q →
    ∃ T id, typeLookup (.type T) "__getitem__" = pure (some (.builtin id)) ∧ s.TypeIs v T ∧ wpAny (model X.prog X.w) X.A (getItem v (.ref sl)) (EP X pins σ Q) X.xe s
def tSl (r : V → Option Int → Option Int → Hp → VK → Prop) (te : TE) (tl th : TO) : TE := fun σ H Q => te σ H fun x H1 => tl σ H1 fun l H2 => th σ H2 fun u H3 => r x l u H3 Q
theorem pe_slice {r : V → Option Int → Option Int → Hp → VK → Prop} (hr : SlR X r) (he : PE X e te) (hl : PO X lo tl) (hu : PO X hi th) : PE X (.Subscript e (.Slice lo hi none p2) pos) (tSl r te tl th) := by
  intro pins s σ H Q I h
  refine Subscript_ (thn (he pins s σ H _ I h) fun v s1 ⟨x, H1, I1, r1, q1⟩ => ?_)
  refine wpAny_Slice (thn (hl pins s1 σ H1 _ I1 q1) fun vl s2 ⟨l, H2, I2, pl, q2⟩ => thn (hu pins s2 σ H2 _ I2 q2) fun vu s3 ⟨u, H3, I3, pu, q3⟩ => ?_)
  rw [evalPart_none]
  refine wpAny_pure ?_
  have I4 : Inv X pins σ H3 { s3 with heap := s3.heap.push { cls := .type "slice", data := .fields #[vl, vu, .none] } } := I3.kept (t' := s3.toks) fun b ob q => Heap.get?_push_of_some _ q
  obtain ⟨T, id, hT, ht, hg⟩ := hr pins { s3 with heap := s3.heap.push { cls := .type "slice", data := .fields #[vl, vu, .none] } } σ H3 x v vl vu l u s3.heap.objs.size Q I4 r1 (Heap.IsSliceOf.new ..) pl pu q3
  show wpAny (model X.prog X.w) X.A (subscriptTail e (.Slice lo hi none p2) v (.ref s3.heap.objs.size)) (EP X pins σ Q) X.xe { s3 with heap := s3.heap.push { cls := .type "slice", data := .fields #[vl, vu, .none] } }
  exact tail_any (ops := [.ref s3.heap.objs.size, v]) ht hT hg (by with_unfolding_all rfl)
def cutV (xs : List V) (lo hi : Option Int) : List V := (xs.drop (HT.sIx xs.length 0 lo)).take (HT.sIx xs.length xs.length hi - HT.sIx xs.length 0 lo)
theorem cutV_length (xs : List V) (lo hi : Option Int) : (cutV xs lo hi).length ≤ xs.length := by
  unfold cutV
  rw [List.length_take, List.length_drop]
  omega
def rSlT (K : PySem.W.Frag) : V → Option Int → Option Int → Hp → VK → Prop := fun x lo hi H Q => ∃ a xs, x = .ref a ∧ SqT K H a xs ∧
  ¬ (HT.sIx xs.length 0 lo = 0 ∧ HT.sIx xs.length xs.length hi = xs.length) ∧ ∀ p, H p = none → Q (.ref p) (upd H p (.tup (cutV xs lo hi)))
theorem sl_tup : SlR X (rSlT X.K) := by
  intro pins s σ H x v vl vu lo hi sl Q I rx hs pl pu h
  obtain ⟨a, xs, rfl, hx, hw, q⟩ := h
  cases rx
  obtain ⟨its, r, ht, hz⟩ := I.tuple hx
  have hlen : its.toArray.size = xs.length := by rw [List.size_toArray]; exact r.length.symm
  refine ⟨"tuple", _, PyProof.Rows.slot_tuple_getitem.lookup, ht.typeIs, ?_⟩
  refine HT.getItem_tuple_cut ht hs pl pu (by rw [hlen]; exact hw) ?_ (by rw [hlen]; exact hz)
  rw [hlen]
  refine ⟨.ref s.heap.objs.size, _, I.laid (t' := s.toks) (o := .tup (cutV xs lo hi)) (fun b ob q => Heap.get?_push_of_some _ q) (Nat.le_refl _) ?_, rfl, q _ (I.hok.fresh (Nat.le_refl _))⟩
  exact ⟨Nat.le_trans (cutV_length xs lo hi) hz, _, (r.drop (HT.sIx xs.length 0 lo)).take (HT.sIx xs.length xs.length hi - HT.sIx xs.length 0 lo), IsTup.new _ _⟩
def rLtT (K : PySem.W.Frag) : R2 := fun x y H Q => ∃ a b ns ms, x = .ref a ∧ y = .ref b ∧ SqT K H a (ns.map V.int) ∧ SqT K H b (ms.map V.int) ∧ Q (.bl (HT.lexLt ns ms)) H
theorem op_ltT (hu : X.A.units < cLine) : OpR X (compareOp .Lt) (rLtT X.K) := by
  intro pins s σ H x y v u Q I rx ry h
  obtain ⟨a, b, ns, ms, rfl, rfl, ha, hb, q⟩ := h
  cases rx
  cases ry
  obtain ⟨its, r1, p1, _⟩ := I.tuple ha
  obtain ⟨its2, r2, p2, _⟩ := I.tuple hb
  have i1 : IntsAre its.toArray.toList ns := intsAre_of r1
  have i2 : IntsAre its2.toArray.toList ms := intsAre_of r2
  exact HT.lt_tupInts p1 p2 i1 i2 hu ⟨.bl (HT.lexLt ns ms), H, I, rfl, q⟩
def rCatT (K : PySem.W.Frag) : R2 := fun x y H Q => ∃ a b xs ys, x = .ref a ∧ y = .ref b ∧ SqT K H a xs ∧ SqT K H b ys ∧ xs ≠ [] ∧ xs.length + ys.length ≤ sizeLine ∧
  (ys = [] → Q (.ref a) H) ∧ (ys ≠ [] → ∀ p, H p = none → Q (.ref p) (upd H p (.tup (xs ++ ys))))
theorem Vals.nil_iff {xs : List V} {us : List Value} (r : Vals xs us) : us = [] ↔ xs = [] := by
  cases r with
  | nil => simp
  | cons _ _ => simp
theorem op_catT : OpR X (binaryOp .Add) (rCatT X.K) := by
  intro pins s σ H x y v u Q I rx ry h
  obtain ⟨a, b, xs, ys, rfl, rfl, ha, hb, hx, hz, q1, q2⟩ := h
  cases rx
  cases ry
  obtain ⟨its, r1, p1, _⟩ := I.tuple ha
  obtain ⟨its2, r2, p2, _⟩ := I.tuple hb
  refine HT.cat_tup p1 p2 (fun z => hx (r1.nil_iff.mp z)) (fun z => ⟨.ref a, H, I, rfl, q1 (r2.nil_iff.mp z)⟩) (fun z => ?_) (by rw [← r1.length, ← r2.length]; exact hz)
  refine ⟨.ref s.heap.objs.size, _, I.laid (t' := s.toks) (o := .tup (xs ++ ys)) (fun b ob q => Heap.get?_push_of_some _ q) (Nat.le_refl _) ?_, rfl, q2 (fun w => z (r2.nil_iff.mpr w)) _ (I.hok.fresh (Nat.le_refl _))⟩
  exact ⟨by rw [List.length_append]; exact hz, _, r1.append r2, IsTup.new _ _⟩
end
end L2
namespace L2
open PySem PySem.Spec PyProof.Rows
def ixN (n : Nat) (i : Int) : Option Nat := if 0 ≤ i then (if i < n then some i.toNat else none) else if -(n : Int) ≤ i then some (i + n).toNat else none
def atI {α : Type} (xs : List α) (i : Int) : Option α := (ixN xs.length i).bind fun j => xs[j]?
theorem ixN_seq {n : Nat} {i : Int} {j : Nat} (h : ixN n i = some j) : seqIndex? i n = some j ∧ j < n ∧ -(n : Int) ≤ i ∧ i < n := by
  unfold ixN at h
  by_cases h0 : 0 ≤ i
  · rw [if_pos h0] at h
    by_cases h1 : i < n
    · rw [if_pos h1] at h
      have e : i.toNat = j := Option.some.inj h
      exact ⟨by rw [seqIndex_of h0 h1, e], by omega, by omega, h1⟩
    · rw [if_neg h1] at h; cases h
  · rw [if_neg h0] at h
    by_cases h1 : -(n : Int) ≤ i
    · rw [if_pos h1] at h
      have e : (i + n).toNat = j := Option.some.inj h
      exact ⟨by rw [seqIndex_neg (by omega) h1, e], by omega, h1, by omega⟩
    · rw [if_neg h1] at h; cases h
theorem atI_get {α : Type} {xs : List α} {i : Int} {v : α} (h : atI xs i = some v) : ∃ j, seqIndex? i xs.length = some j ∧ xs[j]? = some v ∧ j < xs.length ∧ -(xs.length : Int) ≤ i ∧ i < xs.length := by
  unfold atI at h
  cases e : ixN xs.length i with
  | none => rw [e] at h; cases h
  | some j =>
    rw [e] at h
    obtain ⟨h1, h2, h3, h4⟩ := ixN_seq e
    exact ⟨j, h1, h, h2, h3, h4⟩
theorem atI_nat {α : Type} {xs : List α} {j : Nat} {v : α} (h : xs[j]? = some v) : atI xs (j : Int) = some v := by
  have hj : j < xs.length := (List.getElem?_eq_some_iff.mp h).1
  have e : ixN xs.length (j : Int) = some j := by
    unfold ixN
    rw [if_pos (by omega), if_pos (by omega)]; simp
  unfold atI; rw [e]; exact h
theorem atI_last {α : Type} (xs : List α) (v : α) : atI (xs ++ [v]) (-1) = some v := by
  have hl : (xs ++ [v]).length = xs.length + 1 := by simp
  have e : ixN (xs ++ [v]).length (-1) = some xs.length := by
    unfold ixN
    rw [hl, if_neg (by decide), if_pos (by omega)]
    congr 1
    omega
  unfold atI
  rw [e]
  show (xs ++ [v])[xs.length]? = some v
  simp
def PlainIx (b : Expr) : Prop := ∀ o i, subscripted b false o i = operate [o, i] (getItem o i)
def IxR (X : Cx) (r : R2) : Prop :=
  ∀ (value slice : Expr) (pins : List (Addr × Obj)) (s : Shared) (σ : St) (H : Hp) (x y : V) (v u : Value) (Q : VK), Inv X pins σ H s → RelV x v → RelV y u → r x y H Q →
    subscripted slice false v u = operate [v, u] (getItem v u) → wpAny (model X.prog X.w) X.A (subscriptTail value slice v u) (EP X pins σ Q) X.xe s
def MtR (X : Cx) (id : String) (r : V → List V → Hp → VK → Prop) : Prop :=
  ∀ (pins : List (Addr × Obj)) (s : Shared) (σ : St) (H : Hp) (x : V) (xs : List V) (v : Value) (us : List Value) (Q : VK), Inv X pins σ H s → RelV x v → Vals xs us → r x xs H Q →
    wpAny (model X.prog X.w) X.A (call (.builtin id) (v :: us)) (EP X pins σ Q) X.xe s
section
variable {X : Cx} {a b : Expr} {ta tb : TE} {pos : Pos}
theorem MtR.or {id : String} {r r' : V → List V → Hp → VK → Prop} (h : MtR X id r) (h' : MtR X id r') : MtR X id (fun x xs H Q => r x xs H Q ∨ r' x xs H Q) := by
  intro pins s σ H x xs v us Q I rx rs q
  rcases q with q | q
  · exact h pins s σ H x xs v us Q I rx rs q
  · exact h' pins s σ H x xs v us Q I rx rs q
theorem pe_ix {r : R2} (hr : IxR X r) (ha : PE X a ta) (hb : PE X b tb) (hs : PlainIx b) : PE X (.Subscript a b pos) (tOp r ta tb) := by
  intro pins s σ H Q I h
  exact Subscript_ (binT ha hb I h fun v u s2 x y H2 I2 rx ry q => hr a b pins s2 σ H2 x y v u Q I2 rx ry q (hs _ _))
def rIxL (K : PySem.W.Frag) : R2 := fun x y H Q => ∃ p xs i v, x = .ref p ∧ y = .int i ∧ SqL K H p xs ∧ atI xs i = some v ∧ Q v H
def rIxT (K : PySem.W.Frag) : R2 := fun x y H Q => ∃ p xs i v, x = .ref p ∧ y = .int i ∧ SqT K H p xs ∧ atI xs i = some v ∧ Q v H
theorem ix_list : IxR X (rIxL X.K) := by
  intro value slice pins s σ H x y v u Q I rx ry h hs
  obtain ⟨p, xs, i, z, rfl, rfl, hq, he, q⟩ := h
  cases rx
  obtain ⟨t, rfl⟩ := ry
  obtain ⟨its, r, pl, hz⟩ := I.list hq
  obtain ⟨j, h1, h2, h3, h4, h5⟩ := atI_get he
  obtain ⟨w, ew, rw'⟩ := r.get h2
  have hl := r.length
  have hn := line63
  have fin : EP X pins σ Q w s := ⟨z, H, I, rw', q⟩
  by_cases h0 : 0 ≤ i
  · have hj : i.toNat = j := by
      rw [seqIndex_of h0 h5] at h1
      exact Option.some.inj h1
    exact item_listR pl.isList h0 (by omega) (by rw [hj]; simpa using ew) fin hs
  · have hj : (i + (its.toArray.size : Int)).toNat = j := by
      rw [seqIndex_neg (by omega) h4] at h1
      rw [List.size_toArray, ← hl]
      exact Option.some.inj h1
    exact subscriptTail_builtinR (x := w) pl.isList.typeIs slot_list_getitem.lookup
      (wpAny_getItem_list_neg (Q := fun r s' => r = w ∧ EP X pins σ Q r s') pl.isList (by omega) (by rw [List.size_toArray] <;> omega) (by omega) (by rw [hj]; simpa using ew) ⟨rfl, fin⟩) hs
theorem ix_tup : IxR X (rIxT X.K) := by
  intro value slice pins s σ H x y v u Q I rx ry h hs
  obtain ⟨p, xs, i, z, rfl, rfl, hq, he, q⟩ := h
  cases rx
  obtain ⟨t, rfl⟩ := ry
  obtain ⟨its, r, pl, hz⟩ := I.tuple hq
  obtain ⟨j, h1, h2, h3, h4, h5⟩ := atI_get he
  obtain ⟨w, ew, rw'⟩ := r.get h2
  have hl := r.length
  have hn := line63
  have fin : EP X pins σ Q w s := ⟨z, H, I, rw', q⟩
  exact subscriptTail_builtinR (x := w) pl.typeIs slot_tuple_getitem.lookup
    (getItem_tuple (j := j) (Q := fun r s' => r = w ∧ EP X pins σ Q r s') pl (by omega) (by omega) (by rw [List.size_toArray, ← hl]; exact h1) (by simpa using ew) ⟨rfl, fin⟩) hs
theorem slice_bounds (lo hi : Option Int) (n : Nat) : (sliceBounds lo hi none n).1 = ((HT.sIx n 0 lo : Nat) : Int) ∧ (sliceBounds lo hi none n).2.1 = ((HT.sIx n n hi : Nat) : Int) ∧ (sliceBounds lo hi none n).2.2 = 1 := by
  refine ⟨?_, ?_, rfl⟩
  · cases lo with
    | none => simp [sliceBounds, HT.sIx]
    | some i =>
      simp only [sliceBounds, HT.sIx, Option.getD_none, show (1 : Int) > 0 by decide, if_true]
      by_cases h : i < 0
      · simp only [h, if_true] <;> omega
      · simp only [h, if_false] <;> omega
  · cases hi with
    | none => simp [sliceBounds, HT.sIx]
    | some i =>
      simp only [sliceBounds, HT.sIx, Option.getD_none, show (1 : Int) > 0 by decide, if_true]
      by_cases h : i < 0
      · simp only [h, if_true] <;> omega
      · simp only [h, if_false] <;> omega
theorem slicePick_cut (its : List Value) (lo hi : Option Int) : slicePick its.toArray lo hi none = ((its.drop (HT.sIx its.length 0 lo)).take (HT.sIx its.length its.length hi - HT.sIx its.length 0 lo)).toArray := by
  obtain ⟨h1, h2, h3⟩ := slice_bounds lo hi its.toArray.size
  unfold slicePick
  rw [h1, h2, h3]
  simp only [sliceRange_one, pick_run, List.size_toArray] <;> rfl
def rSlL (K : PySem.W.Frag) : V → Option Int → Option Int → Hp → VK → Prop := fun x lo hi H Q => ∃ a xs, x = .ref a ∧ SqL K H a xs ∧ ∀ p, H p = none → Q (.ref p) (upd H p (.lst (cutV xs lo hi)))
theorem sl_list : SlR X (rSlL X.K) := by
  intro pins s σ H x v vl vu lo hi sl Q I rx hs pl pu h
  obtain ⟨a, xs, rfl, hx, q⟩ := h
  cases rx
  obtain ⟨its, r, ht, hz⟩ := I.list hx
  have hlen := r.length
  refine ⟨"list", _, slot_list_getitem.lookup, ht.isList.typeIs, ?_⟩
  refine wpAny_getItem_list_slice ht.isList hs pl pu .none (by simp) ?_ (by rw [List.size_toArray] <;> omega)
  rw [slicePick_cut, ← hlen]
  refine ⟨.ref s.heap.objs.size, _, I.laid (t' := s.toks) (o := .lst (cutV xs lo hi)) (fun b ob q => Heap.get?_push_of_some _ q) (Nat.le_refl _) ?_, rfl, q _ (I.hok.fresh (Nat.le_refl _))⟩
  exact ⟨Nat.le_trans (cutV_length xs lo hi) hz, _, 0, (r.drop (HT.sIx xs.length 0 lo)).take (HT.sIx xs.length xs.length hi - HT.sIx xs.length 0 lo), Heap.get?_push_size _ rfl⟩
def flatV : V → Bool
  | .non => true
  | .bl _ => true
  | .int _ => true
  | .str _ => true
  | _ => false
def eqV : V → V → Bool
  | .non, .non => true
  | .bl a, .bl b => a == b
  | .bl a, .int b => (if a then 1 else 0) == b
  | .int a, .bl b => a == (if b then 1 else 0)
  | .int a, .int b => a == b
  | .str a, .str b => a == b
  | _, _ => false
theorem eqAt_V {A : Around} {s : Shared} {y x : V} {u v : Value} (ry : RelV y u) (rx : RelV x v) (fy : flatV y = true) (fx : flatV x = true) : SeqAt.EqAt A s u v (eqV y x) := by
  cases y with
  | non =>
    cases ry
    cases x with
    | non => cases rx; exact SeqAt.EqAt.same _
    | bl b => cases rx; exact SeqAt.EqAt.none_bool b
    | int b => obtain ⟨t, rfl⟩ := rx; exact SeqAt.EqAt.none_int b t
    | str b => obtain ⟨t, rfl⟩ := rx; exact SeqAt.EqAt.none_str b t
    | _ => exact absurd (show false = true from fx) Bool.false_ne_true
  | bl a =>
    cases ry
    cases x with
    | non => cases rx; exact SeqAt.EqAt.bool_none a
    | bl b => cases rx; exact SeqAt.EqAt.bool_bool a b
    | int b => obtain ⟨t, rfl⟩ := rx; exact SeqAt.EqAt.bool_int a b t
    | str b => obtain ⟨t, rfl⟩ := rx; exact SeqAt.EqAt.bool_str a b t
    | _ => exact absurd (show false = true from fx) Bool.false_ne_true
  | int a =>
    obtain ⟨t', rfl⟩ := ry
    cases x with
    | non => cases rx; exact SeqAt.EqAt.int_none a t'
    | bl b => cases rx; exact SeqAt.EqAt.int_bool a t' b
    | int b => obtain ⟨t, rfl⟩ := rx; exact SeqAt.EqAt.int_int a t' b t
    | str b => obtain ⟨t, rfl⟩ := rx; exact SeqAt.EqAt.int_str a t' b t
    | _ => exact absurd (show false = true from fx) Bool.false_ne_true
  | str a =>
    obtain ⟨t', rfl⟩ := ry
    cases x with
    | non => cases rx; exact SeqAt.EqAt.str_none a t'
    | bl b => cases rx; exact SeqAt.EqAt.str_bool a t' b
    | int b => obtain ⟨t, rfl⟩ := rx; exact SeqAt.EqAt.str_int a t' b t
    | str b => obtain ⟨t, rfl⟩ := rx; exact SeqAt.EqAt.str_str a t' b t
    | _ => exact absurd (show false = true from fx) Bool.false_ne_true
  | _ => exact absurd (show false = true from fy) Bool.false_ne_true
def eqU (x : V) (u : Value) : Bool := match u with
  | .none => eqV .non x
  | .bool b => eqV (.bl b) x
  | .int i _ => eqV (.int i) x
  | .str z _ => eqV (.str z) x
  | _ => false
theorem eqU_of {x y : V} {u : Value} (r : RelV y u) (f : flatV y = true) : eqU x u = eqV y x := by
  cases y with
  | non => cases r; rfl
  | bl b => cases r; rfl
  | int i => obtain ⟨t, rfl⟩ := r; rfl
  | str z => obtain ⟨t, rfl⟩ := r; rfl
  | _ => exact absurd (show false = true from f) Bool.false_ne_true
theorem any_eqU {x : V} : ∀ {xs : List V} {us : List Value}, Vals xs us → xs.all flatV = true → us.any (eqU x) = xs.any fun y => eqV y x
  | _, _, .nil, _ => rfl
  | y :: xs, u :: us, .cons r t, f => by
    rw [List.all_cons, Bool.and_eq_true] at f
    rw [List.any_cons, List.any_cons, eqU_of r f.1, any_eqU t f.2]
theorem mem_eqAt {A : Around} {s : Shared} {x : V} {v : Value} (rx : RelV x v) (fx : flatV x = true) : ∀ {xs : List V} {us : List Value}, Vals xs us → xs.all flatV = true → ∀ u ∈ us, SeqAt.EqAt A s u v (eqU x u)
  | _, _, .nil, _ => fun u hu => by cases hu
  | y :: xs, u :: us, .cons r t, f => fun u' hu => by
    rw [List.all_cons, Bool.and_eq_true] at f
    rcases List.mem_cons.mp hu with rfl | hu
    · rw [eqU_of r f.1]; exact eqAt_V r rx f.1 fx
    · exact mem_eqAt rx fx t f.2 u' hu
def inV (x : V) (xs : List V) : Bool := xs.any fun y => eqV y x
def rIn (K : PySem.W.Frag) (neg : Bool) : R2 := fun x y H Q => ∃ p xs, y = .ref p ∧ (SqL K H p xs ∨ SqT K H p xs) ∧ flatV x = true ∧ xs.all flatV = true ∧ Q (.bl (if neg then !inV x xs else inV x xs)) H
theorem op_in_seq : OpR X (compareOp .In) (rIn X.K false) := by
  intro pins s σ H x y v u Q I rx ry h
  obtain ⟨p, xs, rfl, hq, fx, fs, q⟩ := h
  cases ry
  rcases hq with hq | hq
  · obtain ⟨its, r, pl, hz⟩ := I.list hq
    refine SeqAt.in_listAt (eqU x) pl.isList (fun w hw => mem_eqAt rx fx r fs w (by simpa using hw)) ⟨.bl _, H, I, rfl, ?_⟩
    rw [show its.toArray.any (eqU x) = its.any (eqU x) by simp, any_eqU r fs]
    exact q
  · obtain ⟨its, r, pl, hz⟩ := I.tuple hq
    refine SeqAt.in_tupleAt (eqU x) pl (fun w hw => mem_eqAt rx fx r fs w (by simpa using hw)) ⟨.bl _, H, I, rfl, ?_⟩
    rw [show its.toArray.any (eqU x) = its.any (eqU x) by simp, any_eqU r fs]
    exact q
theorem call_len_seq : CallR X (.builtin "len") (fun xs H Q => ∃ p ys, xs = [.ref p] ∧ (SqL X.K H p ys ∨ SqT X.K H p ys) ∧ Q (.int ys.length) H) := by
  intro pins s σ H xs us Q I r h
  obtain ⟨p, ys, rfl, hq, q⟩ := h
  obtain ⟨u, rfl, rx⟩ := vals1 r
  cases rx
  have hn := line63
  rcases hq with hq | hq
  · obtain ⟨its, r', pl, hz⟩ := I.list hq
    have hlen := r'.length
    exact Calls.call_len_list pl.isList (by simp only [List.size_toArray] <;> omega) ⟨.int ys.length, H, I.tok _, ⟨s.toks + 1, by rw [List.size_toArray, hlen]⟩, q⟩
  · obtain ⟨its, r', pl, hz⟩ := I.tuple hq
    have hlen := r'.length
    exact len_tuple pl (by simp only [List.size_toArray] <;> omega) ⟨.int ys.length, H, I.tok _, ⟨s.toks + 1, by rw [List.size_toArray, hlen]⟩, q⟩
theorem call_list_of : CallR X (.type "list") (fun xs H Q => ∃ p ys, xs = [.ref p] ∧ (SqL X.K H p ys ∨ SqT X.K H p ys) ∧ ∀ l, H l = none → Q (.ref l) (upd H l (.lst ys))) := by
  intro pins s σ H xs us Q I r h
  obtain ⟨p, ys, rfl, hq, q⟩ := h
  obtain ⟨u, rfl, rx⟩ := vals1 r
  cases rx
  have fin : ∀ (its : List Value), Vals ys its → ys.length ≤ sizeLine → ∀ (h' : Heap) (c' : Nat), (∀ b o', s.heap.get? b = some o' → h'.get? b = some o') →
      h'.get? s.heap.objs.size = some { cls := .type "list", dict := none, data := .seq its.toArray c', slots := #[] } → EP X pins σ Q (.ref s.heap.objs.size) { s with heap := h' } := fun its r' hz h' c' kp e =>
    ⟨.ref s.heap.objs.size, _, I.laid (t' := s.toks) kp (Nat.le_refl _) (show ObjOk X.prog X.w _ h' _ (.lst ys) from ⟨hz, its, c', r', e⟩), rfl, q _ (I.hok.fresh (Nat.le_refl _))⟩
  rcases hq with hq | hq
  · obtain ⟨its, r', pl, hz⟩ := I.list hq
    have hlen := r'.length
    obtain ⟨o, ho, hc, n, hd⟩ := pl.isList
    exact call_list_seq p (.inl rfl) ho hc hd (fun h' c' kp e => fin its r' hz h' c' kp e) (by simp only [List.size_toArray] <;> omega)
  · obtain ⟨its, r', pl, hz⟩ := I.tuple hq
    have hlen := r'.length
    obtain ⟨o, ho, hc, n, hd⟩ := pl
    exact call_list_seq p (.inr rfl) ho hc hd (fun h' c' kp e => fin its r' hz h' c' kp e) (by simp only [List.size_toArray] <;> omega)
theorem call_tuple_of : CallR X (.type "tuple") (fun xs H Q => ∃ p ys, xs = [.ref p] ∧ ((SqL X.K H p ys ∧ ∀ l, H l = none → Q (.ref l) (upd H l (.tup ys))) ∨ (SqT X.K H p ys ∧ Q (.ref p) H))) := by
  intro pins s σ H xs us Q I r h
  obtain ⟨p, ys, rfl, h⟩ := h
  obtain ⟨u, rfl, rx⟩ := vals1 r
  cases rx
  rcases h with ⟨hq, q⟩ | ⟨hq, q⟩
  · obtain ⟨its, r', pl, hz⟩ := I.list hq
    have hlen := r'.length
    refine call_tuple_list pl.isList (fun h' kp => ?_) (by simp only [List.size_toArray] <;> omega)
    have I1 : Inv X pins σ H { s with heap := h' } := I.kept (t' := s.toks) kp
    have I2 : Inv X pins σ (upd H h'.objs.size (.tup ys)) { s with heap := h'.push { cls := .type "tuple", data := .seq its.toArray } } :=
      I1.laid (t' := s.toks) (fun b o e => Heap.get?_push_of_some _ e) (Nat.le_refl _) (show ObjOk X.prog X.w _ _ _ (.tup ys) from ⟨hz, its, r', IsTup.new _ _⟩)
    exact ⟨.ref h'.objs.size, _, I2, rfl, q _ (I1.hok.fresh (Nat.le_refl _))⟩
  · obtain ⟨its, r', pl, hz⟩ := I.tuple hq
    exact call_tuple_same pl ⟨.ref p, H, I, rfl, q⟩
def tyV (K : PySem.W.Frag) (T : String) (x : V) (H : Hp) : Prop := match x with
  | .str _ => T = "str"
  | .int _ => T = "int"
  | .ref p => (T = "list" ∧ ∃ xs, SqL K H p xs) ∨ (T = "tuple" ∧ ∃ o, K.lookup p = some o ∧ o.cls = .type "tuple" ∧ o.dict = none) ∨
      (T = "dict" ∧ ((∃ kvs, H p = some (.dK kvs)) ∨ ∃ kvs, H p = some (.dT kvs))) ∨ (T = "set" ∧ ∃ S n, H p = some (.set S n))
  | _ => False
theorem tyV_is {pins : List (Addr × Obj)} {σ : St} {H : Hp} {s : Shared} {T : String} {x : V} {v : Value} (I : Inv X pins σ H s) (r : RelV x v) (ty : tyV X.K T x H) :
    s.TypeIs v T ∧ ∀ a, v = .ref a → ∃ ob, s.heap.get? a = some ob ∧ ob.dict = none := by
  cases x with
  | str z =>
    obtain ⟨t, rfl⟩ := r
    cases (show T = "str" from ty)
    exact ⟨typeIs_str s z t, fun _ e => nomatch e⟩
  | int i =>
    obtain ⟨t, rfl⟩ := r
    cases (show T = "int" from ty)
    exact ⟨typeIs_int s i t, fun _ e => nomatch e⟩
  | ref p =>
    cases r
    rcases ty with ⟨rfl, xs, hq⟩ | ⟨rfl, o, hk, hc, hd⟩ | ⟨rfl, hk⟩ | ⟨rfl, S, n, hk⟩
    · obtain ⟨its, _, pl, _⟩ := I.list hq
      refine ⟨pl.isList.typeIs, fun a e => ?_⟩
      cases e
      obtain ⟨o, n, e, c, hd, _⟩ := pl
      exact ⟨o, e, hd⟩
    · refine ⟨⟨o, I.kIn p o hk, hc⟩, fun a e => ?_⟩
      cases e
      exact ⟨o, I.kIn _ o hk, hd⟩
    · have z : ∃ o, s.heap.get? p = some o ∧ o.ExactDict := by
        rcases hk with ⟨kvs, hk⟩ | ⟨kvs, hk⟩
        · obtain ⟨_, _, _, _, o, _, _, e, ex, _⟩ := I.hok p _ hk
          exact ⟨o, e, ex⟩
        · obtain ⟨_, _, _, _, o, _, _, e, ex, _⟩ := I.hok p _ hk
          exact ⟨o, e, ex⟩
      obtain ⟨o, e, ex⟩ := z
      refine ⟨⟨o, e, ex.1⟩, fun a e2 => ?_⟩
      cases e2
      exact ⟨o, e, ex.2.1⟩
    · obtain ⟨o, _, _, _, e, ex, _⟩ := I.hok p _ hk
      refine ⟨⟨o, e, ex.1⟩, fun a e2 => ?_⟩
      cases e2
      exact ⟨o, e, ex.2.1⟩
  | _ => exact False.elim ty
def tBM0 (K : PySem.W.Frag) (T : String) (r : V → List V → Hp → VK → Prop) (to : TE) : TE := fun σ H Q => to σ H fun x H1 => tyV K T x H1 ∧ r x [] H1 Q
def tBM (K : PySem.W.Frag) (T : String) (r : V → List V → Hp → VK → Prop) (to : TE) (t : TA) : TE := fun σ H Q => to σ H fun x H1 => tyV K T x H1 ∧ t σ H1 fun xs H2 => r x xs H2 Q
variable {o e : Expr} {es : List Expr} {to : TE} {t : TA} {name : Str} {apos cpos : Pos} {T id : String} {r : V → List V → Hp → VK → Prop}
theorem pe_bm0 (pa : PlainAttrs T) (slot : Slot T name id) (hty : typeOf (.builtin id) = pure (.type "method_descriptor")) (hm : MtR X id r) (ho : PE X o to)
    (hbase : attributeBase o name X.env (eval o X.env) = eval o X.env := by rfl) (hline : (apos.endLine == cpos.line) = true := by rfl) : PE X (.Call (.Attribute o name apos) [] [] cpos) (tBM0 X.K T r to) := by
  intro pins s σ H Q I h
  refine wpAny_Call_method0_late hbase hline (thn (ho pins s σ H _ I h) fun v s1 ⟨x, H1, I1, r1, ty, q1⟩ => ?_)
  obtain ⟨h1, h2⟩ := tyV_is I1 r1 ty
  exact ⟨T, id, pa, slot, hty, h1, h2, Calls.callWith_builtin rfl (PySem.evalArgs_none (hm pins s1 σ H1 x [] v [] Q I1 r1 .nil q1))⟩
theorem pe_bm (pa : PlainAttrs T) (slot : Slot T name id) (hty : typeOf (.builtin id) = pure (.type "method_descriptor")) (hm : MtR X id r) (ho : PE X o to) (ha : PA X (e :: es) t)
    (hbase : attributeBase o name X.env (eval o X.env) = eval o X.env := by rfl)
    (hfew : ((backTo cpos (starEach (e :: es) X.env)).all (fun x => !x.1) && (backToKw cpos (keywordEach [] X.env)).all (fun x => x.1.isSome)
      && decide ((e :: es).length + ([] : List Keyword).length + (if ([] : List Keyword).isEmpty then 0 else 1) < 30)) = true := by rfl)
    (hline : (apos.endLine == cpos.line) = true := by rfl) (hs : starEach (e :: es) X.env = (false, eval e X.env) :: starEach es X.env := by rfl) (hplain : (backTo cpos (starEach es X.env)).any (·.1) = false := by rfl) :
    PE X (.Call (.Attribute o name apos) (e :: es) [] cpos) (tBM X.K T r to t) := by
  intro pins s σ H Q I h
  refine wpAny_Call_method_late hbase hfew hline rfl (thn (ho pins s σ H _ I h) fun v s1 ⟨x, H1, I1, r1, ty, q1⟩ => ?_)
  obtain ⟨h1, h2⟩ := tyV_is I1 r1 ty
  refine ⟨T, id, pa, slot, hty, h1, h2, ?_⟩
  have hA := ha cpos pins s1 σ H1 _ I1 q1
  rw [hs] at hA ⊢
  refine Calls.callWith_builtin (by show (false || (backTo cpos (starEach es X.env)).any (·.1)) = false; rw [hplain] <;> rfl) (Calls.evalArgs_plain ?_)
  exact thn hA fun us s2 ⟨vs, H2, I2, r2, q2⟩ => hm pins s2 σ H2 x vs v us Q I2 r1 r2 q2
end
end L2
namespace L2
open PySem PySem.Spec PyProof.Rows
def MtM (X : Cx) (id : String) (r : V → List V → Hp → VK → Prop) : Prop :=
  ∀ (pins : List (Addr × Obj)) (s : Shared) (σ : St) (H : Hp) (x : V) (xs : List V) (v : Value) (us : List Value) (Q : VK), Inv X pins σ H s → RelV x v → Vals xs us → r x xs H Q →
    wpAny (model X.prog X.w) X.A (call (.builtin id) (v :: us)) (EP X pins σ Q) X.xe s
theorem Vals.one : ∀ {x : V} {us : List Value}, Vals [x] us → ∃ u, us = [u] ∧ RelV x u
  | _, _, .cons r .nil => ⟨_, rfl, r⟩
theorem Vals.two : ∀ {x y : V} {us : List Value}, Vals [x, y] us → ∃ u v, us = [u, v] ∧ RelV x u ∧ RelV y v
  | _, _, _, .cons r (.cons q .nil) => ⟨_, _, rfl, r, q⟩
theorem Vals.zero : ∀ {us : List Value}, Vals [] us → us = []
  | _, .nil => rfl
theorem Vals.dropLast {xs : List V} {us : List Value} (h : Vals xs us) : Vals xs.dropLast us.dropLast := by
  induction h with
  | nil => exact .nil
  | cons r t ih =>
    cases t with
    | nil => exact .nil
    | cons q t' => exact .cons r ih
theorem erase_last {α : Type} (l : List α) : l.eraseIdx (l.length - 1) = l.dropLast := by
  induction l with
  | nil => rfl
  | cons a r ih =>
    cases r with
    | nil => rfl
    | cons b r =>
      have e : (a :: b :: r).length - 1 = ((b :: r).length - 1) + 1 := by
        have h1 : (a :: b :: r).length = r.length + 2 := rfl
        have h2 : (b :: r).length = r.length + 1 := rfl
        omega
      rw [e, List.eraseIdx_cons_succ, ih]
      all_goals rfl
section
variable {X : Cx} {pins : List (Addr × Obj)} {σ : St} {H : Hp} {s : Shared} {l b : Addr} {xs ys zs : List V}
theorem Inv.lset {its its' : List Value} {n : Nat} {f : Array Value → Array Value} {t' : Nat} (I : Inv X pins σ H s) (hH : H l = some (.lst xs))
    (e : s.heap.get? l = some { cls := .type "list", data := .seq its.toArray n }) (hf : f its.toArray = its'.toArray) (hv : Vals ys its') (hz : ys.length ≤ sizeLine) :
    Inv X pins σ (upd H l (.lst ys)) { s with heap := s.heap.update l (Obj.mapSeq f), toks := t' } := by
  have q := PySem.IsL.update e f
  rw [hf] at q
  refine I.write (x := l) (e := l) (by rw [hH]; exact trivial) (.inl rfl) (fun b' u hb hu => (Heap.get?_update_other s.heap (Obj.mapSeq f) (Ne.symm hb)).trans hu) ⟨_, q⟩ ?_
  exact ⟨hz, its', _, hv, q⟩
theorem Inv.lnew {its : List Value} {t' : Nat} (I : Inv X pins σ H s) (hv : Vals ys its) (hz : ys.length ≤ sizeLine) :
    Inv X pins σ (upd H s.heap.objs.size (.lst ys)) { s with heap := s.heap.push { cls := .type "list", data := .seq its.toArray }, toks := t' } :=
  I.laid (fun _ _ q => Heap.get?_push_of_some _ q) (Nat.le_refl _) ⟨hz, its, 0, hv, Heap.get?_push_size _ rfl⟩
theorem Inv.fresh (I : Inv X pins σ H s) : H s.heap.objs.size = none := I.hok.fresh (Nat.le_refl _)
theorem Inv.lstM (I : Inv X pins σ H s) (hH : H l = some (.lst xs)) : xs.length ≤ sizeLine ∧ ∃ (its : List Value) (n : Nat), Vals xs its ∧ xs.length = its.length ∧ s.heap.get? l = some { cls := .type "list", data := .seq its.toArray n } := by
  obtain ⟨z, its, n, r, e⟩ := I.hok l _ hH
  exact ⟨z, its, n, r, r.length, e⟩
theorem notLongL {n : Nat} (h : n ≤ sizeLine) : Builtin.List.listTooLong n = false := by
  unfold Builtin.List.listTooLong
  exact decide_eq_false (by omega)
end
section
variable {X : Cx}
def rAppend : V → List V → Hp → VK → Prop := fun x vs H Q => ∃ l xs y, x = .ref l ∧ vs = [y] ∧ H l = some (.lst xs) ∧ xs.length < sizeLine ∧ Q .non (upd H l (.lst (xs ++ [y])))
theorem mt_append : MtM X "list.append" rAppend := by
  intro pins s σ H x vs v us Q I rx rv h
  obtain ⟨l, xs, y, rfl, rfl, hH, hz, q⟩ := h
  cases rx
  obtain ⟨u, rfl, ru⟩ := rv.one
  obtain ⟨z, its, n, r, hl, e⟩ := I.lstM hH
  refine call_meets F.slot_list_append ⟨_, e, rfl⟩ F.entry_list_append (F.args_list_append_2 _ _) (PySem.list_append l its.toArray n u (by rw [List.size_toArray]; omega)) ⟨e, ?_⟩
  refine ⟨.non, _, I.lset (its' := its ++ [u]) hH e (by simp) (r.append (.cons ru .nil)) ?_, rfl, q⟩
  rw [List.length_append, List.length_singleton]
  omega
def rExtend : V → List V → Hp → VK → Prop := fun x vs H Q => ∃ l b xs zs, x = .ref l ∧ vs = [.ref b] ∧ H l = some (.lst xs) ∧ H b = some (.lst zs) ∧ xs.length + zs.length ≤ sizeLine ∧ Q .non (upd H l (.lst (xs ++ zs)))
theorem mt_extend : MtM X "list.extend" rExtend := by
  intro pins s σ H x vs v us Q I rx rv h
  obtain ⟨l, b, xs, zs, rfl, rfl, hH, hB, hz, q⟩ := h
  cases rx
  obtain ⟨u, rfl, ru⟩ := rv.one
  cases ru
  obtain ⟨z, its, n, r, hl, e⟩ := I.lstM hH
  obtain ⟨z2, its2, n2, r2, hl2, e2⟩ := I.lstM hB
  have hsz : its.toArray.size + its2.toArray.size ≤ sizeLine := by rw [List.size_toArray, List.size_toArray]; omega
  have hlong : ¬ (!its.toArray.isEmpty && Builtin.List.listTooLong (its.toArray.size + its2.toArray.size)) = true := by
    rw [notLongL hsz, Bool.and_false]
    exact Bool.false_ne_true
  refine call_meets F.slot_list_extend ⟨_, e, rfl⟩ F.entry_list_extend (F.args_list_extend_2 _ _)
    (AutoSeq1.list_extend_list_list_0 l its.toArray n b its2.toArray n2 hlong (by rw [List.size_toArray]; omega) (by omega)) ⟨e, e2, ?_⟩
  refine ⟨.non, _, I.lset (its' := its ++ its2) hH e (by simp) (r.append r2) ?_, rfl, q⟩
  rw [List.length_append]
  omega
def rPop : V → List V → Hp → VK → Prop := fun x vs H Q => ∃ l xs y, x = .ref l ∧ vs = [] ∧ H l = some (.lst xs) ∧ xs[xs.length - 1]? = some y ∧ Q y (upd H l (.lst xs.dropLast))
theorem mt_pop : MtM X "list.pop" rPop := by
  intro pins s σ H x vs v us Q I rx rv h
  obtain ⟨l, xs, y, rfl, rfl, hH, hy, q⟩ := h
  cases rx
  have hus := rv.zero
  subst hus
  obtain ⟨z, its, n, r, hl, e⟩ := I.lstM hH
  obtain ⟨u, hu, ru⟩ := r.get hy
  have hy' : its.toArray[its.toArray.size - 1]? = some u := by
    show its.toArray[its.length - 1]? = some u
    rw [← Array.getElem?_toList, ← hl]
    exact hu
  refine call_meets F.slot_list_pop ⟨_, e, rfl⟩ F.entry_list_pop (F.args_list_pop_1 _) (MeetsSeq.list_pop_last l its.toArray n u hy' (by rw [List.size_toArray]; omega)) ⟨e, ?_⟩
  refine ⟨y, _, I.lset (its' := its.dropLast) hH e ?_ r.dropLast ?_, ru, q⟩
  · show its.toArray.eraseIdxIfInBounds (its.toArray.size - 1) = its.dropLast.toArray
    rw [List.size_toArray, List.eraseIdxIfInBounds_toArray, erase_last]
  · rw [List.length_dropLast]
    omega
def rCat : R2 := fun x y H Q => ∃ l b xs zs, x = .ref l ∧ y = .ref b ∧ H l = some (.lst xs) ∧ H b = some (.lst zs) ∧ xs.length + zs.length ≤ sizeLine ∧ ∀ p, H p = none → Q (.ref p) (upd H p (.lst (xs ++ zs)))
theorem op_cat : OpR X (binaryOp .Add) rCat := by
  intro pins s σ H x y v u Q I rx ry h
  obtain ⟨l, b, xs, zs, rfl, rfl, hH, hB, hz, q⟩ := h
  cases rx
  cases ry
  obtain ⟨z, its, n, r, hl, e⟩ := I.lstM hH
  obtain ⟨z2, its2, n2, r2, hl2, e2⟩ := I.lstM hB
  refine PySem.P.add_list e e2 ?_ (by rw [List.size_toArray, List.size_toArray]; omega)
  have ea : its.toArray ++ its2.toArray = (its ++ its2).toArray := by simp
  rw [ea]
  exact ⟨.ref _, _, I.lnew (t' := s.toks) (r.append r2) (by rw [List.length_append]; omega), rfl, q _ I.fresh⟩
end
section
variable {prog : Program} {w : World} {A : Around} {E : Value → Shared → Prop} {s : Shared}
end
section
variable {X : Cx}
end
end L2
namespace L2
open PySem PySem.Spec PyProof.Rows
theorem Vals.bls : ∀ {bs : List Bool} {us : List Value}, Vals (bs.map V.bl) us → us = bs.map Value.bool
  | [], us, h => by
    rw [List.map_nil] at h
    cases h
    rfl
  | b :: bs, us, h => by
    rw [List.map_cons] at h
    cases h with
    | cons r t =>
      cases r
      rw [Vals.bls t, List.map_cons]
theorem Vals.ref1 {a : Addr} {us : List Value} (r : Vals [V.ref a] us) : us = [Value.ref a] := by
  cases r with
  | cons r t =>
    cases t
    cases r
    rfl
section
variable {prog : Program} {w : World} {A : Around} {E : Value → Shared → Prop} {s : Shared} {l : Addr} {its : List Value} {ns : List Int} {Q : Value → Shared → Prop}
end
section
variable {X : Cx}
end
section
variable {X : Cx}
end
section
variable {X : Cx}
end
theorem iter_any {prog : Program} {w : World} {A : Around} {E : Value → Shared → Prop} {s : Shared} {l : Addr} {items : Array Value} {Q : Value → Shared → Prop} (hl : s.heap.IsList l items)
    (h : ∀ s₂ : Shared, s₂ = { s with heap := s.heap.push { cls := .type "list_iterator", data := .fields #[.ref l, .int 0 0] } } →
      (s₂.heap.IsListIter s.heap.objs.size l 0 ∧ s₂.heap.IsList l items) → l ≠ s.heap.objs.size → Q (.ref s.heap.objs.size) s₂) : wpAny (model prog w) A (pyIter (.ref l)) Q E s := by
  have hlt : l < s.heap.objs.size := by obtain ⟨_, e, _⟩ := hl; exact Heap.lt_size e
  exact wpAny_pyIter_list hl (h _ rfl ⟨⟨_, Heap.get?_push_size _ rfl, rfl, rfl⟩, hl.push _⟩ (Nat.ne_of_lt hlt))
theorem truth_bools {prog : Program} {w : World} {A : Around} {bs : List Bool} {its : List Value} (e : its = bs.map Value.bool) :
    TruthOf prog w A (fun i v => its.toArray[i]? = some v) (fun i => bs.getD i false) := fun i v s Q E hv hq => by
  have hv' : its[i]? = some v := by simpa using hv
  rw [e, List.getElem?_map] at hv'
  obtain ⟨b, hb, rfl⟩ := Option.map_eq_some_iff.mp hv'
  have hg : bs.getD i false = b := by rw [List.getD_eq_getElem?_getD, hb] <;> rfl
  have hq' : Q (bs.getD i false) s := hq
  rw [hg] at hq'
  exact wpAny_truthy_bool hq'
theorem any_range : ∀ bs : List Bool, (List.range bs.length).any (fun i => bs.getD i false) = bs.any id
  | [] => rfl
  | b :: bs => by
    rw [List.length_cons, List.range_succ_eq_map, List.any_cons, List.any_map, List.any_cons, ← any_range bs]
    all_goals rfl
theorem all_range : ∀ bs : List Bool, (List.range bs.length).all (fun i => bs.getD i false) = bs.all id
  | [] => rfl
  | b :: bs => by
    rw [List.length_cons, List.range_succ_eq_map, List.all_cons, List.all_map, List.all_cons, ← all_range bs]
    all_goals rfl
section
variable {X : Cx}
def rAny (K : PySem.W.Frag) : List V → Hp → VK → Prop := fun vs H Q => ∃ (a : Addr) (bs : List Bool), vs = [V.ref a] ∧ SqL K H a (bs.map V.bl) ∧ Q (.bl (bs.any id)) H
def rAll (K : PySem.W.Frag) : List V → Hp → VK → Prop := fun vs H Q => ∃ (a : Addr) (bs : List Bool), vs = [V.ref a] ∧ SqL K H a (bs.map V.bl) ∧ Q (.bl (bs.all id)) H
theorem cr_any (hc : X.calm = true) : CallR X (.builtin "any") (rAny X.K) := by
  intro pins s σ H vs us Q I r h
  obtain ⟨a, bs, rfl, hs, q⟩ := h
  obtain ⟨its, rv, hl, _⟩ := I.list hs
  rw [Vals.ref1 r]
  have hb := rv.bls
  refine call_any_walk (iter_any hl.isList fun s₂ e2 st hne => ?_)
  subst e2
  refine ⟨_, _, _, _, _, _, _, rfl, Walks.list (A := X.A.in1) (I.ok.hd hc) _ a hne its.toArray, st, truth_bools hb, fun h' tk hk => ?_⟩
  refine ⟨.bl _, H, I.kept fun b o eo => hk b o (fun hmem => ?_) (Heap.get?_push_of_some _ eo), ?_, q⟩
  · rcases List.mem_cons.mp hmem with e1 | hmem
    · exact absurd (e1 ▸ Heap.lt_size eo) (Nat.lt_irrefl _)
    · cases hmem
  · show Value.bool _ = Value.bool _
    rw [← any_range, hb, List.size_toArray, List.length_map]
theorem cr_all (hc : X.calm = true) : CallR X (.builtin "all") (rAll X.K) := by
  intro pins s σ H vs us Q I r h
  obtain ⟨a, bs, rfl, hs, q⟩ := h
  obtain ⟨its, rv, hl, _⟩ := I.list hs
  rw [Vals.ref1 r]
  have hb := rv.bls
  refine call_all_walk (iter_any hl.isList fun s₂ e2 st hne => ?_)
  subst e2
  refine ⟨_, _, _, _, _, _, _, rfl, Walks.list (A := X.A.in1) (I.ok.hd hc) _ a hne its.toArray, st, truth_bools hb, fun h' tk hk => ?_⟩
  refine ⟨.bl _, H, I.kept fun b o eo => hk b o (fun hmem => ?_) (Heap.get?_push_of_some _ eo), ?_, q⟩
  · rcases List.mem_cons.mp hmem with e1 | hmem
    · exact absurd (e1 ▸ Heap.lt_size eo) (Nat.lt_irrefl _)
    · cases hmem
  · show Value.bool _ = Value.bool _
    rw [← all_range, hb, List.size_toArray, List.length_map]
end
mutual
inductive Dp (K : PySem.W.Frag) (H : Hp) : V → PyData → Prop
  | non : Dp K H .non .none
  | bl (b : Bool) : Dp K H (.bl b) (.bool b)
  | int (i : Int) : Dp K H (.int i) (.int i)
  | str (x : Str) : Dp K H (.str x) (.str x)
  | lst {a : Addr} {xs : List V} {ds : List PyData} : SqL K H a xs → DpAll K H xs ds → Dp K H (.ref a) (.list ds)
  | tup {a : Addr} {xs : List V} {ds : List PyData} : SqT K H a xs → DpAll K H xs ds → Dp K H (.ref a) (.tuple ds)
inductive DpAll (K : PySem.W.Frag) (H : Hp) : List V → List PyData → Prop
  | nil : DpAll K H [] []
  | cons {v : V} {vs : List V} {d : PyData} {ds : List PyData} : Dp K H v d → DpAll K H vs ds → DpAll K H (v :: vs) (d :: ds)
end
section
variable {X : Cx} {pins : List (Addr × Obj)} {σ : St} {H : Hp} {s : Shared}
mutual
theorem Dp.reads (I : Inv X pins σ H s) : ∀ (d : PyData) (v : V) (u : Value), Dp X.K H v d → RelV v u → ∃ as, Reads s.heap u d as
  | .none, _, _, h, r => by
    cases h
    cases r
    exact ⟨_, Reads.none⟩
  | .bool b, _, _, h, r => by
    cases h
    cases r
    exact ⟨_, Reads.bool b⟩
  | .int i, _, _, h, r => by
    cases h
    obtain ⟨t, rfl⟩ := r
    exact ⟨_, Reads.int i t⟩
  | .str x, _, _, h, r => by
    cases h
    obtain ⟨t, rfl⟩ := r
    exact ⟨_, Reads.str x t⟩
  | .list ds, _, _, h, r => by
    cases h with
    | lst hs ha =>
      cases r
      obtain ⟨its, rv, ⟨o, n, ho, hc, _, hd⟩, _⟩ := I.list hs
      obtain ⟨as, hr⟩ := Dp.readsAll I ds _ its ha rv
      exact ⟨_, Reads.list ho hc hd hr⟩
  | .tuple ds, _, _, h, r => by
    cases h with
    | tup hs ha =>
      cases r
      obtain ⟨its, rv, ⟨o, ho, hc, n, hd⟩, _⟩ := I.tuple hs
      obtain ⟨as, hr⟩ := Dp.readsAll I ds _ its ha rv
      exact ⟨_, Reads.tuple ho hc hd hr⟩
  | .dict _, _, _, h, _ => by cases h
theorem Dp.readsAll (I : Inv X pins σ H s) : ∀ (ds : List PyData) (vs : List V) (us : List Value), DpAll X.K H vs ds → Vals vs us → ∃ as, ReadsAll s.heap us ds as
  | [], _, _, h, r => by
    cases h
    cases r
    exact ⟨_, ReadsAll.nil⟩
  | d :: ds, _, _, h, r => by
    cases h with
    | cons h1 h2 =>
      cases r with
      | cons r1 r2 =>
        obtain ⟨as, q1⟩ := Dp.reads I d _ _ h1 r1
        obtain ⟨bs, q2⟩ := Dp.readsAll I ds _ _ h2 r2
        exact ⟨_, ReadsAll.cons q1 q2⟩
end
end
section
variable {X : Cx}
def rEqD (K : PySem.W.Frag) : R2 := fun x y H Q => ∃ d e, Dp K H x d ∧ Dp K H y e ∧ SeqAt.shaped d = true ∧ SeqAt.shaped e = true ∧ Q (.bl (PyData.eqv d e)) H
theorem op_eqD (hu : X.A.units + 64 < cLine) : OpR X (compareOp .Eq) (rEqD X.K) := by
  intro pins s σ H x y v u Q I rx ry h
  obtain ⟨d, e, hd, he, sd, se, q⟩ := h
  obtain ⟨as, r1⟩ := Dp.reads I d x v hd rx
  obtain ⟨bs, r2⟩ := Dp.reads I e y u he ry
  exact SeqAt.compareEq_shaped r1 r2 sd se hu ⟨.bl _, H, I, rfl, q⟩
end
end L2
namespace L2
open PySem PySem.Spec PyProof.Rows
abbrev CellAt (h : Heap) (c : Addr) (v : Option Value) : Prop := h.IsCell c v
def relS (scope sc : Scope) : Scope :=
  { scope with names := scope.names.map fun (n, k) => if (k == .free && sc.kind == .function && sc.names.lookup n == some .cell) then (n, .cell) else (n, k) }
def cloFrom (cells : List (Str × Addr)) : List (Str × NameKind) → List (Str × Addr) → List (Str × Addr)
  | [], acc => acc
  | (n, k) :: r, acc => if k == .free then cloFrom cells r ((n, (cells.lookup n).getD 0) :: acc) else cloFrom cells r acc
theorem closure_loop (env : Env) (f : Str × NameKind → List (Str × Addr) → Sem (ForInStep (List (Str × Addr))))
    (hf : ∀ n k c, f (n, k) c = if k == .free then (do let a ← cellOf env n; pure (.yield ((n, a) :: c))) else pure (.yield c)) :
    ∀ (names : List (Str × NameKind)) (acc : List (Str × Addr)), (∀ y ∈ names, y.2 = .free → ∃ c, env.cells.lookup y.1 = some c) → forIn names acc f = pure (cloFrom env.cells names acc)
  | [], acc, _ => by rw [List.forIn_nil]; rfl
  | (n, k) :: r, acc, h => by
    rw [List.forIn_cons, hf]
    have ih := fun acc => closure_loop env f hf r acc fun y hy => h y (List.mem_cons_of_mem _ hy)
    unfold cloFrom
    by_cases hk : (k == NameKind.free) = true
    · rw [if_pos hk, if_pos hk]
      obtain ⟨c, hc⟩ := h (n, k) List.mem_cons_self (by simpa using hk)
      have e : cellOf env n = pure c := by unfold cellOf; rw [hc]
      rw [e]
      have e2 : (env.cells.lookup n).getD 0 = c := by rw [hc]; rfl
      rw [e2]
      exact ih _
    · rw [if_neg hk, if_neg hk]
      exact ih _
theorem closure_ok {scope : Scope} {env : Env} (h : ∀ y ∈ scope.names, y.2 = .free → ∃ c, env.cells.lookup y.1 = some c) : closureFor scope env = pure (cloFrom env.cells scope.names []) := by
  simp only [closureFor]
  rw [closure_loop env _ (fun n k c => rfl) scope.names [] h]
  rfl
theorem mem_lookup {α : Type} : ∀ {l : List (Str × α)} {n : Str} {c : α}, (n, c) ∈ l → ∃ c', l.lookup n = some c'
  | (k, v) :: r, n, c, h => by
    rw [List.lookup_cons]
    cases hb : n == k with
    | true => exact ⟨_, rfl⟩
    | false =>
      rcases List.mem_cons.mp h with e | h
      · cases e; simp at hb
      · exact mem_lookup h
theorem cloFrom_mem {cells : List (Str × Addr)} : ∀ {names : List (Str × NameKind)} {acc : List (Str × Addr)} {n : Str} {c : Addr}, (n, c) ∈ cloFrom cells names acc → (n, c) ∈ acc ∨ ((n, .free) ∈ names ∧ c = (cells.lookup n).getD 0)
  | [], _, _, _, h => .inl h
  | (m, k) :: r, acc, n, c, h => by
    unfold cloFrom at h
    split at h
    · rename_i hk
      have hk : k = .free := by simpa using hk
      rcases cloFrom_mem h with h | ⟨h1, h2⟩
      · rcases List.mem_cons.mp h with e | h
        · cases e; exact .inr ⟨hk ▸ List.mem_cons_self, rfl⟩
        · exact .inl h
      · exact .inr ⟨List.mem_cons_of_mem _ h1, h2⟩
    · rcases cloFrom_mem h with h | ⟨h1, h2⟩
      · exact .inl h
      · exact .inr ⟨List.mem_cons_of_mem _ h1, h2⟩
theorem cloFrom_acc {cells : List (Str × Addr)} : ∀ {names : List (Str × NameKind)} {acc : List (Str × Addr)} {p : Str × Addr}, p ∈ acc → p ∈ cloFrom cells names acc
  | [], _, _, h => h
  | (m, k) :: r, acc, p, h => by
    unfold cloFrom
    split
    · exact cloFrom_acc (List.mem_cons_of_mem _ h)
    · exact cloFrom_acc h
theorem cloFrom_has {cells : List (Str × Addr)} : ∀ {names : List (Str × NameKind)} {acc : List (Str × Addr)} {n : Str}, (n, .free) ∈ names → (n, (cells.lookup n).getD 0) ∈ cloFrom cells names acc
  | (m, k) :: r, acc, n, h => by
    unfold cloFrom
    rcases List.mem_cons.mp h with e | h
    · cases e
      exact cloFrom_acc List.mem_cons_self
    · split
      · exact cloFrom_has h
      · exact cloFrom_has h
theorem cells_mem : ∀ {names : List (Str × NameKind)} {h : Heap} {acc : List (Str × Addr)} {x : Str} {c : Addr}, (x, c) ∈ cellsFrom h.objs.size names acc →
    (x, c) ∈ acc ∨ ((x, .cell) ∈ names ∧ h.objs.size ≤ c ∧ CellAt (pushCells h names) c none)
  | [], _, _, _, _, h => .inl h
  | (n, k) :: r, h, acc, x, c, hm => by
    unfold cellsFrom at hm
    unfold pushCells
    split at hm
    · rename_i hk
      rw [if_pos hk]
      have hk : k = .cell := by simpa using hk
      rw [← Heap.size_push h { cls := .type "cell", data := .cell none }] at hm
      rcases cells_mem hm with hm | ⟨h1, h2, h3⟩
      · rcases List.mem_cons.mp hm with e | hm
        · cases e
          exact .inr ⟨hk ▸ List.mem_cons_self, Nat.le_refl _, _, pushCells_keeps r _ _ _ (Heap.get?_push_size _ rfl), rfl⟩
        · exact .inl hm
      · rw [Heap.size_push] at h2
        exact .inr ⟨List.mem_cons_of_mem _ h1, Nat.le_of_succ_le h2, h3⟩
    · rename_i hk
      rw [if_neg hk]
      rcases cells_mem hm with hm | ⟨h1, h2, h3⟩
      · exact .inl hm
      · exact .inr ⟨List.mem_cons_of_mem _ h1, h2, h3⟩
theorem cells_acc : ∀ {names : List (Str × NameKind)} {n : Nat} {acc : List (Str × Addr)} {p : Str × Addr}, p ∈ acc → p ∈ cellsFrom n names acc
  | [], _, _, _, h => h
  | (m, k) :: r, n, acc, p, h => by
    unfold cellsFrom
    split
    · exact cells_acc (List.mem_cons_of_mem _ h)
    · exact cells_acc h
theorem cells_has : ∀ {names : List (Str × NameKind)} {n : Nat} {acc : List (Str × Addr)} {x : Str}, (x, .cell) ∈ names → ∃ c, (x, c) ∈ cellsFrom n names acc
  | (m, k) :: r, n, acc, x, h => by
    unfold cellsFrom
    rcases List.mem_cons.mp h with e | h
    · cases e
      exact ⟨n, cells_acc List.mem_cons_self⟩
    · split
      · exact cells_has h
      · exact cells_has h
theorem cells_inj : ∀ {names : List (Str × NameKind)} {h : Heap} {acc : List (Str × Addr)} {x y : Str} {c : Addr}, (∀ p ∈ acc, p.2 < h.objs.size) → (∀ x y c, (x, c) ∈ acc → (y, c) ∈ acc → x = y) →
    (x, c) ∈ cellsFrom h.objs.size names acc → (y, c) ∈ cellsFrom h.objs.size names acc → x = y
  | [], _, _, _, _, _, _, hi, h1, h2 => hi _ _ _ h1 h2
  | (n, k) :: r, h, acc, x, y, c, hl, hi, h1, h2 => by
    unfold cellsFrom at h1 h2
    split at h1
    · rename_i hk
      rw [if_pos hk] at h2
      rw [← Heap.size_push h { cls := .type "cell", data := .cell none }] at h1 h2
      refine cells_inj (h := h.push _) (fun p hp => ?_) (fun x y c a b => ?_) h1 h2
      · rw [Heap.size_push]
        rcases List.mem_cons.mp hp with rfl | hp
        · exact Nat.lt_succ_self _
        · exact Nat.lt_succ_of_lt (hl p hp)
      · rcases List.mem_cons.mp a with e | a <;> rcases List.mem_cons.mp b with e' | b
        · cases e; cases e'; rfl
        · cases e; exact absurd (hl _ b) (Nat.lt_irrefl _)
        · cases e'; exact absurd (hl _ a) (Nat.lt_irrefl _)
        · exact hi _ _ _ a b
    · rename_i hk
      rw [if_neg hk] at h2
      exact cells_inj hl hi h1 h2
theorem newEnv_comp {M : Model} {A : Around} {E : Value → Shared → Prop} {s : Shared} {scope : Scope} {globals : Addr} {closure : List (Str × Addr)} {qual : Str} {func : Option Addr} {code : Value} {around : Env} {builtins : Addr} {Q : Env → Shared → Prop}
    (h : Q (newEnv scope s.heap.objs.size globals (cellsFrom (s.heap.objs.size + 1) scope.names closure) qual func code (some around) builtins)
      { s with heap := pushCells (s.heap.push { cls := .type "dict", data := .dict #[] }) scope.names }) :
    wpAny M A (newFunctionEnv scope globals closure [] qual func code (some around) builtins) Q E s := by
  simp only [newFunctionEnv, Option.isSome_some, if_true]
  refine wpAny_bind (wpAny_alloc ?_)
  refine wpAny_bind (wpAny_layCells _ (fun n k c => rfl) scope.names closure _ _ ?_)
  rw [show ({ s with heap := s.heap.push { cls := .type "dict", data := .dict #[] } } : Shared).heap.objs.size = s.heap.objs.size + 1 from Heap.size_push ..]
  rw [List.forIn_nil]
  exact wpAny_bind (wpAny_pure (wpAny_pure h))
theorem lookup_relS {sc : Scope} : ∀ {names : List (Str × NameKind)} {x : Str} {k : NameKind},
    (names.map fun (n, k) => if (k == NameKind.free && sc.kind == .function && sc.names.lookup n == some .cell) then (n, NameKind.cell) else (n, k)).lookup x = some k →
    ∃ k', names.lookup x = some k' ∧ (k = k' ∨ (k' = .free ∧ k = .cell))
  | [], _, _, h => by simp at h
  | (n, k₀) :: r, x, k, h => by
    have ih := @lookup_relS sc r x k
    have h' : List.lookup x ((if (k₀ == NameKind.free && sc.kind == .function && sc.names.lookup n == some .cell) = true then (n, NameKind.cell) else (n, k₀)) :: (r.map _)) = some k := h
    cases hx : x == n with
    | true =>
      simp only [List.lookup_cons, hx]
      by_cases hc : (k₀ == NameKind.free && sc.kind == .function && sc.names.lookup n == some .cell) = true
      · rw [if_pos hc] at h'
        simp only [List.lookup_cons, hx] at h'
        cases h'
        simp only [Bool.and_eq_true, beq_iff_eq] at hc
        exact ⟨k₀, rfl, .inr ⟨hc.1.1, rfl⟩⟩
      · rw [if_neg hc] at h'
        simp only [List.lookup_cons, hx] at h'
        cases h'
        exact ⟨_, rfl, .inl rfl⟩
    | false =>
      simp only [List.lookup_cons, hx]
      by_cases hc : (k₀ == NameKind.free && sc.kind == .function && sc.names.lookup n == some .cell) = true
      · rw [if_pos hc] at h'
        simp only [List.lookup_cons, hx] at h'
        exact ih h'
      · rw [if_neg hc] at h'
        simp only [List.lookup_cons, hx] at h'
        exact ih h'
structure BlkOk (N : List Str) (sc scope : Scope) (own : List (Str × Nat)) : Prop where
  kind : scope.kind = .function
  uniq : ∀ y ∈ scope.names, scope.names.lookup y.1 = some y.2
  ix : ∀ p ∈ own, N[p.2]? = some p.1
  free : ∀ y ∈ scope.names, y.2 = .free → sc.names.lookup y.1 = some .cell ∨ sc.names.lookup y.1 = some .free
  own : ∀ y ∈ scope.names, y.2 = .local ∨ y.2 = .cell → y.1 ∈ own.map (·.1) ∨ y.1 ∉ N
def wipe (σ : St) : List Nat → St
  | [] => σ
  | v :: vs => (wipe σ vs).set v none
theorem wipe_length (σ : St) : ∀ vs : List Nat, (wipe σ vs).length = σ.length
  | [] => rfl
  | v :: vs => by unfold wipe; rw [List.length_set, wipe_length σ vs]
theorem wipe_some {σ : St} {i : Nat} {x : V} : ∀ {vs : List Nat}, (wipe σ vs)[i]? = some (some x) → σ[i]? = some (some x) ∧ i ∉ vs
  | [], h => ⟨h, by simp⟩
  | v :: vs, h => by
    unfold wipe at h
    by_cases hi : v = i
    · subst hi
      by_cases hv : v < (wipe σ vs).length
      · rw [List.getElem?_set_self hv] at h; cases h
      · rw [List.getElem?_eq_none (by simpa using hv)] at h; cases h
    · rw [List.getElem?_set_ne hi] at h
      obtain ⟨h1, h2⟩ := wipe_some h
      exact ⟨h1, by simp only [List.mem_cons, not_or]; exact ⟨fun e => hi e.symm, h2⟩⟩
abbrev Cx.blk (X : Cx) (s : Shared) (H : Hp) (scope : Scope) (cenv : Env) (fp : List Addr) : Cx := { X with s_0 := s, H_0 := H, env := cenv, outer := X.stack, ex := fp, fn := fun x => scope.names.lookup x == some .cell, pn := [], xe := fun _ _ => False }
section
variable {X : Cx} {pins : List (Addr × Obj)} {σ : St} {H : Hp} {s : Shared}
theorem block_start {scope : Scope} {own : List (Str × Nat)} {fp : List Addr} (I : Inv X pins σ H s) (ok : BlkOk X.N X.env.scope scope own) (hN : X.N.Nodup) (hfp : ∀ b ∈ fp, FpOk X pins H b ∧ b < s.heap.objs.size) :
    Inv (X.blk s H scope (compEnvC scope (cellsFrom (s.heap.objs.size + 1) scope.names (cloFrom X.env.cells scope.names [])) s.heap.objs.size X.env) fp) [] (wipe σ (own.map (·.2))) H { s with heap := pushCells (s.heap.push { cls := .type "dict", data := .dict #[] }) scope.names } := by
  have hfree : ∀ y ∈ scope.names, y.2 = .free → ∃ c, X.env.cells.lookup y.1 = some c := fun y hy e => by
    rcases ok.free y hy e with k | k
    · exact I.ok.has _ (.inl k)
    · exact I.ok.has _ (.inr k)
  generalize hcenv : compEnvC scope (cellsFrom (s.heap.objs.size + 1) scope.names (cloFrom X.env.cells scope.names [])) s.heap.objs.size X.env = cenv
  have kp : ∀ b o, s.heap.get? b = some o → (pushCells (s.heap.push { cls := .type "dict", data := .dict #[] }) scope.names).get? b = some o := fun b o e => pushCells_keeps _ _ _ _ (Heap.get?_push_of_some _ e)
  have hL : cenv.locals = s.heap.objs.size := by rw [← hcenv]; rfl
  have hcl : cenv.cells = cellsFrom (s.heap.objs.size + 1) scope.names (cloFrom X.env.cells scope.names []) := by rw [← hcenv]; rfl
  have hsc : cenv.scope = relS scope X.env.scope := by rw [← hcenv]; rfl
  rw [← Heap.size_push s.heap { cls := .type "dict", data := .dict #[] }] at hcl
  have cm : ∀ {y c}, (y, c) ∈ cloFrom X.env.cells scope.names [] → X.env.cells.lookup y = some c ∧ c < s.heap.objs.size := fun {y c} hm => by
    rcases cloFrom_mem hm with hm | ⟨h1, rfl⟩
    · cases hm
    · obtain ⟨c, hc⟩ := hfree _ h1 rfl
      rw [hc]
      obtain ⟨w, z⟩ := I.cell _ _ hc
      exact ⟨rfl, z.lt⟩
  have mem : ∀ {y c}, cenv.cells.lookup y = some c → (X.env.cells.lookup y = some c ∧ c < s.heap.objs.size) ∨ (s.heap.objs.size + 1 ≤ c ∧ CellAt (pushCells (s.heap.push { cls := .type "dict", data := .dict #[] }) scope.names) c none) := fun {y c} e => by
    rw [hcl] at e
    rcases cells_mem (PySem.mem_of_lookup e) with hm | ⟨_, h2, h3⟩
    · exact .inl (cm hm)
    · rw [Heap.size_push] at h2; exact .inr ⟨h2, h3⟩
  have look : ∀ {y}, scope.names.lookup y = some .free → ∃ c, cenv.cells.lookup y = some c ∧ X.env.cells.lookup y = some c := fun {y} hl => by
    have hy : (y, NameKind.free) ∈ scope.names := PySem.mem_of_lookup hl
    obtain ⟨c', e'⟩ := mem_lookup (cells_acc (names := scope.names) (n := (s.heap.push { cls := .type "dict", data := .dict #[] }).objs.size) (cloFrom_has (cells := X.env.cells) (acc := []) hy))
    rw [← hcl] at e'
    refine ⟨c', e', ?_⟩
    rw [hcl] at e'
    rcases cells_mem (PySem.mem_of_lookup e') with hm | ⟨h1, _, _⟩
    · exact (cm hm).1
    · have := ok.uniq _ h1
      rw [hl] at this; cases this
  have okB : (X.blk s H scope cenv fp).Ok := by
    refine ⟨I.ok.mod, by show cenv.scope.kind = _; rw [hsc]; exact ok.kind, by show cenv.globals = _; rw [← hcenv]; exact I.ok.glob, by show cenv.builtins = _; rw [← hcenv]; exact I.ok.blt, by show s.heap.objs.size ≤ cenv.locals; rw [hL]; exact Nat.le_refl _,
      fun y z c e1 e2 => ?_, fun y hy => ?_, fun y c z e => ?_, I.ok.hd, I.ok.frames, .inl rfl, fun b hb => ⟨?_, fun y c e z => ?_⟩, I.bs, Nat.le_trans I.ok.bsz I.sz, fun b o e hb => ?_, fun b hb z => ?_, I.stack, I.stkFree⟩
    · have e1 : cenv.cells.lookup y = some c := e1
      have e2 : cenv.cells.lookup z = some c := e2
      rw [hcl] at e1 e2
      refine cells_inj (fun p hp => ?_) (fun y z c a b => I.ok.inj y z c (cm a).1 (cm b).1) (PySem.mem_of_lookup e1) (PySem.mem_of_lookup e2)
      rw [Heap.size_push]
      exact Nat.lt_succ_of_lt (cm (y := p.1) (c := p.2) hp).2
    · show ∃ c, cenv.cells.lookup y = some c
      have key : ∀ k, cenv.kindOf y = some k → (k = .cell ∨ k = .free) → ∃ c, cenv.cells.lookup y = some c := fun k hk hk' => by
        unfold Env.kindOf at hk
        rw [hsc] at hk
        obtain ⟨k', e, r⟩ := lookup_relS hk
        have : k' = .cell ∨ k' = .free := by
          rcases r with rfl | ⟨rfl, _⟩
          · exact hk'
          · exact .inr rfl
        rcases this with rfl | rfl
        · obtain ⟨c, hm⟩ := cells_has (n := (s.heap.push { cls := .type "dict", data := .dict #[] }).objs.size) (acc := cloFrom X.env.cells scope.names []) (PySem.mem_of_lookup e)
          obtain ⟨c', e'⟩ := mem_lookup hm
          exact ⟨c', by rw [hcl]; exact e'⟩
        · obtain ⟨c, h1, _⟩ := look e
          exact ⟨c, h1⟩
      rcases hy with hy | hy
      · exact key _ hy (.inl rfl)
      · exact key _ hy (.inr rfl)
    · have z : (scope.names.lookup y == some NameKind.cell) = true := z
      have z : scope.names.lookup y = some .cell := by simpa using z
      have e : cenv.cells.lookup y = some c := e
      rw [hcl] at e
      rcases cells_mem (PySem.mem_of_lookup e) with hm | ⟨_, h2, _⟩
      · rcases cloFrom_mem hm with hm | ⟨h1, _⟩
        · cases hm
        · have q := ok.uniq _ h1
          rw [z] at q; cases q
      · rw [Heap.size_push] at h2
        exact Nat.le_of_succ_le h2
    · show b ≠ cenv.locals
      rw [hL]; exact Nat.ne_of_lt (hfp b hb).2
    · have e : cenv.cells.lookup y = some c := e
      rcases mem e with ⟨h1, _⟩ | ⟨h1, _⟩
      · exact (hfp b hb).1.2.2.2.2.1 y c h1 z
      · have h2 : s.heap.objs.size + 1 ≤ b := by rw [← z]; exact h1
        exact absurd (Nat.lt_of_lt_of_le (hfp b hb).2 (Nat.le_of_succ_le h2)) (Nat.lt_irrefl _)
    · rcases (hfp b hb).1.2.2.2.1 with z | z
      · exact I.ok.noex b o e z
      · exact absurd (Nat.lt_of_lt_of_le (Heap.lt_size e) (Nat.le_trans I.ok.bsz z)) (Nat.lt_irrefl _)
    · rcases List.mem_cons.mp (I.stkSub b z) with z | z
      · exact (hfp b hb).1.2.1 z
      · exact (hfp b hb).1.2.2.1 z
  refine ⟨okB, rfl, I.bare, Un.kept kp, ⟨fun _ => none, ?_, fun i y av e1 e2 e3 => ?_⟩, fun y c e => ?_, ?_, fun y c e => ?_, fun p hp => ?_, I.hok.kept kp, by rw [wipe_length]; exact I.len⟩
  · show Heap.Ns _ cenv.locals _
    rw [hL]
    exact Heap.Ns.keeps (Heap.Ns.new ..) fun b o e => pushCells_keeps _ _ _ _ e
  · obtain ⟨e2, hne⟩ := wipe_some e2
    have hfr : scope.names.lookup y = some .free ∧ (cenv.kindOf y = some .cell ∨ cenv.kindOf y = some .free) := by
      have key : ∀ k, cenv.scope.names.lookup y = some k → k = .local ∨ k = .cell ∨ k = .free → scope.names.lookup y = some .free ∧ (cenv.kindOf y = some .cell ∨ cenv.kindOf y = some .free) := fun k hk hk' => by
        have hk0 := hk
        rw [hsc] at hk
        obtain ⟨k', e, r⟩ := lookup_relS hk
        have no : ¬ (k' = .local ∨ k' = .cell) := fun hh => by
          rcases ok.own _ (PySem.mem_of_lookup e) hh with e' | e'
          · obtain ⟨p, hp, hpy⟩ := List.mem_map.mp e'
            have e3 := ok.ix p hp
            have : p.1 = y := hpy
            rw [this] at e3
            exact hne (List.mem_map.mpr ⟨p, hp, nodup_ix hN e3 e1⟩)
          · exact e' (List.mem_of_getElem? e1)
        rcases r with rfl | ⟨rfl, rfl⟩
        · rcases hk' with rfl | rfl | rfl
          · exact absurd (.inl rfl) no
          · exact absurd (.inr rfl) no
          · exact ⟨e, .inr hk0⟩
        · exact ⟨e, .inl hk0⟩
      have e3 : Vis cenv.scope y := e3
      rcases e3 with e3 | e3 | e3
      · exact key _ e3 (.inl rfl)
      · exact key _ e3 (.inr (.inl rfl))
      · exact key _ e3 (.inr (.inr rfl))
    obtain ⟨m, hn, hl⟩ := I.loc
    have hvis : Vis X.env.scope y := (ok.free _ (PySem.mem_of_lookup hfr.1) rfl).elim (fun k => .inr (.inl k)) (fun k => .inr (.inr k))
    obtain ⟨w, r, q⟩ := hl i y av e1 e2 hvis
    refine ⟨w, r, .inr ⟨hfr.2, ?_⟩⟩
    obtain ⟨c, h1, h2⟩ := look hfr.1
    rcases q with ⟨k, _⟩ | ⟨_, c', e', z⟩
    · have k : X.env.scope.names.lookup y = some .local := k
      rcases ok.free _ (PySem.mem_of_lookup hfr.1) rfl with k' | k' <;> rw [show X.env.scope.names.lookup y = _ from k'] at k <;> cases k
    · rw [h2] at e'; cases e'
      exact ⟨c, h1, z.keeps kp⟩
  · have e : cenv.cells.lookup y = some c := e
    rcases mem e with ⟨h1, _⟩ | ⟨_, z⟩
    · obtain ⟨w, z⟩ := I.cell y c h1
      exact ⟨w, z.keeps kp⟩
    · exact ⟨_, z⟩
  · show H cenv.locals = none
    rw [hL]; exact I.hok.fresh (Nat.le_refl _)
  · have e : cenv.cells.lookup y = some c := e
    rcases mem e with ⟨h1, _⟩ | ⟨h1, _⟩
    · exact I.freeC y c h1
    · exact I.hok.fresh (Nat.le_of_succ_le h1)
  · exact absurd (show p ∈ ([] : List (Addr × Obj)) ++ [] from hp) (by simp)
theorem app_ok {E : Value → Shared → Prop} {D : Addr} {xs : List V} {y : V} {v : Value} {Q : Value → Shared → Prop} (I : Inv X pins σ H s) (hD : H D = some (.lst xs)) (hz : xs.length < sizeLine) (r : RelV y v)
    (h : ∀ s', Inv X pins σ (upd H D (.lst (xs ++ [y]))) s' → Q .none s') : wpAny (model X.prog X.w) X.A (call (.builtin "list.append") [.ref D, v]) Q E s := by
  obtain ⟨hz', its, n, ri, e⟩ := I.hok D _ hD
  have hl := ri.length
  refine append_at (hsz := by rw [List.size_toArray]; omega) e fun h' sb ho' => ?_
  refine h { s with heap := h' } (I.write (t' := s.toks) (by rw [hD]; trivial) (.inl rfl) (fun b u hb q => (sb.2 b hb).trans q) ⟨_, ho'⟩ ⟨by rw [List.length_append]; exact hz, its ++ [v], n + 1, ri.append (.cons r .nil), ?_⟩)
  rw [ho']
  simp
def PTs (X : Cx) (ifs : List Expr) (t : TT) : Prop :=
  ∀ (pins : List (Addr × Obj)) (s : Shared) (σ : St) (H : Hp) (Q : Bool → Hp → Prop), Inv X pins σ H s → t σ H Q →
    wpAny (model X.prog X.w) X.A (forIn ifs true fun c r => if r = true then do let ok ← isTrue c X.env (eval c X.env); pure (ForInStep.yield ok) else pure (ForInStep.yield r)) (TP X pins σ Q) X.xe s
def tYes : TT := fun _ H Q => Q true H
theorem pts_nil : PTs X [] tYes := fun _ _ _ H _ I h => wpAny_tests_nil ⟨H, I, h⟩
theorem pts_one {c : Expr} {t : TT} (h : PT X c t) : PTs X [c] t := fun pins s σ H Q I hw => wpAny_tests_one (h pins s σ H Q I hw)
end
theorem thnF {α : Type} {t : Sem α} {Q Q' : α → Shared → Prop} {M : Model} {A : Around} {E : Value → Shared → Prop} {s : Shared} (h : wpAny M A t Q (fun _ _ => False) s) (hQ : ∀ a s, Q a s → Q' a s) : wpAny M A t Q' E s := wpAny_mono h hQ fun _ _ z => False.elim z
theorem compLoop_any {prog : Program} {w : World} {A : Around} {R : Result → Shared → Prop} {s : Shared} {elt target iter : Expr} {ifs : List Expr} {scope : Scope} {pos : Pos} {it acc : Value} {env : Env} (I : Nat → Shared → Prop)
    (turn : ∀ n s, I n s → wpAny (model prog w) A (pyNext it) (fun r s₁ => match r with
      | none => R (.ok .next) s₁
      | some v => wpAny (model prog w) A (letOwnedTupleGo target it v) (fun _ s₁' => wpAny (model prog w) A (assign target env v) (fun _ s₂ =>
          wpAny (model prog w) A (forIn ifs true fun c r => if r = true then do let ok ← isTrue c env (eval c env); pure (ForInStep.yield ok) else pure (ForInStep.yield r)) (fun ok s₃ =>
            if ok = true then wpAny (model prog w) A (eval elt env) (fun x s₄ =>
              wpAny (model prog w) A (call (.builtin "list.append") [acc, x]) (fun _ s₅ => ∃ m, m < n ∧ I m s₅) (notedBy (model prog w) A env fun e s' => R (.error e) s') s₄) (notedBy (model prog w) A env fun e s' => R (.error e) s') s₃
            else ∃ m, m < n ∧ I m s₃) (notedBy (model prog w) A env fun e s' => R (.error e) s') s₂) (notedBy (model prog w) A env fun e s' => R (.error e) s') s₁') (notedBy (model prog w) A env fun e s' => R (.error e) s') s₁) (notedBy (model prog w) A env fun e s' => R (.error e) s') s)
    (n : Nat) (h : I n s) :
    codeAny (model prog w) A (.compLoop (.ListComp elt [⟨target, iter, ifs, 0⟩] scope pos) 0 it acc env) R s := by
  refine codeAny_loop rfl I (fun n s hI => ?_) n h
  show wpAny _ A ((compTurn (.ListComp elt [⟨target, iter, ifs, 0⟩] scope pos) 0 it acc env).onRaise (fun x => do noteFrame x env; theTreesLotGoes x)) _ _ s
  refine wpAny_noted ?_
  rw [compTurn_list]
  refine wpAny_bind (wpAny_standAt (wpAny_bind (wpAny_mono (turn n s hI) (fun r s₁ h₁ => ?_) fun _ _ h' => h')))
  cases r with
  | none => exact wpAny_pure h₁
  | some v =>
    refine wpAny_bind (wpAny_mono h₁ (fun _ s₁' h₁' => ?_) fun _ _ h' => h')
    refine wpAny_bind (wpAny_mono h₁' (fun _ s₂ h₂ => wpAny_bind (wpAny_mono h₂ (fun ok s₃ h₃ => ?_) fun _ _ h' => h')) fun _ _ h' => h')
    cases ok with
    | false => exact wpAny_pure ⟨rfl, h₃⟩
    | true =>
      exact wpAny_bind (wpAny_bind (wpAny_mono h₃ (fun x s₄ h₄ => wpAny_bind (wpAny_mono h₄ (fun _ s₅ h₅ => wpAny_pure (wpAny_pure ⟨rfl, h₅⟩)) fun _ _ h' => h')) fun _ _ h' => h'))
section
variable {X : Cx}
def tLc (wi : TI) (g : TG) (tt : TT) (te : TE) (vs : List Nat) : TE := fun σ H Q => wi σ H fun J H1 => ∀ D, H1 D = none → ∃ W : Nat → Nat → Hp → Prop, (∃ m, W 0 m (upd H1 D (.lst []))) ∧ ∀ i m H, W i m H →
  (J.stop i H ∧ Q (.ref D) H) ∨ (J.go i H ∧ ∃ Nx : Hp → Prop, (∀ H', Nx H' → ∃ m', m' < m ∧ W (i + 1) m' H') ∧ ∀ x H', J.yld i H x H' → g x (wipe σ vs) H' fun σ2 H2 => wipe σ2 vs = wipe σ vs ∧ tt σ2 H2 fun b H3 =>
    if b = true then te σ2 H3 fun y H4 => ∃ acc, H4 D = some (.lst acc) ∧ acc.length < sizeLine ∧ Nx (upd H4 D (.lst (acc ++ [y]))) else Nx H3)
theorem lc_core {pins : List (Addr × Obj)} {s : Shared} {σ : St} {H : Hp} {Q : VK} {elt tg iter : Expr} {ifs : List Expr} {scope : Scope} {own : List (Str × Nat)} {pos pos' : Pos} {wi : TI} {g : TG} {tt : TT} {te : TE} {use : Option (Value → Sem Unit)} {Qf : Value → Shared → Prop}
    (hc : X.calm = true) (hN : X.N.Nodup) (I : Inv X pins σ H s) (hi : PI X tg iter wi) (ok : BlkOk X.N X.env.scope scope own)
    (hg : ∀ (s : Shared) (H : Hp) (C : Addr) (cl : List (Str × Addr)) (fp : List Addr), PG (X.blk s H scope (compEnvC scope cl C X.env) fp) tg g) (ht : ∀ (s : Shared) (H : Hp) (C : Addr) (cl : List (Str × Addr)) (fp : List Addr), PTs (X.blk s H scope (compEnvC scope cl C X.env) fp) ifs tt)
    (he : ∀ (s : Shared) (H : Hp) (C : Addr) (cl : List (Str × Addr)) (fp : List Addr), PE (X.blk s H scope (compEnvC scope cl C X.env) fp) elt te) (hs : ∀ x, foldedSetIterable iter X.env x = pure x)
    (h : tLc wi g tt te (own.map (·.2)) σ H Q)
    (hRR : ∀ D C s' m H', Inv X pins σ H' s' → Q (.ref D) H' → s'.heap.Ns C m → FpOk X pins H' C → compPost (model X.prog X.w) X.A X.xe use Qf (.ref D) C (.ok .next) s') :
    wpAny (model X.prog X.w) X.A (comprehension (.ListComp elt [⟨tg, iter, ifs, 0⟩] scope pos) scope X.env pos' (newList []) false (eval iter X.env) use) Qf X.xe s := by
  have hfree : ∀ y ∈ scope.names, y.2 = .free → ∃ c, X.env.cells.lookup y.1 = some c := fun y hy e => by
    rcases ok.free y hy e with k | k
    · exact I.ok.has _ (.inl k)
    · exact I.ok.has _ (.inr k)
  refine wpAny_comprehension_free (use := use) rfl hs (closure_ok hfree) ok.kind (fun y hy e => by rw [ok.uniq y hy, e])
    (thn (hi pins s σ H _ I h) fun xv s1 hx => thn hx fun itv s2 h2 => ?_)
  obtain ⟨it, fp, tn, J, H2, e, I2, T, st2, f2, q⟩ := h2
  subst e
  refine wpAny_newObj_type (newEnv_comp ?_) (by show 0 ≤ sizeLine; decide)
  generalize hD : s2.heap.objs.size = D
  have hDn : H2 D = none := I2.hok.fresh (Nat.le_of_eq hD)
  obtain ⟨W, ⟨m0, w0⟩, turn⟩ := q D hDn
  generalize hs3 : ({ s2 with heap := s2.heap.push { cls := .type "list", data := .seq ([] : List Value).toArray } } : Shared) = s3
  have I3 : Inv X pins σ (upd H2 D (.lst [])) s3 := by
    rw [← hs3]
    refine I2.laid (t' := s2.toks) (fun b o e => Heap.get?_push_of_some _ e) (Nat.le_of_eq hD) ⟨Nat.zero_le _, [], 0, .nil, ?_⟩
    rw [← hD]
    exact Heap.get?_push_size _ rfl
  have h3 : s3.heap = s2.heap.push { cls := .type "list", data := .seq ([] : List Value).toArray } := by rw [← hs3]
  have sz : ∀ b ∈ fp, b < s2.heap.objs.size := fun b hb => by
    obtain ⟨o, e, _⟩ := T.obj _ _ st2 b hb
    exact Heap.lt_size e
  have f3 : ∀ b ∈ fp, FpOk X pins (upd H2 D (.lst [])) b ∧ b < s3.heap.objs.size := fun b hb => by
    have hlt := sz b hb
    refine ⟨⟨?_, (f2 b hb).2⟩, by rw [h3, Heap.size_push]; exact Nat.lt_succ_of_lt hlt⟩
    rw [upd_ne (by rw [← hD]; exact Nat.ne_of_lt hlt)]
    exact (f2 b hb).1
  have st3 : tn 0 s3.heap := T.keep _ _ _ st2 fun b _ o e => by rw [h3]; exact Heap.get?_push_of_some _ e
  have I4 := block_start I3 ok hN f3
  have pg := hg s3 (upd H2 D (.lst [])) s3.heap.objs.size (cellsFrom (s3.heap.objs.size + 1) scope.names (cloFrom X.env.cells scope.names [])) fp
  have pt := ht s3 (upd H2 D (.lst [])) s3.heap.objs.size (cellsFrom (s3.heap.objs.size + 1) scope.names (cloFrom X.env.cells scope.names [])) fp
  have pe := he s3 (upd H2 D (.lst [])) s3.heap.objs.size (cellsFrom (s3.heap.objs.size + 1) scope.names (cloFrom X.env.cells scope.names [])) fp
  show codeAny _ _ (.compStart (.ListComp elt [⟨tg, iter, ifs, 0⟩] scope pos) 0 (.ref it) (.ref D) (compEnvC scope (cellsFrom (s3.heap.objs.size + 1) scope.names (cloFrom X.env.cells scope.names [])) s3.heap.objs.size X.env)) (compPost (model X.prog X.w) X.A X.xe use Qf (.ref D) s3.heap.objs.size) { s3 with heap := pushCells (s3.heap.push { cls := .type "dict", data := .dict #[] }) scope.names }
  have nfp : ∀ b ∈ fp, (upd H2 D (.lst [])) b = none := fun b hb => (f3 b hb).1.1
  generalize hce : compEnvC scope (cellsFrom (s3.heap.objs.size + 1) scope.names (cloFrom X.env.cells scope.names [])) s3.heap.objs.size X.env = ce at I4 pg pt pe ⊢
  have cL : ce.locals = s3.heap.objs.size := by subst hce; rfl
  generalize hH3 : upd H2 D (.lst []) = H3 at I3 I4 pg pt pe w0 nfp f3
  generalize hs4 : ({ s3 with heap := pushCells (s3.heap.push { cls := .type "dict", data := .dict #[] }) scope.names } : Shared) = s4 at I4 ⊢
  have st4 : tn 0 s4.heap := T.keep _ _ _ st3 fun b _ o e => by rw [← hs4]; exact pushCells_keeps _ _ _ _ (Heap.get?_push_of_some _ e)
  have stat : ∀ {σ' : St} {H' : Hp} {s' : Shared}, Inv (X.blk s3 H3 scope ce fp) [] σ' H' s' → (∀ b ∈ fp, H' b = none) → ∀ b ∈ fp, FpOk (X.blk s3 H3 scope ce fp) [] H' b := fun {σ' H' s'} I' hn b hb =>
    ⟨hn b hb, (I'.ok.exf b hb).1, I'.ok.exfs b hb, .inl hb, fun x c e => (I'.ok.exf b hb).2 x c e, fun p hp => absurd (show p ∈ ([] : List (Addr × Obj)) ++ [] from hp) (by simp)⟩
  have loop : codeAny (model X.prog X.w) X.A (.compLoop (.ListComp elt [⟨tg, iter, ifs, 0⟩] scope pos) 0 (.ref it) (.ref D) ce) (compPost (model X.prog X.w) X.A X.xe use Qf (.ref D) s3.heap.objs.size) s4 := by
    refine compLoop_any (fun n s' => ∃ i H', Inv (X.blk s3 H3 scope ce fp) [] (wipe σ (own.map (·.2))) H' s' ∧ tn i s'.heap ∧ (∀ b ∈ fp, H' b = none) ∧ W i n H') ?_ m0 ⟨0, H3, I4, st4, nfp, w0⟩
    rintro n s5 ⟨i, H5, I5, st5, n5, w5⟩
    rcases turn i n H5 w5 with ⟨stop, qq⟩ | ⟨go, Nx, hNx, step⟩
    · have td := T.done (X.blk s3 H3 scope ce fp) rfl rfl rfl hc i [] s5 _ H5 (fun _ _ => False) I5 (stat I5 n5) st5 stop
      refine thnF td fun r s6 ⟨hr, I6⟩ => ?_
      subst hr
      have I7 : Inv X pins σ H5 s6 := I3.call' (ch := fp) I6.os I6.base I6.hok I6.bare fun b hb => ⟨(f3 b hb).1.2.2.2.1, (f3 b hb).1.2.1, (f3 b hb).1.2.2.2.2.1, (f3 b hb).1.2.2.2.2.2⟩
      have nC : H5 s3.heap.objs.size = none := by
        have z : H5 ce.locals = none := I6.free
        rw [cL] at z
        exact z
      obtain ⟨m, hn, _⟩ := I6.loc
      have hn : s6.heap.Ns ce.locals m := hn
      rw [cL] at hn
      exact hRR D s3.heap.objs.size s6 m H5 I7 qq hn (I3.fpOk (Nat.le_refl _) nC)
    · have ti := T.item (X.blk s3 H3 scope ce fp) rfl rfl rfl hc i [] s5 _ H5 (fun _ _ => False) I5 (stat I5 n5) st5 go
      refine thnF ti fun r s6 ⟨u, hr, h6⟩ => ?_
      subst hr
      refine thnF h6 fun _ s7 ⟨x, H7, I7, r7, y7, st7, n7⟩ => ?_
      have I7' := I7.pinned (stat I7 n7) (T.obj _ _ st7)
      refine thnF (pg _ s7 _ H7 x u _ I7' r7 (step x H7 y7)) fun _ s8 ⟨σ8, H8, I8, hw8, q8⟩ => ?_
      refine thnF (pt _ s8 σ8 H8 _ I8 q8) fun b s9 ⟨H9, I9, q9⟩ => ?_
      have fin : ∀ {s' : Shared} {H' : Hp}, Inv (X.blk s3 H3 scope ce fp) ([] ++ pinsAt fp s7.heap) σ8 H' s' → Nx H' → ∃ m, m < n ∧ ∃ i H', Inv (X.blk s3 H3 scope ce fp) [] (wipe σ (own.map (·.2))) H' s' ∧ tn i s'.heap ∧ (∀ b ∈ fp, H' b = none) ∧ W i m H' := fun {s' H'} I' nx => by
        obtain ⟨m', hm, w'⟩ := hNx H' nx
        have pin' : ∀ b ∈ fp, ∀ o, s7.heap.get? b = some o → s'.heap.get? b = some o ∧ H' b = none := fun b hb o e =>
          let z := I'.pin (b, o) (List.mem_append_right _ (List.mem_append_right _ (mem_pinsAt hb e)))
          ⟨z.1, z.2.1⟩
        have hl : (wipe σ (own.map (·.2))).length = σ8.length := by rw [← hw8, wipe_length]
        refine ⟨m', hm, i + 1, H', (I'.unpinned (pins := [])).weak hl (fun j v e => ?_), T.keep _ _ _ st7 fun b hb o e => (pin' b hb o e).1, fun b hb => ?_, w'⟩
        · rw [← hw8] at e
          exact (wipe_some e).1
        · obtain ⟨o, e, _⟩ := T.obj _ _ st7 b hb
          exact (pin' b hb o e).2
      cases b with
      | false =>
        simp only [Bool.false_eq_true, if_false] at q9 ⊢
        exact fin I9 q9
      | true =>
        simp only [if_true] at q9 ⊢
        refine thnF (pe _ s9 σ8 H9 _ I9 q9) fun z s10 ⟨yv, H10, I10, r10, acc, hD10, hz10, nx⟩ => ?_
        exact app_ok (X := X.blk s3 H3 scope ce fp) I10 hD10 hz10 r10 fun s11 I11 => fin I11 nx
  exact codeAny_compStart_list loop (T.self X.A 0 _ _ _ st4 loop)
theorem pe_lc {elt tg iter : Expr} {ifs : List Expr} {scope : Scope} {own : List (Str × Nat)} {pos : Pos} {wi : TI} {g : TG} {tt : TT} {te : TE} (hc : X.calm = true) (hN : X.N.Nodup) (hi : PI X tg iter wi) (ok : BlkOk X.N X.env.scope scope own)
    (hg : ∀ (s : Shared) (H : Hp) (C : Addr) (cl : List (Str × Addr)) (fp : List Addr), PG (X.blk s H scope (compEnvC scope cl C X.env) fp) tg g) (ht : ∀ (s : Shared) (H : Hp) (C : Addr) (cl : List (Str × Addr)) (fp : List Addr), PTs (X.blk s H scope (compEnvC scope cl C X.env) fp) ifs tt)
    (he : ∀ (s : Shared) (H : Hp) (C : Addr) (cl : List (Str × Addr)) (fp : List Addr), PE (X.blk s H scope (compEnvC scope cl C X.env) fp) elt te) (hs : ∀ x, foldedSetIterable iter X.env x = pure x := by intro _; rfl) :
    PE X (.ListComp elt [⟨tg, iter, ifs, 0⟩] scope pos) (tLc wi g tt te (own.map (·.2))) := by
  intro pins s σ H Q I h
  rw [eval_ListComp]
  refine lc_core hc hN I hi ok hg ht he hs h fun D C s' m H' I' q hn f => ⟨m, hn, fun h'' sb => ?_⟩
  obtain ⟨f0, f1, f2, f3, f4, f5⟩ := f
  exact ⟨.ref D, H', I'.turned (t' := s'.toks) (fun b o hb e => (sb.2 b hb).trans e) f0 f1 f3 f4 f5, rfl, q⟩
theorem ps_setLc {i : Nat} {y : Str} {py : Pos} {elt tg iter : Expr} {ifs : List Expr} {scope : Scope} {own : List (Str × Nat)} {pos spos : Pos} {wi : TI} {g : TG} {tt : TT} {te : TE} (hc : X.calm = true) (hN : X.N.Nodup) (hy : X.N[i]? = some y) (hyl : X.env.scope.names.lookup y = some .local)
    (hsw : swapsWith (.ListComp elt [⟨tg, iter, ifs, 0⟩] scope pos) (some (.Name y py)) spos.line X.env = pure true) (hi : PI X tg iter wi) (ok : BlkOk X.N X.env.scope scope own)
    (hg : ∀ (s : Shared) (H : Hp) (C : Addr) (cl : List (Str × Addr)) (fp : List Addr), PG (X.blk s H scope (compEnvC scope cl C X.env) fp) tg g) (ht : ∀ (s : Shared) (H : Hp) (C : Addr) (cl : List (Str × Addr)) (fp : List Addr), PTs (X.blk s H scope (compEnvC scope cl C X.env) fp) ifs tt)
    (he : ∀ (s : Shared) (H : Hp) (C : Addr) (cl : List (Str × Addr)) (fp : List Addr), PE (X.blk s H scope (compEnvC scope cl C X.env) fp) elt te) (hs : ∀ x, foldedSetIterable iter X.env x = pure x := by intro _; rfl) :
    PS X (.Assign [.Name y py] (.ListComp elt [⟨tg, iter, ifs, 0⟩] scope pos) spos) (tAsg (tLc wi g tt te (own.map (·.2))) (gName i)) := by
  intro pins s σ H D I h
  rw [exec_Assign_Name_used _ _ _ _ hsw]
  refine wpAny_bind (wpAny_standAt (wpAny_bind ?_))
  show wpAny _ X.A (do let _ ← comprehension (.ListComp elt [⟨tg, iter, ifs, 0⟩] scope pos) scope X.env (firstIterPos [⟨tg, iter, ifs, 0⟩] pos) (newList []) false (eval iter X.env) (some (assign (.Name y py) X.env))) _ _ s
  have h : tLc wi g tt te (own.map (·.2)) σ H (fun x H1 => gName i x σ H1 D.nx) := h
  refine wpAny_bind (thn (lc_core (Qf := fun _ s' => SP X pins D .next s') hc hN I hi ok hg ht he hs h fun L C s' m H' I' q hn f => ?_) fun _ s' hq => wpAny_pure (wpAny_pure hq))
  show wpAny _ _ (assign (.Name y py) X.env (.ref L)) _ _ _
  refine wpAny_assign_Name (store_ok2 (v := V.ref L) I' hN hy (.inl hyl) rfl (fun s2 I2 ⟨a, sb, ha⟩ => ?_) (.inr hyl))
  obtain ⟨f0, f1, f2, f3, f4, f5⟩ := f
  have haC : C ≠ a := by
    rcases ha with z | z
    · rw [z]; exact f1
    · exact fun e => f4 y a z e.symm
  refine ⟨m, hn.sameBut sb haC, fun h3 sb3 => ?_⟩
  exact ⟨_, H', I2.turned (t' := s2.toks) (fun b o hb e => (sb3.2 b hb).trans e) f0 f1 f3 f4 f5, q⟩
theorem sw_true {elt : Expr} {gs : List Comprehension} {scope : Scope} {pos py : Pos} {y : Str} {l : Nat} {env : Env} (hk : env.scope.kind = .function) (hy : env.scope.names.lookup y = some .local) (hl : (py.line == pos.line) = true)
    (ha : (scope.names.any fun (n, k) => n == y && (k == .local || k == .cell)) = false) : swapsWith (.ListComp elt gs scope pos) (some (.Name y py)) l env = pure true := by
  have ky : env.kindOf y = some .local := hy
  have hb : env.blockKind = .function := by unfold Env.blockKind; rw [hk]; rfl
  unfold swapsWith
  simp only [hb, ky, ha, Expr.pos, hl]
  rfl
end
theorem lc_list {K : PySem.W.Frag} {a : Addr} {xs : List V} {g : TG} {tt : TT} {te : TE} {vs : List Nat} {σ : St} {H1 : Hp} {D : Addr} {Qd : Hp → Prop} (Pv : Nat → Hp → Prop) (h0 : Pv 0 (upd H1 D (.lst []))) (hl : ∀ i H, i ≤ xs.length → Pv i H → SqL K H a xs)
    (hs : ∀ i x H, xs[i]? = some x → Pv i H → g x (wipe σ vs) H fun σ2 H2 => wipe σ2 vs = wipe σ vs ∧ tt σ2 H2 fun b H3 =>
      if b = true then te σ2 H3 fun y H4 => ∃ acc, H4 D = some (.lst acc) ∧ acc.length < sizeLine ∧ Pv (i + 1) (upd H4 D (.lst (acc ++ [y]))) else Pv (i + 1) H3) (hd : ∀ H, Pv xs.length H → Qd H) :
    ∃ W : Nat → Nat → Hp → Prop, (∃ m, W 0 m (upd H1 D (.lst []))) ∧ ∀ i m H, W i m H →
      ((Itl K a).stop i H ∧ Qd H) ∨ ((Itl K a).go i H ∧ ∃ Nx : Hp → Prop, (∀ H', Nx H' → ∃ m', m' < m ∧ W (i + 1) m' H') ∧ ∀ x H', (Itl K a).yld i H x H' → g x (wipe σ vs) H' fun σ2 H2 => wipe σ2 vs = wipe σ vs ∧ tt σ2 H2 fun b H3 =>
        if b = true then te σ2 H3 fun y H4 => ∃ acc, H4 D = some (.lst acc) ∧ acc.length < sizeLine ∧ Nx (upd H4 D (.lst (acc ++ [y]))) else Nx H3) := by
  refine ⟨fun i m H => m = xs.length - i ∧ i ≤ xs.length ∧ Pv i H, ⟨xs.length, by simp, Nat.zero_le _, h0⟩, ?_⟩
  rintro i m H ⟨rfl, hi, p⟩
  have q := hl i H hi p
  by_cases hlt : i < xs.length
  · refine .inr ⟨⟨xs, xs[i], q, by simp [hlt]⟩, Pv (i + 1), fun H' p' => ⟨xs.length - (i + 1), by omega, rfl, hlt, p'⟩, fun x H' y => ?_⟩
    obtain ⟨e, y⟩ := y
    subst e
    exact hs i x _ (y xs q) p
  · have e : i = xs.length := by omega
    subst e
    exact .inl ⟨⟨xs, q, Nat.le_refl _⟩, hd H p⟩
theorem lc_tup {K : PySem.W.Frag} {a : Addr} {xs : List V} {g : TG} {tt : TT} {te : TE} {vs : List Nat} {σ : St} {H1 : Hp} {D : Addr} {Qd : Hp → Prop} (Pv : Nat → Hp → Prop) (h0 : Pv 0 (upd H1 D (.lst []))) (hl : ∀ i H, i ≤ xs.length → Pv i H → SqT K H a xs)
    (hs : ∀ i x H, xs[i]? = some x → Pv i H → g x (wipe σ vs) H fun σ2 H2 => wipe σ2 vs = wipe σ vs ∧ tt σ2 H2 fun b H3 =>
      if b = true then te σ2 H3 fun y H4 => ∃ acc, H4 D = some (.lst acc) ∧ acc.length < sizeLine ∧ Pv (i + 1) (upd H4 D (.lst (acc ++ [y]))) else Pv (i + 1) H3) (hd : ∀ H, Pv xs.length H → Qd H) :
    ∃ W : Nat → Nat → Hp → Prop, (∃ m, W 0 m (upd H1 D (.lst []))) ∧ ∀ i m H, W i m H →
      ((Itt K a).stop i H ∧ Qd H) ∨ ((Itt K a).go i H ∧ ∃ Nx : Hp → Prop, (∀ H', Nx H' → ∃ m', m' < m ∧ W (i + 1) m' H') ∧ ∀ x H', (Itt K a).yld i H x H' → g x (wipe σ vs) H' fun σ2 H2 => wipe σ2 vs = wipe σ vs ∧ tt σ2 H2 fun b H3 =>
        if b = true then te σ2 H3 fun y H4 => ∃ acc, H4 D = some (.lst acc) ∧ acc.length < sizeLine ∧ Nx (upd H4 D (.lst (acc ++ [y]))) else Nx H3) := by
  refine ⟨fun i m H => m = xs.length - i ∧ i ≤ xs.length ∧ Pv i H, ⟨xs.length, by simp, Nat.zero_le _, h0⟩, ?_⟩
  rintro i m H ⟨rfl, hi, p⟩
  have q := hl i H hi p
  by_cases hlt : i < xs.length
  · refine .inr ⟨⟨xs, xs[i], q, by simp [hlt]⟩, Pv (i + 1), fun H' p' => ⟨xs.length - (i + 1), by omega, rfl, hlt, p'⟩, fun x H' y => ?_⟩
    obtain ⟨e, y⟩ := y
    subst e
    exact hs i x _ (y xs q) p
  · have e : i = xs.length := by omega
    subst e
    exact .inl ⟨⟨xs, q, Nat.le_refl _⟩, hd H p⟩
def blkC (N : List Str) (sc scope : Scope) (own : List (Str × Nat)) : Bool :=
  (match scope.kind with | .function => true | _ => false) && (scope.names.all fun y => decide (scope.names.lookup y.1 = some y.2)) && (own.all fun p => decide (N[p.2]? = some p.1)) &&
    (scope.names.all fun y => match y.2 with
      | .free => (match sc.names.lookup y.1 with | some .cell => true | some .free => true | _ => false)
      | .local => decide (y.1 ∈ own.map (·.1)) || decide (y.1 ∉ N)
      | .cell => decide (y.1 ∈ own.map (·.1)) || decide (y.1 ∉ N)
      | _ => true)
theorem blkOk_by {N : List Str} {sc scope : Scope} {own : List (Str × Nat)} (h : blkC N sc scope own = true) : BlkOk N sc scope own := by
  unfold blkC at h
  simp only [Bool.and_eq_true, List.all_eq_true, decide_eq_true_eq] at h
  obtain ⟨⟨⟨h1, h2⟩, h3⟩, h4⟩ := h
  refine ⟨?_, h2, h3, fun y hy e => ?_, fun y hy e => ?_⟩
  · split at h1
    · assumption
    · cases h1
  · have q := h4 y hy
    simp only [e] at q
    split at q <;> first | exact .inl (by assumption) | exact .inr (by assumption) | cases q
  · have q := h4 y hy
    rcases e with e | e <;> (simp only [e, Bool.or_eq_true, decide_eq_true_eq] at q; exact q)
end L2
namespace L2
open PySem PySem.Spec PyProof.Rows
section
variable {prog : Program} {w : World} {A : Around} {R : Result → Shared → Prop} {s : Shared} {elt t0 i0 t1 i1 : Expr} {ifs0 ifs1 : List Expr} {scope : Scope} {pos : Pos} {it acc : Value} {env : Env}
end
section
variable {X : Cx}
end
end L2
namespace L2
open PySem PySem.Spec PyProof.Rows
section
variable {κ : Type} [DecidableEq κ]
def valV (kvs : List (κ × V)) (k : κ) : Option V := (kvs.find? fun kv => decide (kv.1 = k)).map (·.2)
def putK (kvs : List (κ × V)) (k : κ) (v : V) : List (κ × V) :=
  if (kvs.any fun kv => decide (kv.1 = k)) = true then kvs.map (fun kv => if kv.1 = k then (kv.1, v) else kv) else kvs ++ [(k, v)]
theorem valV_pos {p : κ × V} {r : List (κ × V)} {k : κ} (e : p.1 = k) : valV (p :: r) k = some p.2 := by simp [valV, List.find?_cons, e]
theorem valV_neg {p : κ × V} {r : List (κ × V)} {k : κ} (e : ¬ p.1 = k) : valV (p :: r) k = valV r k := by simp [valV, List.find?_cons, e]
theorem valV_any (k : κ) : ∀ kvs : List (κ × V), (kvs.any fun kv => decide (kv.1 = k)) = (valV kvs k).isSome
  | [] => rfl
  | p :: r => by
    rw [List.any_cons]
    by_cases e : p.1 = k
    · simp only [valV_pos e, decide_eq_true e, Bool.true_or, Option.isSome_some]
    · rw [valV_neg e, decide_eq_false e, Bool.false_or]; exact valV_any k r
theorem valV_snoc (k j : κ) (y : V) : ∀ kvs : List (κ × V), valV kvs k = none → valV (kvs ++ [(k, y)]) j = if j = k then some y else valV kvs j
  | [], _ => by
    by_cases e : k = j
    · rw [if_pos e.symm]; exact valV_pos (p := (k, y)) e
    · rw [if_neg (fun z => e z.symm)]; exact valV_neg (p := (k, y)) e
  | p :: r, hn => by
    rw [List.cons_append]
    have hk : ¬ p.1 = k := fun z => by rw [valV_pos z] at hn; cases hn
    rw [valV_neg hk] at hn
    have ih := valV_snoc k j y r hn
    by_cases e : p.1 = j
    · rw [valV_pos e, valV_pos e, if_neg (fun z => hk (e.trans z))]
    · rw [valV_neg e, valV_neg e, ih]
theorem length_putK (kvs : List (κ × V)) (k : κ) (v : V) : (putK kvs k v).length ≤ kvs.length + 1 := by
  unfold putK
  split
  · rw [List.length_map]; omega
  · rw [List.length_append, List.length_cons, List.length_nil]; omega
theorem putK_new {kvs : List (κ × V)} {k : κ} (v : V) (h : valV kvs k = none) : putK kvs k v = kvs ++ [(k, v)] := by
  unfold putK
  rw [valV_any, h]
  exact if_neg (by decide)
theorem RelO.isSome_eq {o : Option V} {u : Option Value} (r : RelO o u) : o.isSome = u.isSome := by
  cases o with
  | none => cases u with
    | none => rfl
    | some _ => exact (show False from r).elim
  | some _ => cases u with
    | none => exact (show False from r).elim
    | some _ => rfl
theorem RelO.getD {o : Option V} {u : Option Value} {d : V} {d' : Value} (r : RelO o u) (rd : RelV d d') : RelV (o.getD d) (u.getD d') := by
  cases o with
  | none => cases u with
    | none => exact rd
    | some _ => exact (show False from r).elim
  | some _ => cases u with
    | none => exact (show False from r).elim
    | some _ => exact r
theorem KV.val {kvs : List (κ × V)} {vs : List (κ × Value)} (r : KV kvs vs) (k : κ) : RelO (valV kvs k) (valueAt vs k) := by
  unfold KV at r
  induction r with
  | nil => exact True.intro
  | @cons p q ps qs h t ih =>
    obtain ⟨h1, h2⟩ := h
    by_cases e : p.1 = k
    · have e' : q.1 = k := h1.symm.trans e
      have b : valueAt (q :: qs) k = some q.2 := by simp [valueAt, List.find?_cons, e']
      rw [valV_pos e, b]; exact h2
    · have e' : ¬ q.1 = k := fun z => e (h1.trans z)
      have b : valueAt (q :: qs) k = valueAt qs k := by simp [valueAt, List.find?_cons, e']
      rw [valV_neg e, b]; exact ih
theorem KV.any {kvs : List (κ × V)} {vs : List (κ × Value)} (r : KV kvs vs) (k : κ) : (kvs.any fun kv => decide (kv.1 = k)) = vs.any fun kv => decide (kv.1 = k) := by
  unfold KV at r
  induction r with
  | nil => rfl
  | cons h t ih => rw [List.any_cons, List.any_cons, ih, h.1]
theorem KV.repl {kvs : List (κ × V)} {vs : List (κ × Value)} (r : KV kvs vs) (k : κ) {y : V} {u : Value} (ry : RelV y u) :
    KV (kvs.map fun kv => if kv.1 = k then (kv.1, y) else kv) (vs.map fun kv => if kv.1 = k then (kv.1, u) else kv) := by
  unfold KV at r ⊢
  induction r with
  | nil => exact .nil
  | @cons p q ps qs h t ih =>
    rw [List.map_cons, List.map_cons]
    refine .cons ?_ ih
    obtain ⟨h1, h2⟩ := h
    by_cases e : p.1 = k
    · rw [if_pos e, if_pos (h1.symm.trans e)]; exact ⟨h1, ry⟩
    · rw [if_neg e, if_neg (fun z => e (h1.trans z))]; exact ⟨h1, h2⟩
theorem KV.put {kvs : List (κ × V)} {vs : List (κ × Value)} (r : KV kvs vs) (k : κ) {y : V} {u : Value} (ry : RelV y u) : KV (putK kvs k y) (stored vs k u) := by
  unfold putK stored
  rw [r.any k]
  by_cases e : (vs.any fun kv => decide (kv.1 = k)) = true
  · rw [if_pos e, if_pos e]; exact r.repl k ry
  · rw [if_neg e, if_neg e]; exact Paired.snoc r ⟨rfl, ry⟩
theorem KV.length {kvs : List (κ × V)} {vs : List (κ × Value)} (r : KV kvs vs) : kvs.length = vs.length := Paired.length r
end
theorem kV_is {P : Program} {w : World} {k : Key} {u : Value} (r : RelV (kV k) u) : (mixKind P w).is k u = true := by
  cases k with
  | inl i => obtain ⟨t, e⟩ := (show ∃ t, u = Value.int i t from r); subst e; exact mixKind_int P w i t
  | inr x => obtain ⟨t, e⟩ := (show ∃ t, u = Value.str x t from r); subst e; exact mixKind_str P w x t
theorem items_are {P : Program} {w : World} : ∀ {ks : List Key} {us : List Value}, Vals (ks.map kV) us → ItemsAre (mixKind P w) ks us
  | [], _, r => by rw [List.map_nil] at r; cases r; exact .nil
  | k :: ks, _, r => by
    rw [List.map_cons] at r
    cases r with
    | cons h t => exact .cons (kV_is h) (items_are t)
abbrev KT (H : Hp) : List (List Key × V) → List (List Key × Addr × Value) → Prop := Paired fun p q => p.1 = q.1 ∧ H q.2.1 = some (.tup (p.1.map kV)) ∧ RelV p.2 q.2.2
theorem KT.val {H : Hp} {kvs : List (List Key × V)} {xs : List (List Key × Addr × Value)} (r : KT H kvs xs) (k : List Key) : RelO (valV kvs k) ((atKey xs k).map (·.2)) := by
  induction r with
  | nil => exact True.intro
  | @cons p q ps qs h t ih =>
    obtain ⟨h1, _, h2⟩ := h
    by_cases e : p.1 = k
    · have e' : q.1 = k := h1.symm.trans e
      have b : atKey (q :: qs) k = some q.2 := by simp [atKey, List.find?_cons, e']
      rw [valV_pos e, b]; exact h2
    · have e' : ¬ q.1 = k := fun z => e (h1.trans z)
      have b : atKey (q :: qs) k = atKey qs k := by simp [atKey, List.find?_cons, e']
      rw [valV_neg e, b]; exact ih
theorem KT.repl {H : Hp} {kvs : List (List Key × V)} {xs : List (List Key × Addr × Value)} (r : KT H kvs xs) (k : List Key) {y : V} {u : Value} (ry : RelV y u) :
    KT H (kvs.map fun kv => if kv.1 = k then (kv.1, y) else kv) (xs.map (putAt k u)) := by
  induction r with
  | nil => exact .nil
  | @cons p q ps qs h t ih =>
    rw [List.map_cons, List.map_cons]
    refine .cons ?_ ih
    obtain ⟨h1, h2, h3⟩ := h
    unfold putAt
    by_cases e : p.1 = k
    · rw [if_pos e, if_pos (h1.symm.trans e)]; exact ⟨h1, h2, ry⟩
    · rw [if_neg e, if_neg (fun z => e (h1.trans z))]; exact ⟨h1, h2, h3⟩
theorem KT.put {H : Hp} {kvs : List (List Key × V)} {xs : List (List Key × Addr × Value)} (r : KT H kvs xs) (k : List Key) {b : Addr} {y : V} {u : Value} (hb : H b = some (.tup (k.map kV))) (ry : RelV y u) :
    KT H (putK kvs k y) (storedH xs k b u) := by
  have e : (kvs.any fun kv => decide (kv.1 = k)) = (atKey xs k).isSome := by
    rw [valV_any, (r.val k).isSome_eq, Option.isSome_map]
  unfold putK storedH
  rw [e]
  by_cases q : (atKey xs k).isSome = true
  · rw [if_pos q, if_pos q]; exact r.repl k ry
  · rw [if_neg q, if_neg q]; exact Paired.snoc r ⟨rfl, hb, ry⟩
theorem KT.keeps {H H' : Hp} {kvs : List (List Key × V)} {xs : List (List Key × Addr × Value)} (r : KT H kvs xs) (ht : ∀ b ys, H b = some (.tup ys) → H' b = some (.tup ys)) : KT H' kvs xs :=
  Paired.mapP r fun _ _ z => ⟨z.1, ht _ _ z.2.1, z.2.2⟩
section
variable {P : Program} {w : World} {H : Hp} {h : Heap} {a : Addr}
theorem rd_of {u : HO} (ok : HOk P w H h) (e : Rd H a u) : ObjOk P w H h a u := e.ok ok
theorem dk_rd {kvs : List (Key × V)} (ok : HOk P w H h) (e : Rd H a (.dK kvs)) : kvs.length ≤ sizeLine ∧ (a == sysModules) = false ∧ ∃ vs, KV kvs vs ∧ h.DictOf (mixKind P w) a vs :=
  show ObjOk P w H h a (.dK kvs) from rd_of ok e
theorem dk_of {kvs : List (Key × V)} (ok : HOk P w H h) (e : H a = some (.dK kvs)) : kvs.length ≤ sizeLine ∧ (a == sysModules) = false ∧ ∃ vs, KV kvs vs ∧ h.DictOf (mixKind P w) a vs := dk_rd ok (.inl e)
theorem key_of {ks : List Key} (ok : HOk P w H h) (e : H a = some (.tup (ks.map kV))) : (tupleKind (mixKind P w)).is h ks a := by
  obtain ⟨_, its, r, o, h1, h2, n, h3⟩ := (show ObjOk P w H h a (.tup (ks.map kV)) from ok a _ e)
  exact ⟨o, its.toArray, n, h1, h2, h3, by simpa using items_are r⟩
theorem dt_rd {kvs : List (List Key × V)} (ok : HOk P w H h) (e : Rd H a (.dT kvs)) : kvs.length ≤ sizeLine ∧ (a == sysModules) = false ∧
    ∃ xs, KT H kvs xs ∧ h.DictOfH (tupleKind (mixKind P w)) a xs := by
  obtain ⟨z, y, xs, r, o, es, ep, h1, h2, h3, h4, h5⟩ := (show ObjOk P w H h a (.dT kvs) from rd_of ok e)
  refine ⟨z, y, xs, r, o, es, ep, h1, h2, h3, h4, fun x hx => ?_, h5⟩
  have all : ∀ {l : List (List Key × V)} {m : List (List Key × Addr × Value)}, KT H l m → ∀ x ∈ m, (tupleKind (mixKind P w)).is h x.1 x.2.1 := by
    intro l m q
    induction q with
    | nil => intro x hx; exact nomatch hx
    | @cons p q ps qs hq t ih =>
      intro x hx
      rcases List.mem_cons.mp hx with e | hx
      · subst e
        exact key_of ok (by rw [← hq.1]; exact hq.2.1)
      · exact ih x hx
  exact all r x hx
theorem dt_of {kvs : List (List Key × V)} (ok : HOk P w H h) (e : H a = some (.dT kvs)) : kvs.length ≤ sizeLine ∧ (a == sysModules) = false ∧
    ∃ xs, KT H kvs xs ∧ h.DictOfH (tupleKind (mixKind P w)) a xs := dt_rd ok (.inl e)
end
def DGet (H : Hp) (a : Addr) (y : V) (r : Option V) : Prop :=
  (∃ kvs k, Rd H a (.dK kvs) ∧ y = kV k ∧ r = valV kvs k) ∨ ∃ kvs k b, Rd H a (.dT kvs) ∧ y = .ref b ∧ H b = some (.tup (k.map kV)) ∧ r = valV kvs k
def DPut (H : Hp) (a : Addr) (y v : V) (H' : Hp) : Prop :=
  (∃ kvs k, H a = some (.dK kvs) ∧ y = kV k ∧ kvs.length < sizeLine ∧ H' = upd H a (.dK (putK kvs k v))) ∨
  ∃ kvs k b, H a = some (.dT kvs) ∧ y = .ref b ∧ H b = some (.tup (k.map kV)) ∧ kvs.length < sizeLine ∧ H' = upd H a (.dT (putK kvs k v))
theorem DGet.t {H : Hp} {a b : Addr} {kvs : List (List Key × V)} {k : List Key} (e : H a = some (.dT kvs)) (eb : H b = some (.tup (k.map kV))) : DGet H a (.ref b) (valV kvs k) := .inr ⟨kvs, k, b, .inl e, rfl, eb, rfl⟩
theorem DPut.t {H : Hp} {a b : Addr} {kvs : List (List Key × V)} {k : List Key} {v : V} (e : H a = some (.dT kvs)) (eb : H b = some (.tup (k.map kV))) (hl : kvs.length < sizeLine) :
    DPut H a (.ref b) v (upd H a (.dT (putK kvs k v))) := .inr ⟨kvs, k, b, e, rfl, eb, hl, rfl⟩
section
variable {X : Cx} {pins : List (Addr × Obj)} {σ : St} {H : Hp} {s : Shared} {a : Addr} {y v : V} {u r : Value} {o : Option V} {A : Around} {E : Value → Shared → Prop}
theorem Inv.big (I : Inv X pins σ H s) : sysModules < s.heap.objs.size := by
  have h : mainGlobals < s.heap.objs.size := (I.mod.glob.keeps I.bk).lt
  exact Nat.lt_trans (by decide) h
theorem d_getItem {Q : Value → Shared → Prop} (hu : A.units + 1 < cLine) (I : Inv X pins σ H s) (g : DGet H a y (some v)) (ry : RelV y u) (h : ∀ w' s', Inv X pins σ H s' → RelV v w' → Q w' s') :
    wpAny (model X.prog X.w) A (getItem (.ref a) u) Q E s := by
  rcases g with ⟨kvs, k, e, ey, l⟩ | ⟨kvs, k, b, e, ey, eb, l⟩
  · subst ey
    obtain ⟨z, hd, vs, rel, dd⟩ := dk_rd I.hok e
    obtain ⟨w', hw, rw'⟩ := RelO.some_of (v := v) (o := valueAt vs k) (by rw [l]; exact rel.val k)
    exact wpAny_getItem_of (kV_is ry) dd.mapOf hw (h w' _ (I.tok _) rw')
  · subst ey
    cases (show u = Value.ref b from ry)
    obtain ⟨z, hd, xs, rel, dd⟩ := dt_rd I.hok e
    obtain ⟨w', hw, rw'⟩ := RelO.some_of (v := v) (o := (atKey xs k).map (·.2)) (by rw [l]; exact rel.val k)
    obtain ⟨p, hp, hp2⟩ := Option.map_eq_some_iff.mp hw
    refine wpAny_getItem_heap (tupleKind_room_in1 hu) (key_of I.hok eb) dd hp ?_
    rw [hp2]
    exact h w' _ (I.tok _) rw'
theorem d_in {Q : Value → Shared → Prop} (hu : A.units + 1 < cLine) (I : Inv X pins σ H s) (g : DGet H a y o) (ry : RelV y u) (h : ∀ s', Inv X pins σ H s' → Q (.bool o.isSome) s') :
    wpAny (model X.prog X.w) A (compareOp .In u (.ref a)) Q E s := by
  rcases g with ⟨kvs, k, e, ey, l⟩ | ⟨kvs, k, b, e, ey, eb, l⟩
  · subst ey
    obtain ⟨z, hd, vs, rel, dd⟩ := dk_rd I.hok e
    refine wpAny_in_of (kV_is ry) hd dd.mapOf ?_
    rw [← (rel.val k).isSome_eq, ← l]
    exact h _ (I.tok _)
  · subst ey
    cases (show u = Value.ref b from ry)
    obtain ⟨z, hd, xs, rel, dd⟩ := dt_rd I.hok e
    refine wpAny_in_heap (tupleKind_room_in1 hu) (key_of I.hok eb) hd dd ?_
    have q := (rel.val k).isSome_eq
    rw [Option.isSome_map] at q
    rw [← q, ← l]
    exact h _ (I.tok _)
theorem d_notIn {Q : Value → Shared → Prop} (hu : A.units + 1 < cLine) (I : Inv X pins σ H s) (g : DGet H a y o) (ry : RelV y u) (h : ∀ s', Inv X pins σ H s' → Q (.bool (!o.isSome)) s') :
    wpAny (model X.prog X.w) A (compareOp .NotIn u (.ref a)) Q E s := by
  rcases g with ⟨kvs, k, e, ey, l⟩ | ⟨kvs, k, b, e, ey, eb, l⟩
  · subst ey
    obtain ⟨z, hd, vs, rel, dd⟩ := dk_rd I.hok e
    refine wpAny_notIn_of (kV_is ry) hd dd.mapOf ?_
    rw [← (rel.val k).isSome_eq, ← l]
    exact h _ (I.tok _)
  · subst ey
    cases (show u = Value.ref b from ry)
    obtain ⟨z, hd, xs, rel, dd⟩ := dt_rd I.hok e
    refine wpAny_notIn_heap (tupleKind_room_in1 hu) (key_of I.hok eb) hd dd ?_
    have q := (rel.val k).isSome_eq
    rw [Option.isSome_map] at q
    rw [← q, ← l]
    exact h _ (I.tok _)
theorem d_write {h' : Heap} {t' : Nat} {ob : HO} (I : Inv X pins σ H s) (mu : Mut (H a)) (hs : Heap.SameBut a s.heap h') (he : ∃ q, h'.get? a = some q) (new : ObjOk X.prog X.w (upd H a ob) h' a ob) :
    Inv X pins σ (upd H a ob) { s with heap := h', toks := t' } :=
  I.write (x := a) (e := a) mu (.inl rfl) (fun b q hb z => (hs.2 b hb).trans z) he new
theorem dk_new {P : Program} {w : World} {H' : Hp} {h' : Heap} {kvs : List (Key × V)} {vs : List (Key × Value)} (z : kvs.length ≤ sizeLine) (hd : (a == sysModules) = false) (rel : KV kvs vs) (dd : h'.DictOf (mixKind P w) a vs) :
    ObjOk P w H' h' a (.dK kvs) := ⟨z, hd, vs, rel, dd⟩
theorem d_setItem {H' : Hp} {Q : Unit → Shared → Prop} (hu : A.units + 1 < cLine) (I : Inv X pins σ H s) (g : DPut H a y v H') (ry : RelV y u) (rv : RelV v r) (h : ∀ s', Inv X pins σ H' s' → Q () s') :
    wpAny (model X.prog X.w) A (setItem (.ref a) u r) Q E s := by
  rcases g with ⟨kvs, k, e, ey, l, eH⟩ | ⟨kvs, k, b, e, ey, eb, l, eH⟩
  · subst ey eH
    obtain ⟨z, hd, vs, rel, dd⟩ := dk_of I.hok e
    have hz : vs.length ≤ sizeLine := by rw [← rel.length]; exact z
    have hl : (putK kvs k v).length ≤ sizeLine := by have := length_putK kvs k v; omega
    refine wpAny_setItem_pairs (hsz := hz) (kV_is ry) dd fun h' dd' hs => h _ ?_
    have he : ∃ q, h'.get? a = some q := let ⟨q, _, _, hq, _⟩ := dd'; ⟨q, hq⟩
    exact d_write I (by rw [e]; exact True.intro) hs he (dk_new hl hd (rel.put k rv) dd')
  · subst ey eH
    cases (show u = Value.ref b from ry)
    obtain ⟨z, hd, xs, rel, dd⟩ := dt_of I.hok e
    have hz : xs.length ≤ sizeLine := by rw [← Paired.length rel]; exact z
    have hl : (putK kvs k v).length ≤ sizeLine := by have := length_putK kvs k v; omega
    refine wpAny_setItem_heap (hsz := hz) (tupleKind_room_in1 hu) (key_of I.hok eb) dd fun h' dd' hs => h _ ?_
    obtain ⟨q, es, ep, hq, h2, h3, h4, _, h5⟩ := dd'
    refine d_write I (by rw [e]; exact True.intro) hs ⟨q, hq⟩ ⟨hl, hd, _, (rel.put k eb rv).keeps fun c ys ec => ?_, q, es, ep, hq, h2, h3, h4, h5⟩
    rw [upd_ne (ne_of ec e (fun z => nomatch z))]
    exact ec
end
section
variable {X : Cx} {pins : List (Addr × Obj)} {σ : St} {H : Hp} {s : Shared} {a : Addr} {kvs : List (Key × V)} {k : Key} {u : Value} {A : Around} {E : Value → Shared → Prop}
end
def NoSl (i : Expr) : Prop := ∀ ov iv, subscripted i false ov iv = operate [ov, iv] (getItem ov iv)
theorem subD_of {prog : Program} {w : World} {A : Around} {E : Value → Shared → Prop} {s : Shared} {env : Env} {value slice : Expr} {pos : Pos} {T id : String} {Q : Value → Shared → Prop}
    (hl : typeLookup (.type T) "__getitem__" = pure (some (.builtin id))) (hs : NoSl slice)
    (h : wpAny (model prog w) A (eval value env) (fun o s₁ => wpAny (model prog w) A (eval slice env) (fun i s₂ => s₂.TypeIs o T ∧ wpAny (model prog w) A (getItem o i) Q E s₂) E s₁) E s) :
    wpAny (model prog w) A (eval (.Subscript value slice pos) env) Q E s := by
  refine Subscript_ (wpAny_mono h (fun o s₁ h₁ => wpAny_mono h₁ (fun i s₂ h₂ => ?_) fun _ _ x => x) fun _ _ x => x)
  obtain ⟨hT, h₂⟩ := h₂
  unfold subscriptTail
  refine wpAny_bind ?_
  rw [getitemInPython_of_ne hT.not_modules]
  refine wpAny_bind (wpAny_specialOf hT hl ?_)
  have fin : wpAny (model prog w) A (subscripted slice false o i) (fun r s₃ => wpAny (model prog w) A (letTemporaryGo value o r >>= fun _ => pure r) Q E s₃) E s₂ := by
    rw [hs o i]
    exact wpAny_operating (wpAny_mono h₂ (fun r s₃ h₃ => wpAny_bind (wpAny_letTemporaryGo (wpAny_pure h₃))) fun _ _ x => x)
  first
    | exact wpAny_pure (wpAny_bind fin)
    | exact wpAny_bind (wpAny_pure (wpAny_bind fin))
    | exact wpAny_bind fin
theorem dict_typeIs {X : Cx} {pins : List (Addr × Obj)} {σ : St} {H : Hp} {s : Shared} {a : Addr} {y : V} {o : Option V} (I : Inv X pins σ H s) (g : DGet H a y o) : s.TypeIs (.ref a) "dict" := by
  rcases g with ⟨kvs, k, e, _, _⟩ | ⟨kvs, k, b, e, _, _, _⟩
  · obtain ⟨_, _, vs, _, dd⟩ := dk_rd I.hok e
    exact dd.typeIs
  · obtain ⟨_, _, xs, _, dd⟩ := dt_rd I.hok e
    exact dd.typeIs
def tDGet (td ty : TE) : TE := fun σ H Q => td σ H fun x H1 => ty σ H1 fun y H2 => ∃ a v, x = .ref a ∧ DGet H2 a y (some v) ∧ Q v H2
def tDIn (ty td : TE) : TE := fun σ H Q => ty σ H fun y H1 => td σ H1 fun x H2 => ∃ a o, x = .ref a ∧ DGet H2 a y o ∧ Q (.bl o.isSome) H2
def tDNotIn (ty td : TE) : TE := fun σ H Q => ty σ H fun y H1 => td σ H1 fun x H2 => ∃ a o, x = .ref a ∧ DGet H2 a y o ∧ Q (.bl (!o.isSome)) H2
def sDPut (td ty tv : TE) : TS := fun D σ H => tv σ H fun v H1 => td σ H1 fun x H2 => ty σ H2 fun y H3 => ∃ a H4, x = .ref a ∧ DPut H3 a y v H4 ∧ D.nx σ H4
section
variable {X : Cx} {o i e value : Expr} {pos pos' tpos : Pos} {td ty tv : TE}
theorem pe_dget (hu : X.A.units + 1 < cLine) (ho : PE X o td) (hi : PE X i ty) (hs : NoSl i) : PE X (.Subscript o i pos) (tDGet td ty) := by
  intro pins s σ H Q I h
  refine subD_of PySem.F.slot_dict_getitem.lookup hs (thn (ho pins s σ H _ I h) fun u s1 ⟨x, H1, I1, rx, q1⟩ => thn (hi pins s1 σ H1 _ I1 q1) fun iv s2 ⟨y, H2, I2, ry, a, v, ex, g, q2⟩ => ?_)
  subst ex
  obtain rfl : u = Value.ref a := rx
  exact ⟨dict_typeIs I2 g, d_getItem hu I2 g ry fun w' s3 I3 rw' => ⟨v, H2, I3, rw', q2⟩⟩
theorem pc_din (hu : X.A.units + 1 < cLine) (hi : PE X i ty) (ho : PE X o td) : PC X .In i o (tDIn ty td) := by
  intro pins s σ H Q I h
  refine thn (hi pins s σ H _ I h) fun iv s1 ⟨y, H1, I1, ry, q1⟩ => thn (ho pins s1 σ H1 _ I1 q1) fun u s2 ⟨x, H2, I2, rx, a, ov, ex, g, q2⟩ => ?_
  subst ex
  obtain rfl : u = Value.ref a := rx
  exact d_in hu I2 g ry fun s3 I3 => ⟨.bl ov.isSome, H2, I3, rfl, q2⟩
theorem pc_dnotin (hu : X.A.units + 1 < cLine) (hi : PE X i ty) (ho : PE X o td) : PC X .NotIn i o (tDNotIn ty td) := by
  intro pins s σ H Q I h
  refine thn (hi pins s σ H _ I h) fun iv s1 ⟨y, H1, I1, ry, q1⟩ => thn (ho pins s1 σ H1 _ I1 q1) fun u s2 ⟨x, H2, I2, rx, a, ov, ex, g, q2⟩ => ?_
  subst ex
  obtain rfl : u = Value.ref a := rx
  exact d_notIn hu I2 g ry fun s3 I3 => ⟨.bl (!ov.isSome), H2, I3, rfl, q2⟩
theorem ps_dput (hu : X.A.units + 1 < cLine) (ho : PE X o td) (hi : PE X i ty) (hv : PE X value tv) (hs : swapsWith value (some (.Subscript o i pos')) pos.line X.env = pure false) :
    PS X (.Assign [.Subscript o i pos'] value pos) (sDPut td ty tv) := by
  intro pins s σ H D I h
  refine wpAny_Assign_Subscript (thn (hv pins s σ H _ I h) fun r s1 ⟨v, H1, I1, rv, q1⟩ => thn (ho pins s1 σ H1 _ I1 q1) fun u s2 ⟨x, H2, I2, rx, q2⟩ => thn (hi pins s2 σ H2 _ I2 q2) fun iv s3 ⟨y, H3, I3, ry, a, H4, ex, g, q3⟩ => ?_) hs
  subst ex
  obtain rfl : u = Value.ref a := rx
  exact d_setItem hu I3 g ry rv fun s4 I4 => ⟨σ, H4, I4, q3⟩
end
theorem dt_empty {P : Program} {w : World} {H : Hp} (h : Heap) (hb : sysModules < h.objs.size) : ObjOk P w H (h.push { cls := .type "dict", data := .dict #[] }) h.objs.size (.dT []) :=
  ⟨Nat.zero_le _, beq_eq_false_iff_ne.mpr (Ne.symm (Nat.ne_of_lt hb)), [], .nil, _, #[], 0, Heap.get?_push_size _ rfl, ⟨rfl, rfl, rfl⟩, rfl, rfl, List.nodup_nil⟩
def tDNewT : TE := fun _ H Q => ∀ p, H p = none → Q (.ref p) (upd H p (.dT []))
section
variable {X : Cx} {pos : Pos}
theorem pe_dnewT : PE X (.Dict [] [] pos) tDNewT := fun pins s σ H Q I h =>
  wpAny_Dict_empty ⟨.ref s.heap.objs.size, _, I.laid (a := s.heap.objs.size) (o := .dT []) (t' := s.toks) (fun _ _ q => Heap.get?_push_of_some _ q) (Nat.le_refl _) (dt_empty s.heap I.big), rfl, h _ (I.hok.fresh (Nat.le_refl _))⟩
end
structure M1 (X : Cx) (o : Expr) (m : Str) (apos : Pos) (e : Expr) (cpos : Pos) : Prop where
  base : attributeBase o m X.env (eval o X.env) = eval o X.env
  few : ((backTo cpos (starEach [e] X.env)).all (fun x => !x.1) && (backToKw cpos (keywordEach [] X.env)).all (fun x => x.1.isSome)
    && decide (([e] : List Expr).length + ([] : List Keyword).length + (if ([] : List Keyword).isEmpty then 0 else 1) < 30)) = true
  line : (apos.endLine == cpos.line) = true
  trees : backTo cpos (starEach [e] X.env) = [(false, eval e X.env)]
structure M2 (X : Cx) (o : Expr) (m : Str) (apos : Pos) (e f : Expr) (cpos : Pos) : Prop where
  base : attributeBase o m X.env (eval o X.env) = eval o X.env
  few : ((backTo cpos (starEach [e, f] X.env)).all (fun x => !x.1) && (backToKw cpos (keywordEach [] X.env)).all (fun x => x.1.isSome)
    && decide (([e, f] : List Expr).length + ([] : List Keyword).length + (if ([] : List Keyword).isEmpty then 0 else 1) < 30)) = true
  line : (apos.endLine == cpos.line) = true
  trees : backTo cpos (starEach [e, f] X.env) = [(false, eval e X.env), (false, eval f X.env)]
def IsD (H : Hp) (a : Addr) : Prop := (∃ kvs, Rd H a (.dK kvs)) ∨ ∃ kvs, Rd H a (.dT kvs)
theorem isD_at {X : Cx} {pins : List (Addr × Obj)} {σ : St} {H : Hp} {s : Shared} {a : Addr} (I : Inv X pins σ H s) (d : IsD H a) :
    s.TypeIs (.ref a) "dict" ∧ (∀ b, Value.ref a = .ref b → ∃ ob, s.heap.get? b = some ob ∧ ob.dict = none) ∧ (a == sysModules) = false := by
  rcases d with ⟨kvs, e⟩ | ⟨kvs, e⟩
  · obtain ⟨_, hd, vs, _, dd⟩ := dk_rd I.hok e
    refine ⟨dd.typeIs, fun b q => ?_, hd⟩
    cases q
    obtain ⟨ob, _, _, h1, h2, _⟩ := dd
    exact ⟨ob, h1, h2.2.1⟩
  · obtain ⟨_, hd, xs, _, dd⟩ := dt_rd I.hok e
    refine ⟨dd.typeIs, fun b q => ?_, hd⟩
    cases q
    obtain ⟨ob, _, _, h1, h2, _⟩ := dd
    exact ⟨ob, h1, h2.2.1⟩
section
variable {X : Cx} {pins : List (Addr × Obj)} {σ : St} {H : Hp} {s : Shared} {a : Addr} {y d : V} {u r : Value} {o : Option V} {A : Around} {E : Value → Shared → Prop}
theorem d_get1 {Q : Value → Shared → Prop} (hu : A.units + 1 < cLine) (I : Inv X pins σ H s) (g : DGet H a y o) (ry : RelV y u) (h : ∀ w' s', Inv X pins σ H s' → RelV (o.getD .non) w' → Q w' s') :
    wpAny (model X.prog X.w) A (call (.builtin "dict.get") [.ref a, u]) Q E s := by
  rcases g with ⟨kvs, k, e, ey, l⟩ | ⟨kvs, k, b, e, ey, eb, l⟩
  · subst ey
    obtain ⟨z, hd, vs, rel, dd⟩ := dk_rd I.hok e
    refine call_meetsIn PySem.F.slot_dict_get dd.typeIs PySem.F.entry_dict_get (PySem.F.args_dict_get_2 _ _) (meets_dict_get (mixKind X.prog X.w) a (kV_is ry) hd) ⟨_, dd.mapOf, h _ _ (I.tok _) ?_⟩
    rw [l]
    exact (rel.val k).getD rfl
  · subst ey
    cases (show u = Value.ref b from ry)
    obtain ⟨z, hd, xs, rel, dd⟩ := dt_rd I.hok e
    refine call_meetsIn PySem.F.slot_dict_get dd.typeIs PySem.F.entry_dict_get (PySem.F.args_dict_get_2 _ _) (meetsH_dict_get (tupleKind (mixKind X.prog X.w)) a b hd) ⟨tupleKind_room_in1 hu, k, xs, key_of I.hok eb, dd, h _ _ (I.tok _) ?_⟩
    rw [l]
    exact (rel.val k).getD rfl
end
def tDGet1 (td ty : TE) : TE := fun σ H Q => td σ H fun x H1 => ∃ a, x = .ref a ∧ IsD H1 a ∧ ty σ H1 fun y H2 => ∃ o, DGet H2 a y o ∧ Q (o.getD .non) H2
section
variable {X : Cx} {o e f : Expr} {apos cpos : Pos} {td ty tx : TE}
theorem pe_dget1 (hu : X.A.units + 1 < cLine) (ho : PE X o td) (he : PE X e ty) (m : M1 X o "get" apos e cpos) : PE X (.Call (.Attribute o "get" apos) [e] [] cpos) (tDGet1 td ty) := by
  intro pins s σ H Q I h
  refine wpAny_Call_method m.base m.few m.line PySem.F.plainAttrs_dict PySem.F.slot_dict_get PySem.F.type_dict_get (thn (ho pins s σ H _ I h) fun u s1 ⟨x, H1, I1, rx, a, ex, d, q1⟩ => ?_)
  subst ex
  obtain rfl : u = Value.ref a := rx
  obtain ⟨t1, t2, _⟩ := isD_at I1 d
  refine ⟨t1, t2, ?_⟩
  rw [m.trees]
  refine Calls.callWith_builtin rfl (Calls.evalArgs_plain (Calls.spliced_cons (thn (he pins s1 σ H1 _ I1 q1) fun iv s2 ⟨y, H2, I2, ry, ov, g, q2⟩ => Calls.spliced_nil ?_)))
  exact d_get1 hu I2 g ry fun w' s3 I3 rw' => ⟨_, H2, I3, rw', q2⟩
end
section
variable {X : Cx} {pins : List (Addr × Obj)} {σ : St} {H : Hp} {s : Shared} {a : Addr} {kvs : List (Key × V)} {A : Around} {E : Value → Shared → Prop}
end
section
variable {X : Cx} {pins : List (Addr × Obj)} {σ : St} {H : Hp} {s : Shared} {a : Addr} {y : V} {u : Value} {A : Around} {E : Value → Shared → Prop}
end
end L2
namespace L2
open PySem PySem.Spec PyProof.Rows
section
variable {prog : Program} {w : World} {A : Around} {E : Value → Shared → Prop}
end
section
variable {X : Cx}
theorem refs_at : ∀ {ps : List Addr} {us : List Value}, Vals (ps.map V.ref) us → us = ps.map Value.ref
  | [], us, r => by
    rw [List.map_nil] at r
    cases r
    rfl
  | p :: ps, us, r => by
    rw [List.map_cons] at r
    cases r with
    | cons h t =>
      cases h
      rw [List.map_cons, ← refs_at t]
end
end L2
namespace L2
open PySem PySem.Spec PyProof.Rows
theorem boot_reversed5 : bootBuiltins "reversed" = some (.type "reversed") := by decide +kernel
section
variable {X : Cx} {pins : List (Addr × Obj)} {σ : St} {H : Hp} {s : Shared} {h' : Heap}
theorem Inv.turnedL {t' : Nat} {ch : List Addr} (I : Inv X pins σ H s) (k : ∀ b o, b ∉ ch → s.heap.get? b = some o → h'.get? b = some o) (hf : ∀ b ∈ ch, FpOk X pins H b) : Inv X pins σ H { s with heap := h', toks := t' } := by
  have nit : ∀ b u, H b = some u → b ∉ ch := fun b u e z => by
    have q := (hf b z).1
    rw [q] at e; cases e
  refine I.step (g' := s.gens) (d' := s.drawn) (ch := ch) (fun b hb => ⟨(hf b hb).2.2.2.1, (hf b hb).2.1, (hf b hb).2.2.2.2.1, (hf b hb).2.2.2.2.2⟩) (fun b o _ _ hc e _ => k b o hc e) (fun b o _ _ hc e _ => ⟨o.slots, k b o hc e⟩)
    (fun _ _ _ _ n => n) (fun b o hc e => ⟨o, k b o hc e⟩) (fun _ _ e => e) (fun _ _ _ e => e) (fun b ps e => ⟨#[], by rw [e]; simp⟩) (fun m hm => ?_) (fun b u e => ?_) I.bare
  · obtain ⟨o, es, ep, ho, r⟩ := hm
    exact ⟨o, es, ep, k _ o (fun z => (hf _ z).2.1 rfl) ho, r⟩
  · refine (I.hok b u e).stay (fun c v hc q => k c v ?_ q) (fun _ q => q) fun _ _ q => q
    rcases hc with z | z
    · rw [z]; exact nit b u e
    · exact nit c _ z
theorem Inv.turnedNew {t' : Nat} {ch : List Addr} {T : Addr} {ob : HO} (I : Inv X pins σ H s) (k : ∀ b o, b ∉ ch → s.heap.get? b = some o → h'.get? b = some o) (hf : ∀ b ∈ ch, FpOk X pins H b) (hT : s.heap.objs.size ≤ T)
    (new : ObjOk X.prog X.w (upd H T ob) h' T ob) : Inv X pins σ (upd H T ob) { s with heap := h', toks := t' } := by
  have hn : H T = none := I.hok.fresh hT
  have nit : ∀ b u, H b = some u → b ∉ ch := fun b u e z => by
    have q := (hf b z).1
    rw [q] at e; cases e
  refine I.step (g' := s.gens) (d' := s.drawn) (ch := ch) (fun b hb => ⟨(hf b hb).2.2.2.1, (hf b hb).2.1, (hf b hb).2.2.2.2.1, (hf b hb).2.2.2.2.2⟩) (fun b o _ _ hc e _ => k b o hc e) (fun b o _ _ hc e _ => ⟨o.slots, k b o hc e⟩)
    (fun b o _ e n => ?_) (fun b o hc e => ⟨o, k b o hc e⟩) (fun b xs e => ?_) (fun b o u e => ?_) (fun b ps e => ⟨#[], ?_⟩) (fun m hm => ?_) (fun b u e => ?_) I.bare
  · rw [upd_ne (Nat.ne_of_lt (Nat.lt_of_lt_of_le (Heap.lt_size e) hT))]; exact n
  · rw [upd_ne (ne_of_none e hn)]; exact e
  · rw [upd_ne (ne_of_none e hn)]; exact e
  · rw [upd_ne (ne_of_none e hn), e]; simp
  · obtain ⟨o, es, ep, ho, r⟩ := hm
    exact ⟨o, es, ep, k _ o (fun z => (hf _ z).2.1 rfl) ho, r⟩
  · by_cases hb : b = T
    · subst hb
      rw [upd_same] at e
      cases e
      exact new
    · rw [upd_ne hb] at e
      refine (I.hok b u e).stay (fun c v hc q => k c v ?_ q) (fun c q => by rw [upd_ne (ne_of_none q hn)]; exact q) fun c xs q => by rw [upd_ne (ne_of_none q hn)]; exact q
      rcases hc with z | z
      · rw [z]; exact nit b u e
      · exact nit c _ z
end
section
variable {X : Cx}
theorem pi_one {tg : Expr} {pins : List (Addr × Obj)} {σ : St} {H : Hp} {s : Shared} {R : It → Hp → Prop} {J : It} {tn : Nat → Heap → Prop} {tk : Nat} (I : Inv X pins σ H s) (o : Obj)
    (T : Turn X.prog X.w X.K tg J [s.heap.objs.size] s.heap.objs.size tn) (st : tn 0 (s.heap.push o)) (q : R J H) : PIE X pins σ tg R (.ref s.heap.objs.size) { s with heap := s.heap.push o, toks := tk } := by
  refine ⟨s.heap.objs.size, [s.heap.objs.size], tn, J, H, rfl, I.kept fun b ob e => Heap.get?_push_of_some _ e, T, st, fun b hb => ?_, q⟩
  have e : b = s.heap.objs.size := by simpa using hb
  subst e
  exact I.fpOk (Nat.le_refl _) (I.hok.fresh (Nat.le_refl _))
end
section
variable {X : Cx} {tg : Expr}
end
section
variable {X : Cx} {tg : Expr}
end
def Its (x : Str) : It := ⟨fun i _ => i < x.cps.size, fun i H v H' => H' = H ∧ ∃ c, x.cps[i]? = some c ∧ v = .str ⟨#[c]⟩, fun i _ => x.cps.size ≤ i⟩
theorem turn_str {P : Program} {w : World} {K : PySem.W.Frag} {tg : Expr} (it : Addr) (x : Str) (t : Tok) (ty : String) (hty : ty = "str_ascii_iterator" ∨ ty = "str_iterator") :
    Turn P w K tg (Its x) [it] it (fun i h => h.IsStrIter it ty x t i) where
  mem := by simp
  obj := fun i h st b hb => by
    have e : b = it := by simpa using hb
    subst e
    obtain ⟨o, e, c, d⟩ := st
    exact ⟨o, e, fun v z => by rw [d] at z; cases z⟩
  keep := fun i h h' st k => let ⟨o, ho, r⟩ := st; ⟨o, k it (by simp) o ho, r⟩
  item := by
    intro X hP hw hK hc i pins s σ H E I hf st hg
    subst hP hw hK
    obtain ⟨f0, f1, f2, f3, f4, f5⟩ := hf it (by simp)
    have W : Walks X.prog X.w X.A it [it] [it] x.cps.size (SignAt x) (fun i h => h.IsStrIter it ty x t i) := by
      rcases hty with e | e
      · rw [e]; exact Walks.strAscii (I.ok.hd hc) it x t
      · rw [e]; exact Walks.strWide (I.ok.hd hc) it x t
    have hno : ["enumerate", "zip", "dict_itemiterator", "dict_reverseitemiterator", "odict_iterator", "itertools.zip_longest", "itertools.pairwise"].contains ty = false := by
      rcases hty with e | e
      · rw [e]; decide
      · rw [e]; decide
    refine W.item i s _ _ hg st fun v h' tk hv st' kk => ?_
    obtain ⟨c, u, hcx, rfl⟩ := hv
    have I1 : Inv X pins σ H { s with heap := h', toks := tk } := I.turned (fun b o hb e => kk b o (by simpa using hb) e) f0 f1 f3 f4 f5
    obtain ⟨oi, e, cc, dd⟩ := id st'
    exact ⟨_, rfl, go_of (s := { s with heap := h', toks := tk }) e cc dd hno ⟨.str ⟨#[c]⟩, H, I1, ⟨u, rfl⟩, ⟨rfl, c, hcx, rfl⟩, st', fun b hb => (hf b hb).1⟩⟩
  done := by
    intro X hP hw hK hc i pins s σ H E I hf st hg
    subst hP hw hK
    obtain ⟨f0, f1, f2, f3, f4, f5⟩ := hf it (by simp)
    have hx : x.cps[i]? = none := Array.getElem?_eq_none hg
    rcases hty with e | e
    · rw [e] at st
      exact wpAny_pyNext_ascii_end (I.ok.hd hc) st hx fun h' eb => ⟨rfl, I.turned (t' := s.toks) (fun b o hb e => eb b o hb e) f0 f1 f3 f4 f5⟩
    · rw [e] at st
      exact wpAny_pyNext_wide_end (I.ok.hd hc) st hx fun h' eb => ⟨rfl, I.turned (t' := s.toks) (fun b o hb e => eb b o hb e) f0 f1 f3 f4 f5⟩
  self := fun A i s Q E st h => by
    rcases hty with e | e
    · rw [e] at st; exact wpAny_pyIter_striter_ascii st h
    · rw [e] at st; exact wpAny_pyIter_striter_wide st h
def iStr (te : TE) : TI := fun σ H R => te σ H fun v H1 => ∃ x, v = .str x ∧ R (Its x) H1
theorem pi_str {X : Cx} {tg e : Expr} {te : TE} (he : PE X e te) : PI X tg e (iStr te) := by
  intro pins s σ H R I h
  refine thn (he pins s σ H _ I h) fun v s1 ⟨y, H1, I1, r1, x, ex, q⟩ => ?_
  subst ex
  obtain ⟨t, rfl⟩ := r1
  cases ha : x.cps.all (· < 128)
  · exact wpAny_pyIter_wide ha (pi_one (tk := s1.toks) I1 _ (turn_str _ x t "str_iterator" (.inr rfl)) ⟨_, Heap.get?_push_size _ rfl, rfl, rfl⟩ q)
  · exact wpAny_pyIter_ascii ha (pi_one (tk := s1.toks) I1 _ (turn_str _ x t "str_ascii_iterator" (.inl rfl)) ⟨_, Heap.get?_push_size _ rfl, rfl, rfl⟩ q)
section
variable {prog : Program} {w : World} {A : Around} {E : Value → Shared → Prop} {s : Shared}
theorem iter_keys {d : Addr} {o : Obj} {es : Array DictEntry} {ep : Nat} {Q : Value → Shared → Prop} (hd : (d == sysModules) = false) (ho : s.heap.get? d = some o) (hc : o.ExactDict) (hdat : o.data = .dict es ep)
    (hQ : Q (.ref s.heap.objs.size) { s with heap := s.heap.push { cls := .type "dict_keyiterator", data := .fields #[.ref d, .int 0 0, .int es.size 0, .int ep 0] } }) :
    wpAny (model prog w) A (pyIter (.ref d)) Q E s := by
  have hT : s.TypeIs (.ref d) "dict" := ⟨o, ho, hc.1⟩
  refine wpAny_pyIter_slot hT F.slot_dict_iter (wpAny_call_entry F.slot_dict_iter hT F.entry_dict_iter ?_ (F.args_dict_iter_1 _))
  unfold Builtin.«dict.__iter__»
  refine wpAny_bind ?_
  unfold Builtin.Dict.dictSlotNone
  refine wpAny_bind (wpAny_notOrdered_dict hT ?_)
  show wpAny _ _ (pure (Value.ref d)) _ _ s
  refine wpAny_pure ?_
  show wpAny _ _ (Builtin.Dict.showsAll d >>= _) _ _ s
  unfold Builtin.Dict.showsAll
  rw [if_neg (by rw [hd]; exact Bool.false_ne_true)]
  refine wpAny_bind (wpAny_pure ?_)
  refine wpAny_bind (wpAny_dictEntries ho hdat ?_)
  refine wpAny_bind (wpAny_dictEpoch ho hdat ?_)
  refine wpAny_bind (wpAny_newObj_type (wpAny_pure ⟨_, rfl, "dict_keyiterator", _, ⟨_, Heap.get?_push_size _ rfl, rfl⟩, F.slot_dict_keyiterator_next.lookup, ?_⟩))
  simpa [rawInt] using hQ
theorem next_key_item {it d : Addr} {i n ep : Nat} {od : Obj} {es : Array DictEntry} {en : DictEntry} {Q : Option Value → Shared → Prop} (hit : s.heap.IsKeyIter it d i n ep) (hod : s.heap.get? d = some od) (hdd : od.data = .dict es ep)
    (hsz : es.size = n) (hx : es[i]? = some en) (hQ : ∀ h', h'.IsKeyIter it d (i + 1) n ep → Heap.SameBut it s.heap h' → Q (some en.key) { s with heap := h' }) : wpAny (model prog w) A (pyNext (.ref it)) Q E s := by
  obtain ⟨o, ho, hc, hd⟩ := id hit
  unfold pyNext
  refine wpAny_bind (wpAny_attempt (wpAny_callSpecial?_slot (name := Str.ofString "__next__") hit.typeIs F.slot_dict_keyiterator_next
    (wpAny_call_entry F.slot_dict_keyiterator_next hit.typeIs F.entry_dict_keyiterator_next ?_ (F.args_dict_keyiterator_next_1 _))))
  refine wpAny_bind (wpAny_pure ?_)
  refine wpAny_bind ?_
  refine wpAny_bind ?_
  first | refine wpAny_bind (wpAny_typeNameOfWhole_keyiter hit.typeIs (wpAny_pure ?_)) | refine wpAny_bind (wpAny_typeNameOf_keyiter hit.typeIs (wpAny_pure ?_))
  refine wpAny_bind (wpAny_fieldsOf ho hd ?_)
  have hown : Builtin.Dict_items.ownsTuple "dict_keyiterator" = false := by decide
  simp only [hown, Bool.false_eq_true, if_false]
  show wpAny _ _ (if (Value.ref d == Value.none) = true then _ else _) _ _ s
  rw [if_neg (show ¬ ((Value.ref d == Value.none) = true) from Bool.false_ne_true)]
  refine wpAny_bind (wpAny_pure ?_)
  refine wpAny_bind (wpAny_dictEntries hod hdd ?_)
  rw [if_neg (by rw [hsz]; simp)]
  refine wpAny_bind (wpAny_pure ?_)
  refine wpAny_bind (wpAny_dictEpoch hod hdd ?_)
  rw [if_neg (by simp)]
  refine wpAny_pure ?_
  obtain ⟨hlt', hen⟩ := Array.getElem?_eq_some_iff.mp hx
  simp only [show ¬ ((i : Int) < 0) from by omega, if_false, Int.toNat_natCast, Array.getElem?_eq_getElem hlt']
  refine wpAny_bind ?_
  first | refine wpAny_bind (wpAny_typeNameOfWhole_keyiter hit.typeIs (wpAny_pure ?_)) | refine wpAny_bind (wpAny_typeNameOf_keyiter hit.typeIs (wpAny_pure ?_))
  refine wpAny_bind (wpAny_isOneOf_keyiter hit.typeIs ?_)
  show wpAny _ _ (setField (.ref it) 1 (rawInt ((i : Int) + 1)) >>= _) _ _ s
  refine wpAny_bind (wpAny_setField ho hd (by simp) ?_)
  have hit' : (s.heap.update it (Obj.mapFields (·.setIfInBounds 1 (rawInt ((i : Int) + 1))))).IsKeyIter it d (i + 1) n ep :=
    ⟨_, Heap.get?_update_self _ ho (Obj.isFreed_of_fields (Obj.data_mapFields hd _)), (Obj.cls_mapFields ..).trans hc, by rw [Obj.data_mapFields hd]; simp [rawInt]⟩
  refine wpAny_bind (wpAny_holding ?_)
  refine wpAny_bind (wpAny_isOneOf_keyiter (s := { s with heap := s.heap.update it (Obj.mapFields (·.setIfInBounds 1 (rawInt ((i : Int) + 1)))) }) hit'.typeIs ?_)
  show wpAny _ _ (pure es[i].key) _ _ _
  rw [hen]
  exact wpAny_pure (wpAny_pure ⟨_, rfl, wpAny_pure (hQ _ hit' (Heap.SameBut.update ..))⟩)
theorem next_key_end {it d : Addr} {i n ep : Nat} {od : Obj} {es : Array DictEntry} {Q : Option Value → Shared → Prop} (hh : A.handled = none) (hit : s.heap.IsKeyIter it d i n ep) (hod : s.heap.get? d = some od) (hdd : od.data = .dict es ep)
    (hsz : es.size = n) (hge : n ≤ i) (hQ : ∀ h', Heap.ExtBut it s.heap h' → Q none { s with heap := h' }) : wpAny (model prog w) A (pyNext (.ref it)) Q E s := by
  obtain ⟨o, ho, hc, hd⟩ := id hit
  unfold pyNext
  refine wpAny_bind (wpAny_attempt (wpAny_callSpecial?_slot (name := Str.ofString "__next__") hit.typeIs F.slot_dict_keyiterator_next
    (wpAny_call_entry F.slot_dict_keyiterator_next hit.typeIs F.entry_dict_keyiterator_next ?_ (F.args_dict_keyiterator_next_1 _))))
  refine wpAny_bind (wpAny_pure ?_)
  refine wpAny_bind ?_
  refine wpAny_bind ?_
  first | refine wpAny_bind (wpAny_typeNameOfWhole_keyiter hit.typeIs (wpAny_pure ?_)) | refine wpAny_bind (wpAny_typeNameOf_keyiter hit.typeIs (wpAny_pure ?_))
  refine wpAny_bind (wpAny_fieldsOf ho hd ?_)
  have hown : Builtin.Dict_items.ownsTuple "dict_keyiterator" = false := by decide
  simp only [hown, Bool.false_eq_true, if_false]
  show wpAny _ _ (if (Value.ref d == Value.none) = true then _ else _) _ _ s
  rw [if_neg (show ¬ ((Value.ref d == Value.none) = true) from Bool.false_ne_true)]
  refine wpAny_bind (wpAny_pure ?_)
  refine wpAny_bind (wpAny_dictEntries hod hdd ?_)
  rw [if_neg (by rw [hsz]; simp)]
  refine wpAny_bind (wpAny_pure ?_)
  refine wpAny_bind (wpAny_dictEpoch hod hdd ?_)
  rw [if_neg (by simp)]
  refine wpAny_pure ?_
  have hge' : es.size ≤ i := by rw [hsz]; exact hge
  simp only [show ¬ ((i : Int) < 0) from by omega, if_false, Int.toNat_natCast, Array.getElem?_eq_none hge']
  refine wpAny_bind ?_
  first | refine wpAny_bind (wpAny_typeNameOfWhole_keyiter hit.typeIs (wpAny_pure ?_)) | refine wpAny_bind (wpAny_typeNameOf_keyiter hit.typeIs (wpAny_pure ?_))
  show wpAny _ _ (setField (.ref it) 0 .none >>= _) _ _ s
  refine wpAny_bind (wpAny_setField ho hd (by simp) ?_)
  show wpAny _ _ (newExc (.type "StopIteration") [] >>= _) _ _ _
  refine wpAny_bind ?_
  simp only [newExc, newTuple]
  refine wpAny_bind (wpAny_newObj_type ?_ (by size_fits))
  refine wpAny_bind (m := firstArgMember _ _) (wpAny_of_eq (a := Value.none) (by first | rfl | (simp only [firstArgMember]; rfl)) ?_)
  refine wpAny_newObj_type ?_ (by size_fits)
  simp only [raiseNew]
  refine wpAny_bind (wpAny_handled ?_)
  rw [show A.in1.handled = none from hh]
  refine wpAny_bind (wpAny_pure (wpAny_throw ?_))
  refine wpAny_bind (wpAny_isInstance (T := "StopIteration") (b := true) ⟨_, Heap.get?_push_size _ rfl, rfl⟩ isSubtype_stop ?_)
  exact wpAny_pure (hQ _ (((Heap.SameBut.update ..).extBut.push _).push _))
end
theorem paired_get {α β : Type} {G : α → β → Prop} {l₁ : List α} {l₂ : List β} (h : Paired G l₁ l₂) : ∀ {i : Nat} {a : α}, l₁[i]? = some a → ∃ b, l₂[i]? = some b ∧ G a b := by
  induction h with
  | nil => intro i a e; simp at e
  | @cons a b l₁ l₂ r t ih =>
    intro i a' e
    cases i with
    | zero =>
      simp only [List.getElem?_cons_zero, Option.some.injEq] at e
      subst e
      exact ⟨b, rfl, r⟩
    | succ j =>
      simp only [List.getElem?_cons_succ] at e ⊢
      exact ih e
section
variable {X : Cx} {pins : List (Addr × Obj)} {σ : St} {H : Hp} {s : Shared} {d : Addr} {o : Obj}
end
section
variable {P : Program} {w : World} {K : PySem.W.Frag} {tg : Expr} {d : Addr} {o : Obj} {es : Array DictEntry} {ep : Nat}
end
section
variable {X : Cx} {tg e : Expr} {td : TE} {apos cpos : Pos}
end
def Ite (K : PySem.W.Frag) (a : Addr) : It :=
  ⟨fun i H => ∃ (xs : List V) (x : V), SqL K H a xs ∧ xs[i]? = some x, fun i H v H' => ∃ T x, v = .ref T ∧ H T = none ∧ H' = upd H T (.tup [.int (i : Nat), x]) ∧ ∀ xs, SqL K H a xs → xs[i]? = some x, fun i H => ∃ xs : List V, SqL K H a xs ∧ xs.length ≤ i⟩
theorem turn_enum {P : Program} {w : World} {K : PySem.W.Frag} {elts : List Expr} {kk : Nat} {tpos : Pos} (a e it : Addr) :
    Turn P w K (.Tuple elts kk tpos) (Ite K a) [e, it] e (fun i h => (∃ old, IsEnum h e it ((i : Nat) : Int) old) ∧ h.IsListIter it a i ∧ e ≠ it) where
  mem := by simp
  obj := fun i h st b hb => by
    obtain ⟨⟨old, he⟩, ⟨o, ho, hc, hd⟩, _⟩ := st
    have e' : b = e ∨ b = it := by simpa using hb
    rcases e' with z | z
    · rw [z]; exact ⟨_, he, fun v q => nomatch q⟩
    · rw [z]; exact ⟨o, ho, fun v q => by rw [hd] at q; cases q⟩
  keep := fun i h h' st k => let ⟨⟨old, he⟩, hi, hne⟩ := st; ⟨⟨old, k e (by simp) _ he⟩, hi.at fun o q => k it (by simp) o q, hne⟩
  item := by
    intro X hP hw hK hc i pins s σ H E I hf st hg
    subst hP hw hK
    obtain ⟨⟨old, he⟩, hit, hne⟩ := st
    obtain ⟨xs, x, hq, hx⟩ := hg
    obtain ⟨its, rv, p, hz⟩ := I.list hq
    obtain ⟨u, hu, ru⟩ := rv.get hx
    have hel : e < s.heap.objs.size := Heap.lt_size he
    have hil : it < s.heap.objs.size := by obtain ⟨_, q, _⟩ := hit; exact Heap.lt_size q
    refine wpAny_pyNext_enum_item he hit p.isList (x := u) (by simpa using hu) hne fun h' ho hit' hT hsz hk => ?_
    refine ⟨_, rfl, wpAny_letOwnedTupleGo_enum (s := { s with heap := h', toks := s.toks + 1 }) ho fun h'' he' sb => ?_⟩
    have hT2 : h''.get? s.heap.objs.size = some { cls := .type "tuple", data := .seq #[.int i s.toks, u] } := (sb.2 _ (Nat.ne_of_gt hel)).trans hT
    have new : ObjOk X.prog X.w (upd H s.heap.objs.size (.tup [.int (i : Nat), x])) h'' s.heap.objs.size (.tup [.int (i : Nat), x]) :=
      ⟨by show 2 ≤ sizeLine; decide, [.int i s.toks, u], .cons ⟨_, rfl⟩ (.cons ru .nil), ⟨_, hT2, rfl, _, rfl⟩⟩
    have I1 : Inv X pins σ (upd H s.heap.objs.size (.tup [.int (i : Nat), x])) { s with heap := h'', toks := s.toks + 1 } :=
      I.turnedNew (ch := [e, it]) (fun b ob hb q => (sb.2 b (fun z => hb (by simp [z]))).trans (hk b ob (fun z => hb (by simp [z])) (fun z => hb (by simp [z])) q)) hf (Nat.le_refl _) new
    refine ⟨.ref s.heap.objs.size, _, I1, rfl, ⟨_, x, rfl, I.hok.fresh (Nat.le_refl _), rfl, fun ys hy => by rw [I.list_inj hy hq]; exact hx⟩, ⟨⟨u, ?_⟩, hit'.at fun o q => (sb.2 it (Ne.symm hne)).trans q, hne⟩, fun b hb => ?_⟩
    · have e1 : ((i + 1 : Nat) : Int) = (i : Int) + 1 := by omega
      rw [e1]; exact he'
    · have hb' : b < s.heap.objs.size := by
        have e' : b = e ∨ b = it := by simpa using hb
        rcases e' with z | z
        · rw [z]; exact hel
        · rw [z]; exact hil
      rw [upd_ne (Nat.ne_of_lt hb')]
      exact (hf b hb).1
  done := by
    intro X hP hw hK hc i pins s σ H E I hf st hg
    subst hP hw hK
    obtain ⟨⟨old, he⟩, hit, hne⟩ := st
    obtain ⟨xs, hq, hx⟩ := hg
    obtain ⟨its, rv, p, hz⟩ := I.list hq
    obtain ⟨f0, f1, f2, f3, f4, f5⟩ := hf it (by simp)
    have hl := rv.length
    exact wpAny_pyNext_enum_end (I.ok.hd hc) he hit p.isList (by simp; omega) fun h' eb => ⟨rfl, I.turned (t' := s.toks) (fun b o hb q => eb b o hb q) f0 f1 f3 f4 f5⟩
  self := fun A i s Q E st h => let ⟨⟨_, he⟩, _⟩ := st; wpAny_pyIter_enum he h
def iEnum (K : PySem.W.Frag) (ta : TA) : TI := fun σ H R => ta σ H fun vs H1 => ∃ a xs, vs = [.ref a] ∧ SqL K H1 a xs ∧ R (Ite K a) H1
theorem pi_enum {X : Cx} {e : Expr} {ta : TA} {p pos tpos : Pos} {elts : List Expr} {kk : Nat} (hg : Gl X "enumerate") (hm : X.mg "enumerate" = none) (ha : PA X [e] ta) (hs : starEach [e] X.env = [(false, eval e X.env)] := by rfl) :
    PI X (.Tuple elts kk tpos) (.Call (.Name "enumerate" p) [e] [] pos) (iEnum X.K ta) := by
  intro pins s σ H R I h
  refine Call_ (ld_blt I hg hm boot_enumerate (PyProof.Rows.callWith_type1 (thn (ha pos pins s σ H _ I h) fun us s1 ⟨vs, H1, I1, r1, q1⟩ => ?_) hs rfl))
  obtain ⟨a, xs, ex, hq, q⟩ := q1
  subst ex
  cases r1 with
  | cons r rr =>
    cases rr
    cases r
    obtain ⟨its, rv, p', hz⟩ := I1.list hq
    refine call_enumerate_list p'.isList fun h' he hit hsz hk => wpAny_pyIter_enum he ?_
    have I2 : Inv X pins σ H1 { s1 with heap := h' } := I1.kept (t' := s1.toks) hk
    refine ⟨s1.heap.objs.size + 1, [s1.heap.objs.size + 1, s1.heap.objs.size], _, _, H1, rfl, I2, turn_enum a (s1.heap.objs.size + 1) s1.heap.objs.size, ⟨⟨.none, he⟩, hit, Nat.succ_ne_self _⟩, fun b hb => ?_, q⟩
    have e' : b = s1.heap.objs.size + 1 ∨ b = s1.heap.objs.size := by simpa using hb
    have hle : s1.heap.objs.size ≤ b := by
      rcases e' with z | z
      · rw [z]; exact Nat.le_add_right _ _
      · rw [z]; exact Nat.le_refl _
    exact I1.fpOk hle (I1.hok.fresh hle)
theorem boot_zip5 : bootBuiltins "zip" = some (.type "zip") := by decide +kernel
def Itz (K : PySem.W.Frag) (a b : Addr) : It :=
  ⟨fun i H => ∃ (xs ys : List V) (x y : V), SqL K H a xs ∧ SqL K H b ys ∧ xs[i]? = some x ∧ ys[i]? = some y,
    fun i H v H' => ∃ T x y, v = .ref T ∧ H T = none ∧ H' = upd H T (.tup [x, y]) ∧ (∀ xs, SqL K H a xs → xs[i]? = some x) ∧ ∀ ys, SqL K H b ys → ys[i]? = some y,
    fun i H => ∃ xs ys : List V, SqL K H a xs ∧ SqL K H b ys ∧ (xs.length ≤ i ∨ ys.length ≤ i)⟩
theorem turn_zip {P : Program} {w : World} {K : PySem.W.Frag} {elts : List Expr} {kk : Nat} {tpos : Pos} {a b z TI TO i1 i2 : Addr} (D : ZipApart z TI TO i1 i2 a b) :
    Turn P w K (.Tuple elts kk tpos) (Itz K a b) [z, TI, TO, i1, i2] z (fun i h => IsZip h z TI TO .none ∧ IsPair h TI (.ref i1) (.ref i2) ∧ (∃ x y, IsPair h TO x y) ∧ h.IsListIter i1 a i ∧ h.IsListIter i2 b i) where
  mem := by simp
  obj := fun i h st c hc => by
    obtain ⟨hz, hTI, ⟨x, y, hTO⟩, ⟨o1, e1, _, d1⟩, ⟨o2, e2, _, d2⟩⟩ := st
    have e' : c = z ∨ c = TI ∨ c = TO ∨ c = i1 ∨ c = i2 := by simpa using hc
    rcases e' with q | q | q | q | q
    · rw [q]; exact ⟨_, hz, fun v q => nomatch q⟩
    · rw [q]; exact ⟨_, hTI, fun v q => nomatch q⟩
    · rw [q]; exact ⟨_, hTO, fun v q => nomatch q⟩
    · rw [q]; exact ⟨o1, e1, fun v q => by rw [d1] at q; cases q⟩
    · rw [q]; exact ⟨o2, e2, fun v q => by rw [d2] at q; cases q⟩
  keep := fun i h h' st k => by
    obtain ⟨hz, hTI, ⟨x, y, hTO⟩, h1, h2⟩ := st
    exact ⟨k z (by simp) _ hz, k TI (by simp) _ hTI, ⟨x, y, k TO (by simp) _ hTO⟩, h1.at fun o q => k i1 (by simp) o q, h2.at fun o q => k i2 (by simp) o q⟩
  item := by
    intro X hP hw hK hc i pins s σ H E I hf st hg
    subst hP hw hK
    obtain ⟨hz, hTI, ⟨x0, y0, hTO⟩, h1, h2⟩ := st
    obtain ⟨xs, ys, x, y, hqx, hqy, hx, hy⟩ := hg
    obtain ⟨its, rv, p, _⟩ := I.list hqx
    obtain ⟨its2, rv2, p2, _⟩ := I.list hqy
    obtain ⟨u, hu, ru⟩ := rv.get hx
    obtain ⟨u2, hu2, ru2⟩ := rv2.get hy
    have hzl : z < s.heap.objs.size := Heap.lt_size hz
    refine wpAny_pyNext_zip_item D hz hTI hTO h1 h2 p.isList p2.isList (x := u) (y := u2) (by simpa using hu) (by simpa using hu2) fun h' z' TO' h1' h2' hT hsz hk => ?_
    refine ⟨_, rfl, wpAny_letOwnedTupleGo_zip (s := { s with heap := h' }) z' fun h'' z'' sb => ?_⟩
    have hT2 : h''.get? s.heap.objs.size = some { cls := .type "tuple", data := .seq #[u, u2] } := (sb.2 _ (Nat.ne_of_gt hzl)).trans hT
    have new : ObjOk X.prog X.w (upd H s.heap.objs.size (.tup [x, y])) h'' s.heap.objs.size (.tup [x, y]) :=
      ⟨by show 2 ≤ sizeLine; decide, [u, u2], .cons ru (.cons ru2 .nil), ⟨_, hT2, rfl, _, rfl⟩⟩
    have I1 : Inv X pins σ (upd H s.heap.objs.size (.tup [x, y])) { s with heap := h'' } :=
      I.turnedNew (t' := s.toks) (ch := [z, TI, TO, i1, i2]) (fun c o hb q => (sb.2 c (fun q' => hb (by simp [q']))).trans (hk c o (fun q' => hb (by simp [q'])) (fun q' => hb (by simp [q'])) (fun q' => hb (by simp [q'])) (fun q' => hb (by simp [q'])) q)) hf (Nat.le_refl _) new
    refine ⟨.ref s.heap.objs.size, _, I1, rfl, ⟨_, x, y, rfl, I.hok.fresh (Nat.le_refl _), rfl, fun l hl => by rw [I.list_inj hl hqx]; exact hx, fun l hl => by rw [I.list_inj hl hqy]; exact hy⟩, ⟨z'', ?_, ⟨u, u2, ?_⟩, ?_, ?_⟩, fun c hcm => ?_⟩
    · exact (sb.2 _ D.TIz).trans (hk _ _ D.TIz D.TITO D.TIi1 D.TIi2 hTI)
    · exact (sb.2 _ D.TOz).trans TO'
    · exact h1'.at fun o q => (sb.2 _ D.i1z).trans q
    · exact h2'.at fun o q => (sb.2 _ D.i2z).trans q
    · have hlt : c < s.heap.objs.size := by
        have e' : c = z ∨ c = TI ∨ c = TO ∨ c = i1 ∨ c = i2 := by simpa using hcm
        rcases e' with q | q | q | q | q
        · rw [q]; exact hzl
        · rw [q]; exact Heap.lt_size hTI
        · rw [q]; exact Heap.lt_size hTO
        · rw [q]; obtain ⟨_, e1, _⟩ := h1; exact Heap.lt_size e1
        · rw [q]; obtain ⟨_, e2, _⟩ := h2; exact Heap.lt_size e2
      rw [upd_ne (Nat.ne_of_lt hlt)]
      exact (hf c hcm).1
  done := by
    intro X hP hw hK hc i pins s σ H E I hf st hg
    subst hP hw hK
    obtain ⟨hz, hTI, ⟨x0, y0, hTO⟩, h1, h2⟩ := st
    obtain ⟨xs, ys, hqx, hqy, hend⟩ := hg
    obtain ⟨its, rv, p, _⟩ := I.list hqx
    obtain ⟨its2, rv2, p2, _⟩ := I.list hqy
    have l1 := rv.length
    have l2 := rv2.length
    have he : its.toArray[i]? = none ∨ its2.toArray[i]? = none := by
      rcases hend with q | q
      · exact .inl (by simp; omega)
      · exact .inr (by simp; omega)
    exact wpAny_pyNext_zip_end (I.ok.hd hc) D hz hTI hTO h1 h2 p.isList p2.isList he fun h' hk => ⟨rfl, I.turnedL (t' := s.toks) (ch := [z, TI, TO, i1, i2]) (fun c o hb q =>
      hk c o (fun q' => hb (by simp [q'])) (fun q' => hb (by simp [q'])) (fun q' => hb (by simp [q'])) (fun q' => hb (by simp [q'])) q) hf⟩
  self := fun A i s Q E st h => wpAny_pyIter_zip st.1 h
def iZip (K : PySem.W.Frag) (ta : TA) : TI := fun σ H R => ta σ H fun vs H1 => ∃ a b xs ys, vs = [.ref a, .ref b] ∧ SqL K H1 a xs ∧ SqL K H1 b ys ∧ R (Itz K a b) H1
theorem pi_zip {X : Cx} {e e2 : Expr} {ta : TA} {p pos tpos : Pos} {elts : List Expr} {kk : Nat} (hg : Gl X "zip") (hm : X.mg "zip" = none) (ha : PA X [e, e2] ta)
    (hs : starEach [e, e2] X.env = (false, eval e X.env) :: starEach [e2] X.env := by rfl) (hpl : (backTo pos (starEach [e2] X.env)).any (·.1) = false := by rfl) :
    PI X (.Tuple elts kk tpos) (.Call (.Name "zip" p) [e, e2] [] pos) (iZip X.K ta) := by
  intro pins s σ H R I h
  refine Call_ (ld_blt I hg hm boot_zip5 (PyProof.Rows.callWith_type1 (thn (ha pos pins s σ H _ I h) fun us s1 ⟨vs, H1, I1, r1, q1⟩ => ?_) hs hpl))
  obtain ⟨a, b, xs, ys, ex, hqx, hqy, q⟩ := q1
  subst ex
  cases r1 with
  | cons r rr =>
    cases rr with
    | cons r' rr =>
      cases rr
      cases r
      cases r'
      obtain ⟨its, rv, p1, _⟩ := I1.list hqx
      obtain ⟨its2, rv2, p2, _⟩ := I1.list hqy
      have la : a < s1.heap.objs.size := p1.lt
      have lb : b < s1.heap.objs.size := p2.lt
      refine call_zip_2 p1.isList p2.isList fun h' hz hTI hTO h1 h2 hsz hk => wpAny_pyIter_zip hz ?_
      have I2 : Inv X pins σ H1 { s1 with heap := h' } := I1.kept (t' := s1.toks) hk
      refine ⟨s1.heap.objs.size + 4, [s1.heap.objs.size + 4, s1.heap.objs.size + 2, s1.heap.objs.size + 3, s1.heap.objs.size, s1.heap.objs.size + 1], _, _, H1, rfl, I2, turn_zip (PySem.W.ktu_apart s1.heap.objs.size a b la lb), ⟨hz, hTI, ⟨_, _, hTO⟩, h1, h2⟩, fun c hcm => ?_, q⟩
      have e' : c = s1.heap.objs.size + 4 ∨ c = s1.heap.objs.size + 2 ∨ c = s1.heap.objs.size + 3 ∨ c = s1.heap.objs.size ∨ c = s1.heap.objs.size + 1 := by simpa using hcm
      have hle : s1.heap.objs.size ≤ c := by
        rcases e' with z | z | z | z | z
        · rw [z]; exact Nat.le_add_right _ _
        · rw [z]; exact Nat.le_add_right _ _
        · rw [z]; exact Nat.le_add_right _ _
        · rw [z]; exact Nat.le_refl _
        · rw [z]; exact Nat.le_add_right _ _
      exact I1.fpOk hle (I1.hok.fresh hle)
end L2
section 
namespace Bits
open PySem PyProof.Rows
end Bits
end 
section 
namespace TL
open PySem PySem.Builtin PySem.Builtin.Str PySem.StrLaws
end TL
end 
namespace L2
open PySem PySem.Spec PyProof.Rows
section
variable {X : Cx} {pins : List (Addr × Obj)} {σ : St} {H : Hp} {s : Shared} {Q : VK}
end
section
variable {X : Cx}
end
section
variable {X : Cx} {o e : Expr} {to te : TE}
end
end L2
namespace L2
open PySem PySem.Spec PyProof.Rows
section
variable {X : Cx}
end
end L2
namespace Att
open PySem PySem.W PySem.Calls PyProof.Rows
section
variable {prog : Program} {w : World} {A : Around} {E : Value → Shared → Prop} {s : Shared} {K : Frag}
end
end Att
namespace L2
open PySem PySem.Spec PyProof.Rows
end L2
namespace L2
open PySem PySem.Spec PyProof.Rows
end L2
namespace L2
open PySem PySem.Spec PyProof.Rows
def inClass (s : Stmt) (j : Nat) : Stmt := match s with
  | .ClassDef _ _ _ body _ _ _ _ _ _ _ => body.getD j (.Pass ⟨0, 0, 0, 0⟩)
  | _ => .Pass ⟨0, 0, 0, 0⟩
def defArgs (s : Stmt) : Arguments := match s with
  | .FunctionDef _ a _ _ _ _ _ _ _ _ => a
  | _ => { posonlyargs := [], args := [], vararg := none, kwonlyargs := [], kw_defaults := [], kwarg := none, defaults := [] }
def defBody (s : Stmt) : List Stmt := match s with
  | .FunctionDef _ _ b _ _ _ _ _ _ _ => b
  | _ => []
def defScope (s : Stmt) : Scope := match s with
  | .FunctionDef _ _ _ _ _ _ sc _ _ _ => sc
  | _ => { kind := .function, names := [], isGenerator := false, isCoroutine := false }
abbrev CX0 : CXT := fun _ _ _ _ _ _ => False
abbrev E0 : XK := fun _ _ _ => False
theorem pass0 {X : Cx} : Passes CX0 X E0 := fun _ _ _ _ _ _ _ h => h.elim
structure Fun (K : PySem.W.Frag) (x qual : Str) (st : Stmt) (f : Addr) (fd : FuncData) : Prop where
  ex : ∃ (oc : Value) (od : Option Addr) (kV doc pm : Value) (an : Option Addr) (cdv ct : Value) (osl : Array (Option Value)),
    fd = PySem.W.fnOf x qual (defArgs st) (defBody st) (defScope st) .none kV doc pm an cdv ct ∧ K.lookup f = some ⟨oc, od, .func fd, osl⟩ ∧ PySem.W.codeIn K cdv qual = true
  kp : PySem.W.keepIn K (.ref f) = true
section
variable {P : Program} {w : World} {K : PySem.W.Frag} {mg : Str → Option Value} {base : Heap}
theorem Fun.ok {x qual : Str} {st : Stmt} {f : Addr} {fd : FuncData} {N ps : List Str} {k : Nat} {sp : Sp} (F : Fun K x qual st f fd) (S : FnScope N ps (defScope st)) (len : ∀ vs H Q E, sp vs H Q E → vs.length = ps.length)
    (hbody : ∀ (cdv : Value) (A : Around) (outer : List Env) (s : Shared) (H : Hp) (vs : List V) (Q : VK) (E : XK), Room k (A.deeper (envOfC qual (defScope st) s.heap.objs.size f cdv)) → sp vs H Q E →
      ∃ t, PSs (cxOf CX0 P w K mg base N qual (defScope st) f cdv A outer s H E).nox (defBody st) t ∧ t { nx := fun _ H' => Q .non H', rt := Q } (start N vs) H) : FnOk P w K mg base CX0 (k + 1) f fd ps sp := by
  obtain ⟨oc, od, kV, doc, pm, an, cdv, ct, osl, rfl, lk, hcd⟩ := F.ex
  refine fn_of lk hcd S len fun A outer s H vs Q E hr hsp => ?_
  obtain ⟨t, h, q⟩ := hbody cdv A outer s H vs Q E hr hsp
  exact ⟨t, h.nox, q⟩
theorem Fun.binds {x qual : Str} {st : Stmt} {f : Addr} {fd : FuncData} {ps : List Str} (F : Fun K x qual st f fd)
    (h : ∀ (kV doc pm : Value) (an : Option Addr) (cdv ct : Value) (us : List Value), us.length = ps.length → bindArgs (PySem.W.fnOf x qual (defArgs st) (defBody st) (defScope st) .none kV doc pm an cdv ct) ⟨us, []⟩ = pure (ps.zip us)) : Binds K fd ps [] := by
  obtain ⟨oc, od, kV, doc, pm, an, cdv, ct, osl, rfl, lk, hcd⟩ := F.ex
  exact .all (h kV doc pm an cdv ct)
theorem fun_mk {x qual : Str} {st : Stmt} {f : Addr} {oc : Value} {od an : Option Addr} {osl : Array (Option Value)} {kV doc pm cdv ct : Value} (l : K.lookup f = some ⟨oc, od, .func (PySem.W.fnOf x qual (defArgs st) (defBody st) (defScope st) .none kV doc pm an cdv ct), osl⟩)
    (c : PySem.W.codeIn K cdv qual = true) (k : PySem.W.keepIn K (.ref f) = true) : Fun K x qual st f (PySem.W.fnOf x qual (defArgs st) (defBody st) (defScope st) .none kV doc pm an cdv ct) := ⟨⟨oc, od, kV, doc, pm, an, cdv, ct, osl, rfl, l, c⟩, k⟩
end
theorem hu_of {A : Around} {k : Nat} (hr : Room k A) : A.units + 1 < cLine := Nat.lt_of_le_of_lt (Nat.add_le_add_left (by decide : 1 ≤ 64) _) hr.units
section
variable {X : Cx}
theorem pv (i : Nat) {x : Str} {pos : Pos} (hN : X.N[i]? = some x := by rfl) (hv : Vis X.env.scope x := by first | exact Or.inl rfl | exact Or.inr (Or.inl rfl) | exact Or.inr (Or.inr rfl)) (hd : (x == ("__debug__" : Str)) = false := by decide)
    (hcd : (x == ("__classdict__" : Str)) = false := by decide) : PE X (.Name x pos) (tVar i) := pe_var hN hv hd hcd
end
theorem iteF {A B : Prop} (h : B) : if false = true then A else B := by
  rw [if_neg Bool.false_ne_true]
  exact h
theorem iteT {A B : Prop} (h : A) : if true = true then A else B := by
  rw [if_pos rfl]
  exact h
theorem ite2 {c A B : Prop} [Decidable c] (h1 : c → A) (h2 : ¬ c → B) : if c then A else B := by
  by_cases h : c
  · rw [if_pos h]
    exact h1 h
  · rw [if_neg h]
    exact h2 h
def Same (H H' : Hp) : Prop := ∀ b o, H b = some o → H' b = some o
theorem Same.refl (H : Hp) : Same H H := fun _ _ h => h
theorem Same.trans {H H1 H2 : Hp} (a : Same H H1) (b : Same H1 H2) : Same H H2 := fun c o h => b c o (a c o h)
theorem Same.free {H H' : Hp} (e : Same H H') {l : Addr} (h : H' l = Option.none) : H l = Option.none := by
  cases q : H l with
  | none => rfl
  | some o =>
    rw [e l o q] at h
    cases h
section
variable {κ : Type} [DecidableEq κ]
theorem nd_snoc : ∀ {l : List κ} {k : κ}, l.Nodup → ¬ k ∈ l → (l ++ [k]).Nodup
  | [], k, _, _ => by simp
  | a :: r, k, h, hk => by
    obtain ⟨h1, h2⟩ := List.nodup_cons.mp h
    show (a :: (r ++ [k])).Nodup
    refine List.nodup_cons.mpr ⟨fun m => ?_, nd_snoc h2 fun m => hk (List.mem_cons.mpr (Or.inr m))⟩
    rcases List.mem_append.mp m with q | q
    · exact h1 q
    · exact hk (List.mem_cons.mpr (Or.inl (List.mem_singleton.mp q).symm))
end
theorem Same.made {H H1 : Hp} {x dx C : Addr} (nx : H x = Option.none) (nd : H dx = Option.none) (k : ∀ b o, (upd (upd H dx (.own x)) x (.ins C dx [])) b = some o → b ≠ x → H1 b = some o) : Same H H1 := fun b o e =>
  k b o (by rw [upd_ne (ne_of_none e nx), upd_ne (ne_of_none e nd)]; exact e) (ne_of_none e nx)
end L2
namespace L2
open PySem PySem.Spec PyProof.Rows
open PySem.W (WData Codec OpenSpec Well WellAll ReadsW ReadsAllW)
mutual
inductive Dw (K : PySem.W.Frag) (H : Hp) : V → WData → Prop
  | non : Dw K H .non .none
  | bl (b : Bool) : Dw K H (.bl b) (.bool b)
  | int (i : Int) : Dw K H (.int i) (.int i)
  | str (x : Str) : Dw K H (.str x) (.str x)
  | byt (b : Array UInt8) : Dw K H (.byt b) (.bytes b.toList)
  | lst {a : Addr} {xs : List V} {ds : List WData} : SqL K H a xs → DwAll K H xs ds → Dw K H (.ref a) (.list ds)
  | tup {a : Addr} {xs : List V} {ds : List WData} : SqT K H a xs → DwAll K H xs ds → Dw K H (.ref a) (.tuple ds)
inductive DwAll (K : PySem.W.Frag) (H : Hp) : List V → List WData → Prop
  | nil : DwAll K H [] []
  | cons {v : V} {vs : List V} {d : WData} {ds : List WData} : Dw K H v d → DwAll K H vs ds → DwAll K H (v :: vs) (d :: ds)
end
theorem dw_ints {K : PySem.W.Frag} {H : Hp} : ∀ ns : List Int, DwAll K H (ns.map V.int) (ns.map WData.int)
  | [] => .nil
  | n :: r => .cons (.int n) (dw_ints r)
theorem ints_dw {K : PySem.W.Frag} {H : Hp} : ∀ (ns : List Int) (xs : List V), DwAll K H xs (ns.map WData.int) → xs = ns.map V.int
  | [], xs, h => by
    cases h
    rfl
  | n :: r, xs, h => by
    cases h with
    | cons h1 h2 =>
      cases h1
      rw [ints_dw r _ h2] <;> rfl
section
variable {P : Program} {w : World} {K : PySem.W.Frag} {H : Hp} {h : Heap} {R : PySem.W.WRecords} {cl : Str → Option Addr}
theorem sqL_at {a : Addr} {xs : List V} (hok : HOk P w H h) (KX : K.In h) (q : SqL K H a xs) : ∃ (its : List Value) (o : Obj) (n : Nat), Vals xs its ∧ h.get? a = some o ∧ o.cls = .type "list" ∧ o.data = .seq its.toArray n := by
  rcases q with q | ⟨o, its, n, e, hc, _, hd, _, hv⟩
  · obtain ⟨_, its, n, hv, e⟩ := (show ObjOk P w H h a (.lst xs) from q.ok hok)
    exact ⟨its, _, n, hv, e, rfl, rfl⟩
  · exact ⟨its.toList, o, n, hv, KX _ _ e, hc, by simp [hd]⟩
theorem sqT_at {a : Addr} {xs : List V} (hok : HOk P w H h) (KX : K.In h) (q : SqT K H a xs) : ∃ (its : List Value) (o : Obj) (n : Nat), Vals xs its ∧ h.get? a = some o ∧ o.cls = .type "tuple" ∧ o.data = .seq its.toArray n := by
  rcases q with q | ⟨o, its, n, e, hc, hd, _, hv⟩
  · obtain ⟨_, its, hv, o, e, hc, n, hd⟩ := (show ObjOk P w H h a (.tup xs) from q.ok hok)
    exact ⟨its, o, n, hv, e, hc, hd⟩
  · exact ⟨its.toList, o, n, hv, KX _ _ e, hc, by simp [hd]⟩
mutual
theorem Dw.reads (hok : HOk P w H h) (KX : K.In h) : ∀ (d : WData) (v : V) (u : Value), Dw K H v d → RelV v u → ∃ as, ReadsW R cl h u d as
  | .none, _, _, x, r => by
    cases x
    cases r
    exact ⟨_, ReadsW.none⟩
  | .bool b, _, _, x, r => by
    cases x
    cases r
    exact ⟨_, ReadsW.bool b⟩
  | .int i, _, _, x, r => by
    cases x
    obtain ⟨t, rfl⟩ := r
    exact ⟨_, ReadsW.int i t⟩
  | .str s, _, _, x, r => by
    cases x
    obtain ⟨t, rfl⟩ := r
    exact ⟨_, ReadsW.str s t⟩
  | .bytes b, _, _, x, r => by
    cases x
    obtain ⟨t, rfl⟩ := r
    exact ⟨_, ReadsW.bytes _ t⟩
  | .list ds, _, _, x, r => by
    cases x with
    | lst hs ha =>
      cases r
      obtain ⟨its, o, n, rv, ho, hc, hd⟩ := sqL_at hok KX hs
      obtain ⟨as, hr⟩ := Dw.readsAll hok KX ds _ its ha rv
      exact ⟨_, ReadsW.list ho hc hd hr⟩
  | .tuple ds, _, _, x, r => by
    cases x with
    | tup hs ha =>
      cases r
      obtain ⟨its, o, n, rv, ho, hc, hd⟩ := sqT_at hok KX hs
      obtain ⟨as, hr⟩ := Dw.readsAll hok KX ds _ its ha rv
      exact ⟨_, ReadsW.tuple ho hc hd hr⟩
  | .float _, _, _, x, _ => by cases x
  | .dict _, _, _, x, _ => by cases x
  | .bytearray _, _, _, x, _ => by cases x
  | .set _, _, _, x, _ => by cases x
  | .frozenset _, _, _, x, _ => by cases x
  | .obj _ _, _, _, x, _ => by cases x
theorem Dw.readsAll (hok : HOk P w H h) (KX : K.In h) : ∀ (ds : List WData) (vs : List V) (us : List Value), DwAll K H vs ds → Vals vs us → ∃ as, ReadsAllW R cl h us ds as
  | [], _, _, x, r => by
    cases x
    cases r
    exact ⟨_, ReadsAllW.nil⟩
  | d :: ds, _, _, x, r => by
    cases x with
    | cons h1 h2 =>
      cases r with
      | cons r1 r2 =>
        obtain ⟨as, q1⟩ := Dw.reads hok KX d _ _ h1 r1
        obtain ⟨bs, q2⟩ := Dw.readsAll hok KX ds _ _ h2 r2
        exact ⟨_, ReadsAllW.cons q1 q2⟩
end
end
mutual
def plW : WData → Bool
  | .none => true
  | .bool _ => true
  | .int _ => true
  | .str _ => true
  | .bytes _ => true
  | .list xs => plWs xs
  | .tuple xs => plWs xs
  | _ => false
def plWs : List WData → Bool
  | [] => true
  | x :: r => plW x && plWs r
end
theorem plWs_map {α : Type} {f : α → WData} (h : ∀ a, plW (f a) = true) : ∀ l : List α, plWs (l.map f) = true
  | [] => rfl
  | x :: r => by
    show (plW (f x) && plWs (r.map f)) = true
    rw [h x, plWs_map h r] <;> rfl
theorem pl_enc : ∀ (c : Codec) (a : c.denote), plW (c.enc a) = true
  | .unit, _ => rfl
  | .bool, _ => rfl
  | .int _ _, _ => rfl
  | .nat _ _, _ => rfl
  | .u8, _ => rfl
  | .bytes _ _, _ => rfl
  | .text _ _ _ _, _ => rfl
  | .list _ _ c, a => plWs_map (fun x => pl_enc c x) a
  | .pair c d, a => by
    show (plW (c.enc a.1) && (plW (d.enc a.2) && true)) = true
    rw [pl_enc c a.1, pl_enc d a.2] <;> rfl
  | .triple c d e, a => by
    show (plW (c.enc a.1) && (plW (d.enc a.2.1) && (plW (e.enc a.2.2) && true))) = true
    rw [pl_enc c a.1, pl_enc d a.2.1, pl_enc e a.2.2] <;> rfl
  | .option c, none => rfl
  | .option c, some x => pl_enc c x
theorem pl_encAll : ∀ (cs : List Codec) (a : Codec.denoteAll cs), plWs (Codec.encAll cs a) = true
  | [], _ => rfl
  | c :: cs, a => by
    show (plW (c.enc a.1) && plWs (Codec.encAll cs a.2)) = true
    rw [pl_enc c a.1, pl_encAll cs a.2] <;> rfl
theorem weight_mem : ∀ {xs : List WData} {d : WData}, d ∈ xs → d.weight ≤ WData.weightAll xs
  | [], d, h => absurd h (by simp)
  | x :: r, d, h => by
    show d.weight ≤ x.weight + 1 + WData.weightAll r
    rcases List.mem_cons.mp h with e | m
    · rw [e]
      omega
    · have z := weight_mem m
      omega
def toV : Value → V
  | .none => .non
  | .bool b => .bl b
  | .int i _ => .int i
  | .str x _ => .str x
  | .bytes b _ => .byt b
  | .ref a => .ref a
  | _ => .non
def OkU (A : List Addr) : Value → Prop
  | .none => True
  | .bool _ => True
  | .int _ _ => True
  | .str _ _ => True
  | .bytes _ _ => True
  | .ref a => a ∈ A
  | _ => False
theorem OkU.mono {A B : List Addr} (h : ∀ a ∈ A, a ∈ B) : ∀ {u : Value}, OkU A u → OkU B u := fun {u} x => by
  cases u with
  | ref a => exact h a x
  | none => trivial
  | bool b => trivial
  | int i t => trivial
  | str s t => trivial
  | bytes b t => trivial
  | _ => exact False.elim x
theorem relV_toV {A : List Addr} {u : Value} (x : OkU A u) : RelV (toV u) u := by
  cases u with
  | ref a => rfl
  | none => rfl
  | bool b => rfl
  | int i t => exact ⟨t, rfl⟩
  | str s t => exact ⟨t, rfl⟩
  | bytes b t => exact ⟨t, rfl⟩
  | _ => exact False.elim x
theorem vals_toV {A : List Addr} : ∀ {vs : List Value}, (∀ u ∈ vs, OkU A u) → Vals (vs.map toV) vs
  | [], _ => .nil
  | u :: r, h => .cons (relV_toV (h u (List.mem_cons_self ..))) (vals_toV fun x hx => h x (List.mem_cons_of_mem _ hx))
def ArgOb (h : Heap) (A : List Addr) (a : Addr) : Prop := ∃ vs : List Value, vs.length ≤ sizeLine ∧ (∀ u ∈ vs, OkU A u) ∧
  (h.get? a = some { cls := .type "list", data := .seq vs.toArray } ∨ h.get? a = some { cls := .type "tuple", data := .seq vs.toArray })
theorem ArgOb.mono {h : Heap} {A B : List Addr} {a : Addr} (k : ∀ a ∈ A, a ∈ B) (x : ArgOb h A a) : ArgOb h B a := by
  obtain ⟨vs, h1, h2, h3⟩ := x
  exact ⟨vs, h1, fun u hu => (h2 u hu).mono k, h3⟩
theorem wellAll_len {P : Params} {h : Heap} : ∀ {vs : List Value} {ds : List WData}, WellAll P h vs ds → vs.length = ds.length
  | _, _, .nil => rfl
  | _, _, .cons _ b => by
    show _ + 1 = _ + 1
    rw [wellAll_len b]
theorem well_list {P : Params} {h : Heap} {v : Value} {ds : List WData} (x : Well P h v (.list ds)) : ∃ (a : Addr) (vs : List Value), v = .ref a ∧ h.get? a = some { cls := .type "list", data := .seq vs.toArray } ∧ WellAll P h vs ds := by
  cases x with
  | list ho hall => exact ⟨_, _, rfl, ho, hall⟩
theorem well_tuple {P : Params} {h : Heap} {v : Value} {ds : List WData} (x : Well P h v (.tuple ds)) : ∃ (a : Addr) (vs : List Value), v = .ref a ∧ h.get? a = some { cls := .type "tuple", data := .seq vs.toArray } ∧ WellAll P h vs ds := by
  cases x with
  | tuple ho hall => exact ⟨_, _, rfl, ho, hall⟩
theorem well_cons {P : Params} {h : Heap} {us : List Value} {d : WData} {ds : List WData} (x : WellAll P h us (d :: ds)) : ∃ (v : Value) (vs : List Value), us = v :: vs ∧ Well P h v d ∧ WellAll P h vs ds := by
  cases x with
  | cons a b => exact ⟨_, _, rfl, a, b⟩
theorem line_of {n : Nat} (h : n ≤ 1048576) : n ≤ sizeLine := Nat.le_trans h (by decide)
section
variable {P : Params} {h : Heap}
mutual
theorem area_one : ∀ (d : WData) (v : Value), Well P h v d → plW d = true → d.weight ≤ 1048576 → ∃ A : List Addr, OkU A v ∧ ∀ a ∈ A, ArgOb h A a
  | .none, _, x, _, _ => by
    cases x
    exact ⟨[], trivial, fun a m => absurd m (by simp)⟩
  | .bool b, _, x, _, _ => by
    cases x
    exact ⟨[], trivial, fun a m => absurd m (by simp)⟩
  | .int i, _, x, _, _ => by
    cases x
    exact ⟨[], trivial, fun a m => absurd m (by simp)⟩
  | .str s, _, x, _, _ => by
    cases x
    exact ⟨[], trivial, fun a m => absurd m (by simp)⟩
  | .bytes b, _, x, _, _ => by
    cases x
    exact ⟨[], trivial, fun a m => absurd m (by simp)⟩
  | .list ds, _, x, p, z => by
    obtain ⟨a, vs, rfl, ho, hall⟩ := well_list x
    have z2 : WData.weightAll ds ≤ 1048576 := z
    obtain ⟨A, h1, h2⟩ := area_all ds _ hall p fun d hd => Nat.le_trans (weight_mem hd) z2
    have k : ∀ b ∈ A, b ∈ a :: A := fun b hb => List.mem_cons_of_mem _ hb
    refine ⟨a :: A, List.mem_cons_self .., fun b hb => ?_⟩
    rcases List.mem_cons.mp hb with e | m
    · rw [e]
      exact ⟨vs, line_of (by rw [wellAll_len hall]; exact Nat.le_trans (PySem.W.length_le_weightAllW ds) z2), fun u hu => (h1 u hu).mono k, .inl ho⟩
    · exact (h2 b m).mono k
  | .tuple ds, _, x, p, z => by
    obtain ⟨a, vs, rfl, ho, hall⟩ := well_tuple x
    have z2 : WData.weightAll ds ≤ 1048576 := z
    obtain ⟨A, h1, h2⟩ := area_all ds _ hall p fun d hd => Nat.le_trans (weight_mem hd) z2
    have k : ∀ b ∈ A, b ∈ a :: A := fun b hb => List.mem_cons_of_mem _ hb
    refine ⟨a :: A, List.mem_cons_self .., fun b hb => ?_⟩
    rcases List.mem_cons.mp hb with e | m
    · rw [e]
      exact ⟨vs, line_of (by rw [wellAll_len hall]; exact Nat.le_trans (PySem.W.length_le_weightAllW ds) z2), fun u hu => (h1 u hu).mono k, .inr ho⟩
    · exact (h2 b m).mono k
  | .float _, _, _, p, _ => Bool.noConfusion (show false = true from p)
  | .dict _, _, _, p, _ => Bool.noConfusion (show false = true from p)
  | .bytearray _, _, _, p, _ => Bool.noConfusion (show false = true from p)
  | .set _, _, _, p, _ => Bool.noConfusion (show false = true from p)
  | .frozenset _, _, _, p, _ => Bool.noConfusion (show false = true from p)
  | .obj _ _, _, _, p, _ => Bool.noConfusion (show false = true from p)
theorem area_all : ∀ (ds : List WData) (vs : List Value), WellAll P h vs ds → plWs ds = true → (∀ d ∈ ds, d.weight ≤ 1048576) → ∃ A : List Addr, (∀ u ∈ vs, OkU A u) ∧ ∀ a ∈ A, ArgOb h A a
  | [], _, x, _, _ => by
    cases x
    exact ⟨[], fun u m => absurd m (by simp), fun a m => absurd m (by simp)⟩
  | d :: ds, _, x, p, z => by
    obtain ⟨v, vs, rfl, x1, x2⟩ := well_cons x
    have q : plW d = true ∧ plWs ds = true := Bool.and_eq_true_iff.mp p
    obtain ⟨A, a1, a2⟩ := area_one d v x1 q.1 (z d (List.mem_cons_self ..))
    obtain ⟨B, b1, b2⟩ := area_all ds vs x2 q.2 fun e he => z e (List.mem_cons_of_mem _ he)
    have kA : ∀ b ∈ A, b ∈ A ++ B := fun b hb => List.mem_append.mpr (.inl hb)
    have kB : ∀ b ∈ B, b ∈ A ++ B := fun b hb => List.mem_append.mpr (.inr hb)
    refine ⟨A ++ B, fun u hu => ?_, fun b hb => ?_⟩
    · rcases List.mem_cons.mp hu with e | m
      · rw [e]
        exact a1.mono kA
      · exact (b1 u m).mono kB
    · rcases List.mem_append.mp hb with m | m
      · exact (a2 b m).mono kA
      · exact (b2 b m).mono kB
end
end
def hoOf (o : Obj) : Option HO := match o.data with
  | .seq vs _ => if (o.cls == Value.type "list") = true then some (.frz o (.lst (vs.toList.map toV))) else some (.frz o (.tup (vs.toList.map toV)))
  | _ => none
def argH (K : PySem.W.Frag) (h : Heap) (A : List Addr) : Hp := fun b => if b ∈ A then (if (K.lookup b).isNone = true then (h.get? b).bind hoOf else none) else none
def OnlyF (H : Hp) : Prop := ∀ b, H b = none ∨ ∃ o u, H b = some (.frz o u)
theorem hoOf_lst (vs : List Value) : hoOf { cls := .type "list", data := .seq vs.toArray } = some (.frz { cls := .type "list", data := .seq vs.toArray } (.lst (vs.map toV))) := by
  show (if (Value.type "list" == Value.type "list") = true then some (HO.frz { cls := .type "list", data := .seq vs.toArray } (.lst (vs.toArray.toList.map toV))) else some (HO.frz { cls := .type "list", data := .seq vs.toArray } (.tup (vs.toArray.toList.map toV)))) = _
  rw [if_pos (beq_self_eq_true _)]
theorem hoOf_tup (vs : List Value) : hoOf { cls := .type "tuple", data := .seq vs.toArray } = some (.frz { cls := .type "tuple", data := .seq vs.toArray } (.tup (vs.map toV))) := by
  show (if (Value.type "tuple" == Value.type "list") = true then some (HO.frz { cls := .type "tuple", data := .seq vs.toArray } (.lst (vs.toArray.toList.map toV))) else some (HO.frz { cls := .type "tuple", data := .seq vs.toArray } (.tup (vs.toArray.toList.map toV)))) = _
  rw [if_neg (by decide)]
section
variable {P : Program} {w : World} {K : PySem.W.Frag} {h : Heap} {A : List Addr}
theorem argH_at {b : Addr} {o : Obj} (hb : b ∈ A) (hk : K.lookup b = none) (e : h.get? b = some o) : argH K h A b = hoOf o := by
  unfold argH
  rw [if_pos hb, hk, if_pos (show (none : Option Obj).isNone = true from rfl), e] <;> rfl
theorem of_argH {b : Addr} {u : HO} (q : argH K h A b = some u) : b ∈ A ∧ K.lookup b = none := by
  unfold argH at q
  by_cases hb : b ∈ A
  · rw [if_pos hb] at q
    cases hk : K.lookup b with
    | none => exact ⟨hb, rfl⟩
    | some o =>
      rw [hk, if_neg (by simp)] at q
      cases q
  · rw [if_neg hb] at q
    cases q
theorem argH_is (ar : ∀ a ∈ A, ArgOb h A a) {b : Addr} {u : HO} (q : argH K h A b = some u) : K.lookup b = none ∧ ∃ vs : List Value, vs.length ≤ sizeLine ∧ (∀ u ∈ vs, OkU A u) ∧
    ((h.get? b = some { cls := .type "list", data := .seq vs.toArray } ∧ u = .frz { cls := .type "list", data := .seq vs.toArray } (.lst (vs.map toV))) ∨
     (h.get? b = some { cls := .type "tuple", data := .seq vs.toArray } ∧ u = .frz { cls := .type "tuple", data := .seq vs.toArray } (.tup (vs.map toV)))) := by
  obtain ⟨hb, hk⟩ := of_argH q
  obtain ⟨vs, h1, h2, h3⟩ := ar b hb
  refine ⟨hk, vs, h1, h2, ?_⟩
  rcases h3 with e | e
  · rw [argH_at hb hk e, hoOf_lst] at q
    exact .inl ⟨e, (Option.some.inj q).symm⟩
  · rw [argH_at hb hk e, hoOf_tup] at q
    exact .inr ⟨e, (Option.some.inj q).symm⟩
theorem argH_only (ar : ∀ a ∈ A, ArgOb h A a) : OnlyF (argH K h A) := fun b => by
  cases q : argH K h A b with
  | none => exact .inl rfl
  | some u =>
    obtain ⟨_, vs, _, _, ⟨_, e⟩ | ⟨_, e⟩⟩ := argH_is ar q
    · exact .inr ⟨_, _, by rw [e]⟩
    · exact .inr ⟨_, _, by rw [e]⟩
theorem argH_ok (ar : ∀ a ∈ A, ArgOb h A a) : HOk P w (argH K h A) h := fun b u q => by
  obtain ⟨_, vs, h1, h2, ⟨e, rfl⟩ | ⟨e, rfl⟩⟩ := argH_is ar q
  · exact ⟨e, by rw [List.length_map]; exact h1, vs, _, vals_toV h2, e⟩
  · exact ⟨e, by rw [List.length_map]; exact h1, vs, vals_toV h2, _, e, rfl, _, rfl⟩
theorem seq_inj {c c' : Value} {vs us : List Value} (e : (some { cls := c, data := .seq vs.toArray } : Option Obj) = some { cls := c', data := .seq us.toArray }) : c = c' ∧ vs = us := by
  have e1 := Option.some.inj e
  have e2 : c = c' := congrArg Obj.cls e1
  have e3 : Data.seq vs.toArray = Data.seq us.toArray := congrArg Obj.data e1
  injection e3 with e4
  refine ⟨e2, ?_⟩
  have e5 := congrArg Array.toList e4
  simpa using e5
theorem argL (KX : K.In h) (ar : ∀ a ∈ A, ArgOb h A a) {a : Addr} {vs : List Value} (ha : a ∈ A) (e : h.get? a = some { cls := .type "list", data := .seq vs.toArray }) : (∀ u ∈ vs, OkU A u) ∧ SqL K (argH K h A) a (vs.map toV) := by
  obtain ⟨us, h1, h2, h3⟩ := ar a ha
  have hu : us = vs := by
    rcases h3 with q | q
    · rw [e] at q
      exact (seq_inj q).2.symm
    · rw [e] at q
      exact absurd (Value.type.inj (seq_inj q).1) (by decide)
  subst hu
  refine ⟨h2, ?_⟩
  cases hk : K.lookup a with
  | none => exact .inl (.inr ⟨_, by rw [argH_at ha hk e, hoOf_lst]⟩)
  | some o =>
    have e2 := KX a o hk
    rw [e] at e2
    obtain rfl := Option.some.inj e2
    exact .inr ⟨_, us.toArray, _, hk, rfl, rfl, rfl, by rw [List.size_toArray]; exact h1, by simpa using vals_toV h2⟩
theorem argT (KX : K.In h) (ar : ∀ a ∈ A, ArgOb h A a) {a : Addr} {vs : List Value} (ha : a ∈ A) (e : h.get? a = some { cls := .type "tuple", data := .seq vs.toArray }) : (∀ u ∈ vs, OkU A u) ∧ SqT K (argH K h A) a (vs.map toV) := by
  obtain ⟨us, h1, h2, h3⟩ := ar a ha
  have hu : us = vs := by
    rcases h3 with q | q
    · rw [e] at q
      exact absurd (Value.type.inj (seq_inj q).1) (by decide)
    · rw [e] at q
      exact (seq_inj q).2.symm
  subst hu
  refine ⟨h2, ?_⟩
  cases hk : K.lookup a with
  | none => exact .inl (.inr ⟨_, by rw [argH_at ha hk e, hoOf_tup]⟩)
  | some o =>
    have e2 := KX a o hk
    rw [e] at e2
    obtain rfl := Option.some.inj e2
    exact .inr ⟨_, us.toArray, _, hk, rfl, rfl, by rw [List.size_toArray]; exact h1, by simpa using vals_toV h2⟩
mutual
theorem dw_one {Pm : Params} (KX : K.In h) (ar : ∀ a ∈ A, ArgOb h A a) : ∀ (d : WData) (v : Value), Well Pm h v d → plW d = true → OkU A v → Dw K (argH K h A) (toV v) d
  | .none, _, x, _, _ => by
    cases x
    exact .non
  | .bool b, _, x, _, _ => by
    cases x
    exact .bl b
  | .int i, _, x, _, _ => by
    cases x
    exact .int i
  | .str s, _, x, _, _ => by
    cases x
    exact .str s
  | .bytes b, _, x, _, _ => by
    cases x
    have z := Dw.byt (K := K) (H := argH K h A) b.toArray
    exact z
  | .list ds, _, x, p, hu => by
    obtain ⟨a, vs, rfl, ho, hall⟩ := well_list x
    obtain ⟨h2, hs⟩ := argL KX ar hu ho
    exact .lst hs (dw_all KX ar ds _ hall p h2)
  | .tuple ds, _, x, p, hu => by
    obtain ⟨a, vs, rfl, ho, hall⟩ := well_tuple x
    obtain ⟨h2, hs⟩ := argT KX ar hu ho
    exact .tup hs (dw_all KX ar ds _ hall p h2)
  | .float _, _, _, p, _ => Bool.noConfusion (show false = true from p)
  | .dict _, _, _, p, _ => Bool.noConfusion (show false = true from p)
  | .bytearray _, _, _, p, _ => Bool.noConfusion (show false = true from p)
  | .set _, _, _, p, _ => Bool.noConfusion (show false = true from p)
  | .frozenset _, _, _, p, _ => Bool.noConfusion (show false = true from p)
  | .obj _ _, _, _, p, _ => Bool.noConfusion (show false = true from p)
theorem dw_all {Pm : Params} (KX : K.In h) (ar : ∀ a ∈ A, ArgOb h A a) : ∀ (ds : List WData) (vs : List Value), WellAll Pm h vs ds → plWs ds = true → (∀ u ∈ vs, OkU A u) → DwAll K (argH K h A) (vs.map toV) ds
  | [], _, x, _, _ => by
    cases x
    exact .nil
  | d :: ds, _, x, p, hu => by
    obtain ⟨v, vs, rfl, x1, x2⟩ := well_cons x
    have q : plW d = true ∧ plWs ds = true := Bool.and_eq_true_iff.mp p
    exact .cons (dw_one KX ar d v x1 q.1 (hu _ (List.mem_cons_self ..))) (dw_all KX ar ds vs x2 q.2 fun u m => hu u (List.mem_cons_of_mem _ m))
end
end
theorem spec_call {P : Program} {w : World} {K : PySem.W.Frag} {mg mb : Str → Option Value} {CX : CXT} {k : Nat} {fa : Addr} {fd : FuncData} {ps : List Str} {sp : Sp} {s₁ : Shared} {vals : List Value} {ds : List WData} {R : PySem.W.WRecords} {cl : Str → Option Addr} {d0 : WData}
    (KX : K.In s₁.heap) (hns : s₁.heap.Ns mainGlobals mg) (hb : s₁.heap.Ns builtinsNs mb) (hbb : ∀ x : Str, x ≠ "__name__" → mb x = bootBuiltins x) (hlim : s₁.heap.NoLimit) (hg : s₁.gens = #[])
    (hwl : WellAll w.params s₁.heap vals ds) (hpl : plWs ds = true) (hwt : ∀ d ∈ ds, d.weight ≤ 1048576) (hr : Room k callerA)
    (F : ∀ base : Heap, K.In base → base.Ns mainGlobals mg → FnOk P w K mg base CX k fa fd ps sp) (hbind : ∀ (s : Shared) (us : List Value), us.length = ps.length → BindsTo s fd ⟨us, []⟩ (ps.zip us)) (hlen : ds.length = ps.length)
    (hsp : ∀ (H : Hp) (xs : List V), OnlyF H → DwAll K H xs ds → sp xs H (fun v H' => Dw K H' v d0) fun _ _ _ => False)
    (hCX : ∀ H e s', CX [] H s₁ (fun _ _ _ => False) e s' → False) :
    codeAny (model P w) callerA (.call (.ref fa) ⟨vals, []⟩) (fun r s' => ∃ u as, r = .ok (.ret u) ∧ ReadsW R cl s'.heap u d0 as ∧ OldK s₁.heap s'.heap ∧ s'.os = s₁.os ∧ AllBare s'.gens) s₁ := by
  obtain ⟨A, ho, ar⟩ := area_all ds vals hwl hpl hwt
  have hO : OnlyF (argH K s₁.heap A) := argH_only ar
  have hok : HOk P w (argH K s₁.heap A) s₁.heap := argH_ok ar
  have hS := dw_all KX ar ds vals hwl hpl ho
  have hV := vals_toV ho
  have hK : ∀ b u, argH K s₁.heap A b = some u → K.lookup b = none := fun b u q => (argH_is ar q).1
  have noA : ∀ {b : Addr} {o : Obj} {es : Array DictEntry} {ep : Nat}, s₁.heap.get? b = some o → o.data = .dict es ep → argH K s₁.heap A b = none := fun {b o es ep} e d => by
    cases q : argH K s₁.heap A b with
    | none => rfl
    | some u =>
      obtain ⟨_, vs, _, _, ⟨e2, _⟩ | ⟨e2, _⟩⟩ := argH_is ar q
      · rw [e2] at e
        cases e
        have d' : Data.seq vs.toArray _ = Data.dict es ep := d
        cases d'
      · rw [e2] at e
        cases e
        have d' : Data.seq vs.toArray _ = Data.dict es ep := d
        cases d'
  generalize argH K s₁.heap A = H at hO hok hS hK noA
  have base_of : ∀ {b : Addr} {o : Obj}, s₁.heap.get? b = some o → H b = none → (hidT s₁.heap H).get? b = some o := fun e n => hidT_get e n
  have nsK : ∀ {b : Addr} {m : Str → Option Value}, s₁.heap.Ns b m → (hidT s₁.heap H).Ns b m := fun {b m} ⟨o, es, ep, e, d, r⟩ => ⟨o, es, ep, base_of e (noA e d), d, r⟩
  have nK : ∀ b o, K.lookup b = some o → H b = none := fun b o e => by
    cases q : H b with
    | none => rfl
    | some u =>
      rw [hK b u q] at e
      cases e
  have hKb : K.In (hidT s₁.heap H) := fun b o e => base_of (KX b o e) (nK b o e)
  have hM : Mod K mg (hidT s₁.heap H) := ⟨hKb, nsK hns, ⟨mb, nsK hb, hbb⟩, let ⟨mc, h1, h2⟩ := hlim; ⟨mc, nsK h1, h2⟩⟩
  have e0 : Env0 P w K mg (hidT s₁.heap H) callerA [] s₁ H := ⟨rfl, hM, fun b o e => of_hidT e, Nat.le_of_eq (hidT_size _ _), trivial, fun b hb => absurd (show b ∈ ([] : List Addr) from hb) (by simp), hok, .of_eq hg⟩
  have hl : vals.length = ps.length := by rw [wellAll_len hwl]; exact hlen
  refine codeAny_mono ((F _ hKb (nsK hns)).run callerA [] s₁ H ⟨vals, []⟩ vals (vals.map toV) _ _ hr e0 (hbind s₁ vals hl) hV (hsp H _ hO hS)) fun r s' x => ?_
  cases r with
  | error e => exact (hCX H e s' x).elim
  | ok fl =>
    cases fl with
    | next => exact False.elim x
    | brk => exact False.elim x
    | cont => exact False.elim x
    | ret u =>
      obtain ⟨v, H', os, bare, un, hok', r', q⟩ := x
      have kept : ∀ b o, s₁.heap.get? b = some o → s'.heap.get? b = some o := fun b o e => by
        cases q2 : H b with
        | none => exact un.keep b o e q2 (by intro z; exact absurd (show b ∈ ([] : List Addr) from z) (by simp)) (by simp)
        | some u2 =>
          rcases hO b with z | ⟨ob, u3, z⟩
          · rw [q2] at z
            cases z
          · have z2 := un.frzs b ob _ z
            obtain ⟨e1, _⟩ := hok b _ z
            obtain ⟨e2, _⟩ := hok' b _ z2
            rw [e] at e1
            cases e1
            exact e2
      have KX' : K.In s'.heap := fun b o e => kept b o (KX b o e)
      obtain ⟨as, hrd⟩ := Dw.reads (R := R) (cl := cl) hok' KX' d0 v u q r'
      exact ⟨u, as, rfl, hrd, OldK.of_keep kept, os, bare⟩
theorem layable_weight {ds : List WData} (h : WData.layableAll ds = true) : ∀ d ∈ ds, d.weight ≤ 1048576 := fun d hd =>
  (PySem.W.layableW_iff.mp (List.all_eq_true.mp h d hd)).2.2
theorem encAll_len : ∀ (cs : List Codec) (a : Codec.denoteAll cs), (Codec.encAll cs a).length = cs.length
  | [], _ => rfl
  | c :: cs, a => by
    show (Codec.encAll cs a.2).length + 1 = cs.length + 1
    rw [encAll_len cs a.2]
theorem walk_spec {r : OpenSpec} {k : Nat} {q : Program} {loose : List Str} {XP : (Str → Option Value) → Heap → Prop} {YP : World → Heap → Prop} {d : DefRec} {K : Params → PySem.W.Frag} {CX : World → CXT} {ps : List Str} {sp : World → Sp}
    (hwell : r.wellSaid = true) (hdf : d.params.defaults = []) (hlen : r.args.length = ps.length) (hr : Room k callerA)
    (hY : ∀ (w : World) (h : Heap), YP w h → (K w.params).In h)
    (F : ∀ (w : World) (mg : Str → Option Value) (fa : Addr) (h : Heap), YP w h → (K w.params).In h → h.Ns mainGlobals mg → mg d.name = some (.ref fa) →
      ∃ fd : FuncData, (∀ (s : Shared) (us : List Value), us.length = ps.length → BindsTo s fd ⟨us, []⟩ (ps.zip us)) ∧
        ∀ base : Heap, (K w.params).In base → base.Ns mainGlobals mg → FnOk r.prog w (K w.params) mg base (CX w) k fa fd ps (sp w))
    (hsp : ∀ (w : World) (H : Hp) (xs : List V) (a : Codec.denoteAll r.args), OnlyF H → Codec.withinAll r.args a = true → Codec.app r.args r.asked a = true → DwAll (K w.params) H xs (Codec.encAll r.args a) →
      sp w xs H (fun v H' => Dw (K w.params) H' v (r.ret.enc (Codec.app r.args r.f a))) fun _ _ _ => False)
    (hCX : ∀ (w : World) (H : Hp) (s : Shared) (e : Value) (s' : Shared), CX w [] H s (fun _ _ _ => False) e s' → False) :
    PySem.W.WalkOS q loose XP YP r d [] (fun f vs => PySem.call f vs) := by
  intro w s_0 s₁ mg mb G Y fa o pm cd doc dV kV ho hd hcd hD hmg hg args vals as hpre hlay hrd hwl hlo
  obtain ⟨a, e1, e2⟩ := PySem.W.os_pre_some hpre
  obtain ⟨e3, hwi⟩ := Codec.encAll_of_decAll r.args args a e1
  subst e3
  have KX := hY w _ Y
  obtain ⟨fd, hb, hF⟩ := F w mg fa _ Y KX G.T.g hmg
  refine PySem.W.enter_call (codeAny_mono (spec_call (R := []) (cl := classAt s_0.heap) (d0 := r.ret.enc (Codec.app r.args r.f a)) KX G.T.g G.T.b G.T.builtins G.T.nolimit hg hwl (pl_encAll _ _) (layable_weight hlay) hr hF hb (by rw [encAll_len]; exact hlen)
    (fun H xs hO hS => hsp w H xs a hO hwi e2 hS) fun H e s' => hCX w H s₁ e s') fun r' s' hq => ?_)
  obtain ⟨u, as', rfl, h1, h2, h3, h4⟩ := hq
  exact ⟨.inl ⟨u, _, as', rfl, fun _ => rfl, h1, (OpenSpec.post_iff hwell hwi _ _).mpr rfl, fun z => Bool.noConfusion (show false = true from z)⟩, h2, h3, h4⟩
theorem walk_specK {r : OpenSpec} {k : Nat} {q : Program} {loose : List Str} {XP : (Str → Option Value) → Heap → Prop} {YP : World → Heap → Prop} {d : DefRec} {K : Params → PySem.W.Frag} {CX : CXT} {ps : List Str} {sp : PySem.W.Frag → Sp}
    (hwell : r.wellSaid = true) (hdf : d.params.defaults = []) (hlen : r.args.length = ps.length) (hr : Room k callerA)
    (hY : ∀ (w : World) (h : Heap), YP w h → (K w.params).In h)
    (F : ∀ (w : World) (mg : Str → Option Value) (fa : Addr) (h : Heap), YP w h → (K w.params).In h → h.Ns mainGlobals mg → mg d.name = some (.ref fa) →
      ∃ fd : FuncData, (∀ (s : Shared) (us : List Value), us.length = ps.length → BindsTo s fd ⟨us, []⟩ (ps.zip us)) ∧
        ∀ base : Heap, (K w.params).In base → base.Ns mainGlobals mg → FnOk r.prog w (K w.params) mg base CX k fa fd ps (sp (K w.params)))
    (hsp : ∀ (K : PySem.W.Frag) (H : Hp) (xs : List V) (a : Codec.denoteAll r.args), OnlyF H → Codec.withinAll r.args a = true → Codec.app r.args r.asked a = true → DwAll K H xs (Codec.encAll r.args a) →
      sp K xs H (fun v H' => Dw K H' v (r.ret.enc (Codec.app r.args r.f a))) fun _ _ _ => False)
    (hCX : ∀ (H : Hp) (s : Shared) (e : Value) (s' : Shared), CX [] H s (fun _ _ _ => False) e s' → False) :
    PySem.W.WalkOS q loose XP YP r d [] (fun f vs => PySem.call f vs) :=
  walk_spec (K := K) (CX := fun _ => CX) (sp := fun w => sp (K w.params)) hwell hdf hlen hr hY F (fun w H xs a h1 h2 h3 h4 => hsp (K w.params) H xs a h1 h2 h3 h4) fun _ H s e s' => hCX H s e s'
end L2
set_option maxHeartbeats 2000000
namespace L2
open PySem PySem.Spec PyProof.Rows
structure Fn (P : Program) (w : World) (K : PySem.W.Frag) (mg : Str → Option Value) (base : Heap) (k : Nat) (x : Str) (ps : List Str) (sp : Sp) : Prop where
  ex : ∃ (f : Addr) (fd : FuncData), FnOk P w K mg base CX0 k f fd ps sp ∧ mg x = some (.ref f) ∧ PySem.W.keepIn K (.ref f) = true ∧ Binds K fd ps []
structure Mt (P : Program) (w : World) (K : PySem.W.Frag) (mg : Str → Option Value) (base : Heap) (C : Addr) (k : Nat) (m : Str) (ps : List Str) (sp : Sp) : Prop where
  ex : ∃ (f : Addr) (fd : FuncData), FnOk P w K mg base CX0 k f fd ps sp ∧ Meth K C m f ∧ Binds K fd ps [] ∧ Cls K C
structure FunG (K : PySem.W.Frag) (mg : Str → Option Value) (x : Str) (st : Stmt) (ps : List Str) : Prop where
  ex : ∃ (f : Addr) (fd : FuncData), Fun K x x st f fd ∧ mg x = some (.ref f) ∧ Binds K fd ps []
structure MthG (K : PySem.W.Frag) (C : Addr) (x qual : Str) (st : Stmt) (ps : List Str) : Prop where
  ex : ∃ (f : Addr) (fd : FuncData), Fun K x qual st f fd ∧ Meth K C x f ∧ Binds K fd ps []
section
variable {P : Program} {w : World} {K : PySem.W.Frag} {mg : Str → Option Value} {base : Heap}
theorem Fn.mono {j k : Nat} {x : Str} {ps : List Str} {sp : Sp} (F : Fn P w K mg base j x ps sp) (h : j ≤ k) : Fn P w K mg base k x ps sp := by
  obtain ⟨f, fd, a, b⟩ := F.ex
  exact ⟨f, fd, a.mono h, b⟩
theorem FunG.ok {x : Str} {st : Stmt} {N ps : List Str} {k : Nat} {sp : Sp} (G : FunG K mg x st ps) (S : FnScope N ps (defScope st)) (len : ∀ vs H Q E, sp vs H Q E → vs.length = ps.length)
    (hbody : ∀ (f : Addr) (cdv : Value) (A : Around) (outer : List Env) (s : Shared) (H : Hp) (vs : List V) (Q : VK) (E : XK), Room k (A.deeper (envOfC x (defScope st) s.heap.objs.size f cdv)) → sp vs H Q E →
      ∃ t, PSs (cxOf CX0 P w K mg base N x (defScope st) f cdv A outer s H E).nox (defBody st) t ∧ t { nx := fun _ H' => Q .non H', rt := Q } (start N vs) H) : Fn P w K mg base (k + 1) x ps sp := by
  obtain ⟨f, fd, F, hm, hb⟩ := G.ex
  exact ⟨f, fd, F.ok S len (hbody f), hm, F.kp, hb⟩
theorem MthG.ok {C : Addr} {x qual : Str} {st : Stmt} {N ps : List Str} {k : Nat} {sp : Sp} (G : MthG K C x qual st ps) (c : Cls K C) (S : FnScope N ps (defScope st)) (len : ∀ vs H Q E, sp vs H Q E → vs.length = ps.length)
    (hbody : ∀ (f : Addr) (cdv : Value) (A : Around) (outer : List Env) (s : Shared) (H : Hp) (vs : List V) (Q : VK) (E : XK), Room k (A.deeper (envOfC qual (defScope st) s.heap.objs.size f cdv)) → sp vs H Q E →
      ∃ t, PSs (cxOf CX0 P w K mg base N qual (defScope st) f cdv A outer s H E).nox (defBody st) t ∧ t { nx := fun _ H' => Q .non H', rt := Q } (start N vs) H) : Mt P w K mg base C (k + 1) x ps sp := by
  obtain ⟨f, fd, F, hm, hb⟩ := G.ex
  exact ⟨f, fd, F.ok S len (hbody f), hm, hb, c⟩
end
section
variable {X : Cx} {k : Nat} {C : Addr} {ps : List Str} {sp : Sp} {x m : Str} {p pos apos : Pos} {e o : Expr} {es : List Expr} {ta : TE} {t : TA}
theorem pe_fn (F : Fn X.prog X.w X.K X.mg X.base k x ps sp) (hr : Room k X.A) (hg : Gl X x) (ha : PA X (e :: es) t) (hdb : (x == ("__debug__" : Str)) = false := by decide)
    (he : starEach (e :: es) X.env = (false, eval e X.env) :: starEach es X.env := by rfl) (hpl : (backTo pos (starEach es X.env)).any (·.1) = false := by rfl) :
    PE X (.Call (.Name x p) (e :: es) [] pos) (tCall sp [] E0 t) := by
  obtain ⟨f, fd, a, b, c, d⟩ := F.ex
  exact pe_call a hr hg b c d .nil pass0 ha hdb he hpl
theorem pe_mt {pl : Sem Bool} (he : PE X o ta) (F : Mt X.prog X.w X.K X.mg X.base C k m ps sp) (hr : Room k X.A) (ha : PA X (e :: es) t)
    (hst : starEach (e :: es) X.env = (false, eval e X.env) :: starEach es X.env := by rfl) (hpl : (backTo pos (starEach es X.env)).any (·.1) = false := by rfl)
    (ht : eval (.Call (.Attribute o m apos) (e :: es) [] pos) X.env = (do
      let ov ← eval o X.env
      standAt apos.atName
      let (f, first) ← holding [ov] (getMethod ov m pl)
      callWith pos f first (backTo pos (starEach (e :: es) X.env)) (backToKw pos (keywordEach [] X.env))) := by rfl) :
    PE X (.Call (.Attribute o m apos) (e :: es) [] pos) (tMeth C m sp [] E0 ta t) := by
  obtain ⟨f, fd, a, b, c, d⟩ := F.ex
  exact pe_meth he d b a hr c .nil pass0 ha hst hpl ht
theorem pe_mt0 {pl : Sem Bool} (he : PE X o ta) (F : Mt X.prog X.w X.K X.mg X.base C k m ps sp) (hr : Room k X.A)
    (ht : eval (.Call (.Attribute o m apos) [] [] pos) X.env = (do
      let ov ← eval o X.env
      standAt apos.atName
      let (f, first) ← holding [ov] (getMethod ov m pl)
      callWith pos f first (backTo pos (starEach [] X.env)) (backToKw pos (keywordEach [] X.env))) := by rfl) :
    PE X (.Call (.Attribute o m apos) [] [] pos) (tMeth C m sp [] E0 ta tNil) := by
  obtain ⟨f, fd, a, b, c, d⟩ := F.ex
  exact pe_meth0 he d b a hr c .nil pass0 ht
def tDyn (P : Program) (w : World) (K : PySem.W.Frag) (mg : Str → Option Value) (base : Heap) (A : Around) (i : Nat) (t : TA) : TE := fun σ H Q => ∃ (x : Str) (k : Nat) (ps : List Str) (sp : Sp) (f : Addr), σ[i]? = some (some (.ref f)) ∧
  mg x = some (.ref f) ∧ Fn P w K mg base k x ps sp ∧ Room k A ∧ t σ H fun vs H1 => sp vs H1 Q E0
theorem pe_dyn {i : Nat} (hN : X.N[i]? = some x) (hv : Vis X.env.scope x) (ha : PA X (e :: es) t) (hd : (x == ("__debug__" : Str)) = false := by decide) (hcd : (x == ("__classdict__" : Str)) = false := by decide)
    (he : starEach (e :: es) X.env = (false, eval e X.env) :: starEach es X.env := by rfl) (hpl : (backTo pos (starEach es X.env)).any (·.1) = false := by rfl) :
    PE X (.Call (.Name x p) (e :: es) [] pos) (tDyn X.prog X.w X.K X.mg X.base X.A i t) := by
  intro pins s σ H Q I h
  obtain ⟨y, k, ps, sp, f, hs, hm, F, hr, q⟩ := h
  obtain ⟨f', fd, a, b, c, d⟩ := F.ex
  have ef : f' = f := by rw [hm] at b; cases b; rfl
  subst ef
  refine wpAny_Call_Name_kw (thn (pe_var hN hv hd hcd pins s σ H (fun v H1 => v = .ref f' ∧ H1 = H) I ⟨_, hs, rfl, rfl⟩) fun u s1 z => ?_)
  obtain ⟨v, H1, I1, rv, rfl, rfl⟩ := z
  cases rv
  refine PySem.W.callWith_K (h₀ := X.base) I1.ok.mod.kin c (thn (ha pos pins s1 σ _ _ I1 q) fun us s2 ⟨vs, H2, I2, r, q2⟩ => ⟨I2.kIn, ?_⟩) he hpl
  exact run_fn a hr d .nil pass0 I2 r (by rw [List.append_nil]; exact q2)
end
section
variable {prog : Program} {w : World} {A : Around} {E : Value → Shared → Prop} {s : Shared} {d : Addr} {o : Obj} {es : Array DictEntry} {ep : Nat}
theorem len_dictO {Q : Value → Shared → Prop} (hd : (d == sysModules) = false) (ho : s.heap.get? d = some o) (hc : o.ExactDict) (hdat : o.data = .dict es ep) (hfit : (es.size : Int) < 2 ^ 63)
    (h : Q (.int es.size (s.toks + 1)) { s with toks := s.toks + 1 + 1 }) : wpAny (model prog w) A (call (.builtin "len") [.ref d]) Q E s := by
  have hT : s.TypeIs (.ref d) "dict" := ⟨o, ho, hc.1⟩
  refine Calls.call_function_entry kind_len plain_len entry_len (args_len1 _) ?_
  unfold Builtin.«len»
  refine wpAny_bind (m := oneArg "len" _) (wpAny_pure ?_)
  refine wpAny_bind (m := callSpecial? (.ref d) (Str.ofString "__len__")) (wpAny_callSpecial?_slot (name := Str.ofString "__len__") hT F.slot_dict_len
    (wpAny_call_entry F.slot_dict_len hT F.entry_dict_len ?_ (F.args_dict_len_1 _)))
  show wpAny _ _ (dictSize d >>= _) _ _ s
  unfold dictSize
  refine wpAny_bind (wpAny_bind (wpAny_dictEntries ho hdat (wpAny_pure ?_)))
  show wpAny _ _ (Builtin.Dict.pendingCount d >>= _) _ _ s
  refine wpAny_bind (wpAny_pendingCount_other hd ?_)
  refine wpAny_bind (wpAny_mkInt (wpAny_pure ⟨_, rfl, ?_⟩))
  rw [Nat.add_zero]
  refine wpAny_bind (wpAny_holding (wpAny_pure ?_))
  refine wpAny_bind (wpAny_letGo ?_)
  show wpAny _ _ (if ((es.size : Nat) : Int) < 0 then _ else _) _ _ _
  rw [if_neg (by omega)]
  show wpAny _ _ (if ((es.size : Nat) : Int) ≥ 2 ^ 63 then _ else _) _ _ _
  rw [if_neg (by omega)]
  exact wpAny_bind (wpAny_mkInt (wpAny_pure ⟨_, rfl, h⟩))
theorem walks_keysO (hh : A.handled = none) (I d : Addr) (hne : d ≠ I) (hd : o.data = .dict es ep) :
    Walks prog w A I [I, d] [I] es.size (fun i v => ∃ en, es[i]? = some en ∧ v = en.key) (fun i h => h.IsKeyIter I d i es.size ep ∧ h.get? d = some o) where
  sub := fun b hb => by simp at hb; simp [hb]
  frame := fun _ _ _ st hk => ⟨st.1.at fun o e => hk I (by simp) o e, hk d (by simp) _ st.2⟩
  item := fun i s Q E hi st hQ => by
    obtain ⟨en, hx⟩ : ∃ p, es[i]? = some p := ⟨es[i], by simp [hi]⟩
    refine next_key_item st.1 st.2 hd rfl hx fun h' hit' hs' => ?_
    exact hQ en.key h' s.toks ⟨en, hx, rfl⟩ ⟨hit', (hs'.2 d hne).trans st.2⟩ fun b o hb e => hs'.extBut b o (fun h => hb (by simp [h])) e
  done := fun s Q E st hQ => next_key_end hh st.1 st.2 hd rfl (Nat.le_refl _) fun h' he' => hQ h' s.toks fun b o hb e => he' b o (fun h => hb (by simp [h])) e
  self := fun _ _ _ _ st hQ => wpAny_pyIter_keyiter st.1 hQ
theorem src_keysO (lo : (d == sysModules) = false) (hc : o.ExactDict) (hd : o.data = .dict es ep) :
    PySem.W.KdlSrc prog w "dict" d d es.size (fun i v => ∃ en, es[i]? = some en ∧ v = en.key) (fun h => h.get? d = some o) where
  type := fun _ e => ⟨o, e, hc.1⟩
  there := fun _ e => ⟨Heap.lt_size e, Heap.lt_size e⟩
  keep := fun _ _ e k => k d (.inl rfl) o e
  notList := by decide
  notTuple := by decide
  hint := fun _ _ _ _ e hq => PySem.W.kdl_hint_dict ⟨o, e, hc.1⟩ hq
  iter := fun _ _ hh e => ⟨_, _, (fun _ _ hq => iter_keys lo e hc hd hq), walks_keysO hh _ d (Nat.ne_of_lt (Heap.lt_size e)) hd, ⟨⟨_, Heap.get?_push_size _ rfl, rfl, rfl⟩, Heap.get?_push_of_some _ e⟩⟩
theorem collect_src {T : String} {r : Addr} {n : Nat} {P : Nat → Value → Prop} {OK : Heap → Prop} {Q : List Value → Shared → Prop} (K : PySem.W.KdlSrc prog w T r d n P OK) (hh : A.handled = none) (hok : OK s.heap) (hn : n ≤ sizeLine)
    (hQ : ∀ h' tk acc, s.heap.objs.size < h'.objs.size → (∀ b o, s.heap.get? b = some o → h'.get? b = some o) → ItemsOf P acc n → Q acc.toList { s with heap := h', toks := tk }) : wpAny (model prog w) A (collect (.ref r)) Q E s := by
  unfold collect
  refine wpAny_bind (wpAny_runValue (codeAny_builtin entry_proto_collect' ?_))
  show wpAny _ _ (do again (.builtin "list.__iadd__" ⟨[← newList [], .ref r], []⟩)) _ _ s
  have hlt := K.there s.heap hok
  refine wpAny_bind (wpAny_newList (wpAny_pure ⟨Code.quiet_builtin _ (by decide +kernel), codeAny_builtin entry_list_iadd' ?_⟩))
  show wpAny _ _ (Builtin.List.listExtendWith (.ref s.heap.objs.size) (.ref r) (.ref s.heap.objs.size)) _ _ { s with heap := s.heap.push (seqObj "list" #[] 0) }
  rw [Around.under_plainId F.plain_list_iadd _]
  have fin : ∀ h' tk acc c', (∀ b o, b ≠ s.heap.objs.size → (s.heap.push (seqObj "list" #[] 0)).get? b = some o → h'.get? b = some o) → h'.get? s.heap.objs.size = some { cls := .type "list", dict := none, data := .seq acc c', slots := #[] } → ItemsOf P acc n →
      wpAny (model prog w) A (do
      let o ← load s.heap.objs.size
      match o.data with
      | .seq xs _ => pure xs.toList
      | _ => unsupported "internal:collect") Q E { s with heap := h', toks := tk } := fun h' tk acc c' hk hS hacc => by
    refine wpAny_bind (wpAny_load hS ?_)
    exact wpAny_pure (hQ h' tk acc (Heap.lt_size hS) (fun b o e => hk b o (Nat.ne_of_lt (Heap.lt_size e)) (Heap.get?_push_of_some _ e)) hacc)
  refine wpAny_mono (PySem.W.kdl_extend K (s := { s with heap := s.heap.push (seqObj "list" #[] 0) }) (R := fun r' s' => ∃ h' tk acc c', r' = .ok (.ret (.ref s.heap.objs.size)) ∧ s' = { s with heap := h', toks := tk } ∧
      (∀ b o, b ≠ s.heap.objs.size → (s.heap.push (seqObj "list" #[] 0)).get? b = some o → h'.get? b = some o) ∧ h'.get? s.heap.objs.size = some { cls := .type "list", dict := none, data := .seq acc c', slots := #[] } ∧ ItemsOf P acc n)
    hh (K.keep _ _ hok fun b _ o e => Heap.get?_push_of_some _ e) s.heap.objs.size (Nat.ne_of_gt hlt.1) (Nat.ne_of_gt hlt.2) (.ref s.heap.objs.size) 0 (Heap.get?_push_size _ rfl) (fun h' tk acc c' hk hS hacc => ⟨h', tk, acc, c', rfl, rfl, hk, hS, hacc⟩) hn) (fun fn s' z => ?_) (fun e s' z => ?_)
  · cases fn with
    | done f =>
      obtain ⟨h', tk, acc, c', e, rfl, hk, hS, hacc⟩ := z
      cases e
      exact fin h' tk acc c' hk hS hacc
    | again c =>
      refine ⟨z.1, codeAny_mono z.2 fun r' s'' z' => ?_⟩
      obtain ⟨h', tk, acc, c', e, rfl, hk, hS, hacc⟩ := z'
      cases e
      exact fin h' tk acc c' hk hS hacc
  · obtain ⟨_, _, _, _, e, _⟩ := z
    cases e
theorem sorted_dictO {shape : Nat → Bool} {fs vs : List Value} {Q : Value → Shared → Prop} (hh : A.handled = none) (lo : (d == sysModules) = false) (ho : s.heap.get? d = some o) (hc : o.ExactDict) (hd : o.data = .dict es ep) (hvs : es.toList.map (·.key) = vs) (hL : vs.length ≤ sizeLine)
    (ht : TupsOf s.heap shape vs fs) (hk : ∀ v, v ∈ vs → ∃ l, PyProof.Rows.G.tupKeyC s.heap shape v = some l)
    (h : ∀ (h' : Heap) (tk : Nat) (p e : Nat) (arr : Array Keyed), arr.Perm (pairsOf vs) → SortedToK (PyProof.Rows.G.tupKindC s.heap shape) arr (pairsOf vs).size → (∀ b o, s.heap.get? b = some o → h'.get? b = some o) → s.heap.objs.size ≤ p →
      h'.get? p = some (seqObj "list" (arr.map (·.2)) e) → Q (.ref p) { s with heap := h', toks := tk }) :
    wpAny (model prog w) A (call (.builtin "sorted") [.ref d]) Q E s := by
  refine Calls.call_function_entry kind_sorted plain_sorted entry_sorted (args_sorted1 _) ?_
  unfold Builtin.«sorted»
  refine wpAny_bind (m := checkCount "sorted" 1 1 _) (wpAny_pure ?_)
  have hsz : es.size = vs.length := by rw [← hvs, List.length_map, Array.length_toList]
  refine wpAny_bind (collect_src (s := s) (src_keysO lo hc hd) hh ho (by rw [hsz]; exact hL) fun h1 tk acc hlt1 k1 hacc => ?_)
  have eacc : acc.toList = vs := by
    rw [← hvs]
    apply List.ext_getElem?
    intro i
    rw [List.getElem?_map, Array.getElem?_toList, Array.getElem?_toList]
    by_cases hi : i < es.size
    · have h1 : i < acc.size := by rw [hacc.1]; exact hi
      obtain ⟨en, e1, e2⟩ := hacc.2 i acc[i] (Array.getElem?_eq_getElem h1)
      rw [e1, Array.getElem?_eq_getElem h1, e2]
      rfl
    · have h1 : ¬ i < acc.size := by rw [hacc.1]; exact hi
      rw [Array.getElem?_eq_none (by omega), Array.getElem?_eq_none (by omega)]
      rfl
  rw [eacc]
  refine wpAny_bind (wpAny_newList ?_)
  show wpAny _ _ _ _ _ { s with heap := h1.push (seqObj "list" vs.toArray 0), toks := tk }
  have hoL : (h1.push (seqObj "list" vs.toArray 0)).get? h1.objs.size = some (seqObj "list" vs.toArray 0) := Heap.get?_push_size _ rfl
  have kk : ∀ b o, s.heap.get? b = some o → (h1.push (seqObj "list" vs.toArray 0)).get? b = some o := fun b o e => Heap.get?_push_of_some _ (k1 b o e)
  have kt : PyProof.Rows.G.KeepsTups s.heap (h1.push (seqObj "list" vs.toArray 0)) := fun b o e _ => kk b o e
  have hle : s.heap.objs.size ≤ h1.objs.size := Nat.le_of_lt hlt1
  refine wpAny_bind (wpAny_holding (wpAny_call_entry slot_list_sort ⟨_, hoL, rfl⟩ entry_list_sort
    (PyProof.Rows.G.list_sort_treeG (s := { s with heap := h1.push (seqObj "list" vs.toArray 0), toks := tk }) (κ := PyProof.Rows.G.tupKindC s.heap shape) (kd := tuples' true) hoL (PyProof.Rows.G.tupKeys hk)
      (PyProof.Rows.G.tupC_ltAt (s := { s with heap := PyProof.Rows.G.sortHeap6 (h1.push (seqObj "list" vs.toArray 0)) h1.objs.size vs, toks := tk }) true (kt.trans (PyProof.Rows.G.keeps_sort6 hoL)))
      (fun h2 _ hq => tup_kind (s := { s with heap := PyProof.Rows.G.sortHeap6 (h1.push (seqObj "list" vs.toArray 0)) h1.objs.size vs, toks := tk }) (by rw [PyProof.Rows.G.TupsOf.length ht]; omega) (PyProof.Rows.G.TupsOf.keep (kt.trans (PyProof.Rows.G.keeps_sort6 hoL)) ht) hq) hL fun st' a1 a2 a3 => ⟨_, rfl, ?_⟩) (args_list_sort _)))
  obtain ⟨ee, hat⟩ := sortedHeap_at (vs := vs) (out := (arrOf st').map (·.2)) hoL
  refine wpAny_pure ⟨_, rfl, h _ tk h1.objs.size ee (arrOf st') a1 a2 (fun b o e => ?_) hle hat⟩
  have hb : b < h1.objs.size := Heap.lt_size (k1 b o e)
  rw [sortedHeap_old (Nat.ne_of_lt hb) (by show b < (h1.push _).objs.size; rw [size_push']; exact Nat.lt_succ_of_lt hb)]
  exact kk b o e
end
section
variable {X : Cx}
theorem call_lenT : CallR X (.builtin "len") (fun xs H Q => ∃ a kvs, xs = [V.ref a] ∧ H a = some (.dT kvs) ∧ Q (.int kvs.length) H) := by
  intro pins s σ H xs us Q I r h
  obtain ⟨a, kvs, rfl, ha, q⟩ := h
  obtain ⟨u, rfl, ru⟩ := vals1 r
  cases ru
  obtain ⟨z, hd, ys, rel, o, es, ep, ho, hc, hdat, he, hk, hn⟩ := dt_of I.hok ha
  have hl : kvs.length = ys.length := Paired.length rel
  have hes : es.size = ys.length := size_of_entries he
  have hs := sizeLine_eq
  refine len_dictO hd ho hc hdat (by omega) ?_
  exact ⟨.int (kvs.length : Nat), H, I.tok _, ⟨_, by rw [hl, hes]⟩, q⟩
def rExtendT (K : PySem.W.Frag) : V → List V → Hp → VK → Prop := fun x vs H Q => ∃ l b xs zs, x = .ref l ∧ vs = [.ref b] ∧ H l = some (.lst xs) ∧ SqT K H b zs ∧ xs.length + zs.length ≤ sizeLine ∧ Q .non (upd H l (.lst (xs ++ zs)))
open AutoSeq1 in
theorem extend_tupO (l : Addr) (items : Array Value) (n : Nat) (b : Addr) (items2 : Array Value) (n2 : Nat) (dd : Option Addr) (sl : Array (Option Value)) (hs0 : ¬(!items.isEmpty && Builtin.List.listTooLong (items.size + items2.size)) = true) (hs1 : items.size ≤ sizeLine) (hs2 : items.size + items2.size ≤ sizeLine + 1) :
    Meets (Builtin.«list.extend» ⟨[.ref l, .ref b], []⟩) (fun _ R s => s.heap.get? l = some { cls := .type "list", dict := none, data := .seq items n, slots := #[] } ∧ s.heap.get? b = some { cls := .type "tuple", dict := dd, data := .seq items2 n2, slots := sl } ∧ R (.ok (.ret Value.none)) { s with heap := s.heap.update l (Obj.mapSeq fun x => x ++ items2), toks := s.toks }) :=
  .of_wp fun prog w A R s h => by
    obtain ⟨hp, g, d, tk, os⟩ := s; obtain ⟨hl, hb, h⟩ := h
    have hz' : (items ++ items2).size ≤ sizeLine + 1 := by rw [Array.size_append]; exact hs2
    wp_walk using (wpAny_updateSeq hl rfl (hz := hs1) (_hz' := hz')), wpAny_loadPart' hl, wpAny_loadPart' hb; exact ⟨_, rfl, h⟩
theorem mt_extendT : MtM X "list.extend" (rExtendT X.K) := by
  intro pins s σ H x vs v us Q I rx rv h
  obtain ⟨l, b, xs, zs, rfl, rfl, hH, hB, hz, q⟩ := h
  cases rx
  obtain ⟨u, rfl, ru⟩ := rv.one
  cases ru
  obtain ⟨z, its, n, r, hl, e⟩ := I.lstM hH
  obtain ⟨its2, r2, ⟨⟨c2, d2, da2, sl2⟩, e2, hc2, n2, hd2⟩, z2⟩ := I.tuple hB
  simp only at hc2 hd2
  subst hc2 hd2
  have hl2 := r2.length
  have hsz : its.toArray.size + its2.toArray.size ≤ sizeLine := by rw [List.size_toArray, List.size_toArray]; omega
  have hlong : ¬ (!its.toArray.isEmpty && Builtin.List.listTooLong (its.toArray.size + its2.toArray.size)) = true := by
    rw [notLongL hsz, Bool.and_false]
    exact Bool.false_ne_true
  refine call_meets F.slot_list_extend ⟨_, e, rfl⟩ F.entry_list_extend (F.args_list_extend_2 _ _)
    (extend_tupO l its.toArray n b its2.toArray n2 d2 sl2 hlong (by rw [List.size_toArray]; omega) (by omega)) ⟨e, e2, ?_⟩
  refine ⟨.non, _, I.lset (its' := its ++ its2) hH e (by simp) (r.append r2) ?_, rfl, q⟩
  rw [List.length_append]
  omega
end
abbrev spK (x : Nat × Nat) : List Key := [.inl (x.1 : Int), .inl (x.2 : Int)]
abbrev spV (x : Nat × Nat) : List V := [.int (x.1 : Int), .int (x.2 : Int)]
def sh0 : Nat → Bool := fun _ => false
section
variable {X : Cx} {pins : List (Addr × Obj)} {σ : St} {H : Hp} {s : Shared}
theorem tkey_of (I : Inv X pins σ H s) {q : Addr} {x : Nat × Nat} (h : H q = some (.tup (spV x))) : PyProof.Rows.G.tupKeyC s.heap sh0 (.ref q) = some [Sum.inl (x.1 : Int), Sum.inl (x.2 : Int)] := by
  obtain ⟨its, r, ⟨o, ho, hc, n, hd⟩, _⟩ := I.tuple (SqT.of h)
  obtain ⟨u, v, rfl, ⟨t1, rfl⟩, ⟨t2, rfl⟩⟩ := r.two
  exact PyProof.Rows.G.tupKeyC_of ho hc hd rfl
theorem spd_reads (I : Inv X pins σ H s) {q : Addr} {x : Nat × Nat} (h : H q = some (.tup (spV x))) : ∃ as, Reads s.heap (.ref q) (.tuple [.int (x.1 : Int), .int (x.2 : Int)]) as :=
  Dp.reads I _ (.ref q) _ (.tup (SqT.of h) (.cons (.int _) (.cons (.int _) .nil))) rfl
theorem sp_eqAt (I : Inv X pins σ H s) {A : Around} (hu : A.units + 64 < cLine) {q r : Addr} {x y : Nat × Nat} (h : H q = some (.tup (spV x))) (h' : H r = some (.tup (spV y))) : SeqAt.EqAt A s (.ref q) (.ref r) (decide (x = y)) := by
  obtain ⟨as, r1⟩ := spd_reads I h
  obtain ⟨bs, r2⟩ := spd_reads I h'
  have z := SeqAt.eqAt_reads _ _ A s _ _ as bs r1 r2 rfl rfl (by
    have e1 : (PyData.tuple [.int (x.1 : Int), .int (x.2 : Int)]).depth ≤ 64 := (by decide : 1 ≤ 64)
    omega)
  have e : PyData.eqv (.tuple [.int (x.1 : Int), .int (x.2 : Int)]) (.tuple [.int (y.1 : Int), .int (y.2 : Int)]) = decide (x = y) := by
    show (((x.1 : Int) == (y.1 : Int)) && (((x.2 : Int) == (y.2 : Int)) && true)) = decide (x = y)
    obtain ⟨a, b⟩ := x
    obtain ⟨c, d⟩ := y
    by_cases h1 : a = c
    · by_cases h2 : b = d
      · subst h1 h2; simp
      · have : ¬ ((b : Int) = (d : Int)) := by omega
        simp [h1, h2, this]
    · have : ¬ ((a : Int) = (c : Int)) := by omega
      simp [h1, this]
  rw [e] at z
  exact z
end
section
variable {X : Cx}
def rIndexT (K : PySem.W.Frag) : V → List V → Hp → VK → Prop := fun x xs H Q => ∃ (a : Addr) (ps : List Addr) (ks : List (Nat × Nat)) (y : Addr) (k : Nat × Nat) (j : Nat), x = V.ref a ∧ xs = [.ref y] ∧ H a = some (.lst (ps.map V.ref)) ∧ Paired (fun p k => H p = some (.tup (spV k))) ps ks ∧
  H y = some (.tup (spV k)) ∧ ks[j]? = some k ∧ (∀ m, m < j → ks[m]? ≠ some k) ∧ Q (.int (j : Nat)) H
theorem paired_get2 {α β : Type} {G : α → β → Prop} {l₁ : List α} {l₂ : List β} (h : Paired G l₁ l₂) : ∀ {i : Nat} {b : β}, l₂[i]? = some b → ∃ a, l₁[i]? = some a ∧ G a b := by
  induction h with
  | nil => intro i b e; simp at e
  | @cons a b l m g t ih =>
    intro i c e
    cases i with
    | zero => simp at e; subst e; exact ⟨a, rfl, g⟩
    | succ i => simp at e; obtain ⟨a', e1, e2⟩ := ih e; exact ⟨a', by simpa using e1, e2⟩
theorem mt_indexT (hu : X.A.units + 65 < cLine) : MtR X "list.index" (rIndexT X.K) := by
  intro pins s σ H x xs v us Q I rx rxs h
  obtain ⟨a, ps, ks, y, k, j, rfl, rfl, hs, hp, hy, hj, hno, q⟩ := h
  cases rx
  cases rxs with
  | cons ry rt =>
    rename_i uy ut
    cases rt
    cases ry
    obtain ⟨its, rv, ⟨⟨cls, dd, data, sl⟩, n, ho, hc, hdn, hd⟩, hlen⟩ := I.list (SqL.of hs)
    simp only at hc hd
    subst hc hd
    have eits : its = ps.map Value.ref := refs_at rv
    subst eits
    have hpl : ps.length = ks.length := Paired.length hp
    have hjk : j < ks.length := (List.getElem?_eq_some_iff.mp hj).1
    have hsl := sizeLine_eq
    rw [List.length_map] at hlen
    have kof : ∀ m (hm : m < (ps.map Value.ref).toArray.size), ∃ km, ks[m]? = some km ∧ ∃ p, (ps.map Value.ref).toArray[m] = .ref p ∧ H p = some (.tup (spV km)) := by
      intro m hm
      have hm' : m < ps.length := by simpa using hm
      obtain ⟨km, e1, e2⟩ := paired_get hp (List.getElem?_eq_getElem hm')
      exact ⟨km, e1, ps[m], by simp, e2⟩
    refine call_meets PySem.F.slot_list_index ⟨_, ho, rfl⟩ PySem.F.entry_list_index (PySem.F.args_list_index_2 _ _)
      (SeqAt.list_indexAt a (ps.map Value.ref).toArray n dd sl (.ref y) (fun u => decide (PyProof.Rows.G.tupKeyC s.heap sh0 u = some [Sum.inl (k.1 : Int), Sum.inl (k.2 : Int)])) j (by simp; omega) (by omega) ?_ ?_) ⟨ho, fun u' hu' => ?_, ?_⟩
    · obtain ⟨km, e1, p, e2, e3⟩ := kof j (by simp; omega)
      rw [hj] at e1
      cases e1
      rw [e2, tkey_of I e3]
      simp
    · intro m hm hmj
      obtain ⟨km, e1, p, e2, e3⟩ := kof m hm
      rw [e2, tkey_of I e3]
      have : km ≠ k := fun z => hno m hmj (by rw [e1, z])
      refine decide_eq_false fun z => this ?_
      have z1 := Option.some.inj z
      have z2 : (km.1 : Int) = k.1 ∧ (km.2 : Int) = k.2 := by simpa using z1
      exact Prod.ext (by omega) (by omega)
    · obtain ⟨m, hm, em⟩ := Array.mem_iff_getElem.mp hu'
      obtain ⟨km, e1, p, e2, e3⟩ := kof m hm
      rw [← em, e2]
      have z := sp_eqAt I (A := X.A.in1) (by show X.A.units + 1 + 64 < cLine; omega) e3 hy
      have e : decide (PyProof.Rows.G.tupKeyC s.heap sh0 (.ref p) = some [Sum.inl (k.1 : Int), Sum.inl (k.2 : Int)]) = decide (km = k) := by
        rw [tkey_of I e3]
        by_cases w : km = k
        · subst w; simp
        · rw [decide_eq_false w]
          refine decide_eq_false fun z => w ?_
          have z1 := Option.some.inj z
          have z2 : (km.1 : Int) = k.1 ∧ (km.2 : Int) = k.2 := by simpa using z1
          exact Prod.ext (by omega) (by omega)
      rw [e]
      exact z
    · exact ⟨.int (j : Nat), H, I.tok _, ⟨_, rfl⟩, q⟩
def rSortedT : List V → Hp → VK → Prop := fun vs H Q => ∃ (d : Addr) (kvs : List (List Key × V)) (ks : List (Nat × Nat)), vs = [V.ref d] ∧ H d = some (.dT kvs) ∧ kvs.map (·.1) = ks.map spK ∧
  ∀ (ps : List Addr) (ks' : List (Nat × Nat)) (p : Addr), ks'.Perm ks → ks'.Pairwise (fun x y => Yh.spotBefore y x = false) → Paired (fun p k => H p = some (.tup (spV k))) ps ks' → H p = none → Q (.ref p) (upd H p (.lst (ps.map V.ref)))
def keyN (h : Heap) (v : Value) : Nat × Nat := match PyProof.Rows.G.tupKeyC h sh0 v with
  | some [Sum.inl a, Sum.inl b] => (a.toNat, b.toNat)
  | _ => (0, 0)
theorem lex_spot (x y : Nat × Nat) : (listOrd itemOrd).blt [Sum.inl (x.1 : Int), Sum.inl (x.2 : Int)] [Sum.inl (y.1 : Int), Sum.inl (y.2 : Int)] = Yh.spotBefore x y := by
  show (decide ((x.1 : Int) < y.1) || (!decide ((y.1 : Int) < x.1) && (decide ((x.2 : Int) < y.2) || (!decide ((y.2 : Int) < x.2) && false)))) = (decide (x.1 < y.1) || (x.1 == y.1 && decide (x.2 < y.2)))
  rw [Bool.eq_iff_iff]
  simp only [Bool.or_eq_true, Bool.and_eq_true, Bool.not_eq_true', decide_eq_true_eq, decide_eq_false_iff_not, Bool.and_false, Bool.or_false, beq_iff_eq]
  omega
theorem zip_snd {β : Type} (f : Value → β) : ∀ l : List Value, (l.zip l).map (fun x : Keyed => f x.2) = l.map f
  | [] => rfl
  | a :: l => by simp only [List.zip_cons_cons, List.map_cons, zip_snd f l]
theorem vals_refs : ∀ l : List Addr, Vals (l.map V.ref) (l.map Value.ref)
  | [] => .nil
  | a :: l => .cons rfl (vals_refs l)
theorem keyN_of {X : Cx} {pins : List (Addr × Obj)} {σ : St} {H : Hp} {s : Shared} (I : Inv X pins σ H s) {q : Addr} {x : Nat × Nat} (h : H q = some (.tup (spV x))) : keyN s.heap (.ref q) = x := by
  unfold keyN
  rw [tkey_of I h]
  exact Prod.ext (by show (x.1 : Int).toNat = x.1; omega) (by show (x.2 : Int).toNat = x.2; omega)
theorem build_out {H : Hp} {h : Heap} : ∀ l : List Keyed, (∀ x ∈ l, ∃ k p, x.2 = .ref p ∧ H p = some (.tup (spV k)) ∧ keyN h x.2 = k) →
    ∃ ps : List Addr, l.map (·.2) = ps.map Value.ref ∧ Paired (fun p k => H p = some (.tup (spV k))) ps (l.map fun x => keyN h x.2)
  | [], _ => ⟨[], rfl, .nil⟩
  | x :: l, f => by
    obtain ⟨ps, e1, e2⟩ := build_out l fun y hy => f y (List.mem_cons_of_mem _ hy)
    obtain ⟨k, p, a, b, c⟩ := f x (List.mem_cons_self ..)
    refine ⟨p :: ps, by simp [e1, a], .cons ?_ e2⟩
    show H p = some (.tup (spV (keyN h x.2)))
    rw [c]
    exact b
theorem cr_sortedT (hcalm : X.calm = true) : CallR X (.builtin "sorted") rSortedT := by
  intro pins s σ H vs us Q I r h
  obtain ⟨d, kvs, ks, rfl, hd, hks, q⟩ := h
  rw [Vals.ref1 r]
  obtain ⟨z, lo, xs, rel, o, es, ep, ho, hc, hdat, he, hk, hn⟩ := dt_of I.hok hd
  have hps : ∃ ps : List Addr, es.toList.map (·.key) = ps.map Value.ref ∧ Paired (fun p k => H p = some (.tup (spV k))) ps ks := by
    rw [he]
    clear he hk hn hdat hc ho hd q
    induction rel generalizing ks with
    | nil =>
      cases ks with
      | nil => exact ⟨[], rfl, .nil⟩
      | cons => simp at hks
    | @cons a b l m g t ih =>
      cases ks with
      | nil => simp at hks
      | cons k ks =>
        simp only [List.map_cons, List.cons.injEq] at hks
        obtain ⟨ps, e1, e2⟩ := ih ks hks.2 (by simp at z; omega)
        refine ⟨b.2.1 :: ps, by simp [entryOfKey, e1], .cons ?_ e2⟩
        have g2 := g.2.1
        rw [hks.1] at g2
        exact g2
  obtain ⟨ps, e1, e2⟩ := hps
  have hpl : ps.length = ks.length := Paired.length e2
  have hkl : kvs.length = ks.length := by have := congrArg List.length hks; simpa using this
  have tk : ∀ v, v ∈ ps.map Value.ref → ∃ k, PyProof.Rows.G.tupKeyC s.heap sh0 v = some [Sum.inl ((k : Nat × Nat).1 : Int), Sum.inl (k.2 : Int)] ∧ ∃ p, v = .ref p ∧ H p = some (.tup (spV k)) := by
    intro v hv
    obtain ⟨p, hp, rfl⟩ := List.mem_map.mp hv
    obtain ⟨i, hi, ei⟩ := List.mem_iff_getElem.mp hp
    subst ei
    obtain ⟨k, _, hk⟩ := paired_get e2 (List.getElem?_eq_getElem hi)
    exact ⟨k, tkey_of I hk, _, rfl, hk⟩
  have ht : ∃ fs, TupsOf s.heap sh0 (ps.map Value.ref) fs := by
    clear e1 tk hpl q hks hkl
    induction e2 with
    | nil => exact ⟨[], .nil⟩
    | @cons p k l m g t ih =>
      obtain ⟨fs, f⟩ := ih
      obtain ⟨its, r, ⟨o, ho, hc, n, hd⟩, _⟩ := I.tuple (SqT.of g)
      obtain ⟨u, v, rfl, ⟨t1, rfl⟩, ⟨t2, rfl⟩⟩ := r.two
      exact ⟨_, .cons ⟨p, o, _, n, rfl, ho, hc, hd, rfl, fun _ => ⟨_, _, rfl⟩, fun z => absurd z (by decide)⟩ f⟩
  obtain ⟨fs, ht⟩ := ht
  refine sorted_dictO (I.ok.hd hcalm) lo ho hc hdat e1 (by rw [List.length_map]; omega) ht (fun v hv => let ⟨k, e, _⟩ := tk v hv; ⟨_, e⟩) fun h' tk' p e arr hperm hsort hkeep hle hat => ?_
  have hmem : ∀ x ∈ arr.toList, x.1 = x.2 ∧ x.1 ∈ ps.map Value.ref := by
    intro x hx
    have : x ∈ (pairsOf (ps.map Value.ref)).toList := (hperm.toList.mem_iff).mp hx
    rw [pairsOf_toList] at this
    exact mem_zip_self this
  have hout : ∀ x ∈ arr.toList, ∃ k p, x.2 = .ref p ∧ H p = some (.tup (spV k)) ∧ keyN s.heap x.2 = k := by
    intro x hx
    obtain ⟨h1, h2⟩ := hmem x hx
    rw [h1] at h2
    obtain ⟨k, _, p, e3, e4⟩ := tk x.2 h2
    exact ⟨k, p, e3, e4, by rw [e3]; exact keyN_of I e4⟩
  obtain ⟨ps', eo, hp'⟩ := build_out arr.toList hout
  have hlen : ps'.length = arr.toList.length := by have := congrArg List.length eo; simpa using this.symm
  have hal : arr.toList.length = ps.length := by rw [hperm.toList.length_eq, pairsOf_toList]; simp
  have hkn : (ps.map Value.ref).map (keyN s.heap) = ks := by
    clear e1 tk hpl q hks hkl ht hperm hsort hmem hout eo hp' hlen hal
    induction e2 with
    | nil => rfl
    | @cons p k l m g t ih => simp only [List.map_cons, ih, keyN_of I g]
  have hpk : (arr.toList.map fun x => keyN s.heap x.2).Perm ks := by
    have z := hperm.toList.map (fun x : Keyed => keyN s.heap x.2)
    rw [pairsOf_toList] at z
    have e3 : ((ps.map Value.ref).zip (ps.map Value.ref)).map (fun x : Keyed => keyN s.heap x.2) = ks := by
      rw [← hkn]
      exact zip_snd _ _
    rw [e3] at z
    exact z
  have hpw : (arr.toList.map fun x => keyN s.heap x.2).Pairwise (fun x y => Yh.spotBefore y x = false) := by
    rw [List.pairwise_iff_getElem]
    intro i j hi hj hij
    rw [List.length_map] at hi hj
    have hj' : j < (pairsOf (ps.map Value.ref)).size := by rw [pairsOf_size, List.length_map]; omega
    have z := hsort i j (Nat.le_of_lt hij) hj'
    have kk : ∀ i (h : i < arr.toList.length), KK (PyProof.Rows.G.tupKindC s.heap sh0) arr i = [Sum.inl ((keyN s.heap (arr.toList[i]).2).1 : Int), Sum.inl ((keyN s.heap (arr.toList[i]).2).2 : Int)] := by
      intro i h
      have hm := List.getElem_mem h
      obtain ⟨h1, h2⟩ := hmem _ hm
      obtain ⟨k, p, e3, e4, e5⟩ := hout _ hm
      unfold KK
      have e6 : arr[i]? = some arr.toList[i] := by rw [← Array.getElem?_toList]; exact List.getElem?_eq_getElem h
      rw [e6]
      show (PyProof.Rows.G.tupKeyC s.heap sh0 (arr.toList[i]).1).getD [] = _
      rw [h1, e5, e3, tkey_of I e4]
      rfl
    rw [kk i hi, kk j hj] at z
    have z2 := (lex_spot (keyN s.heap (arr.toList[j]).2) (keyN s.heap (arr.toList[i]).2)).symm.trans z
    simpa using z2
  refine ⟨.ref p, upd H p (.lst (ps'.map V.ref)), I.laid (t' := tk') hkeep hle ⟨by rw [List.length_map]; omega, ps'.map Value.ref, e, ?_, ?_⟩, rfl, q ps' _ p hpk hpw hp' (I.hok.fresh hle)⟩
  · exact vals_refs _
  · have e9 : arr.map (·.2) = (arr.toList.map (·.2)).toArray := by
      apply Array.ext'
      simp
    rw [hat, ← eo, ← e9]
end
end L2
namespace L2
open PySem PySem.Spec PyProof.Rows
section
variable {prog : Program} {w : World} {A : Around} {E : Value → Shared → Prop} {s : Shared}
theorem next_tup_item {it t : Addr} {i : Nat} {items : Array Value} {x : Value} {Q : Value → Shared → Prop} (hit : s.heap.IsTupleIter it t i) (ht : s.heap.IsTuple t items) (hx : items[i]? = some x)
    (hQ : ∀ h', h'.IsTupleIter it t (i + 1) → Heap.SameBut it s.heap h' → Q x { s with heap := h' }) : wpAny (model prog w) A (Builtin.SmallTypes.nextOf (.ref it)) Q E s := by
  obtain ⟨o, ho, hc, hd⟩ := id hit
  obtain ⟨ol, hol, _, nl, hdl⟩ := ht
  unfold Builtin.SmallTypes.nextOf
  refine wpAny_bind (wpAny_callSpecial?_slot (name := Str.ofString "__next__") hit.typeIs F.slot_tuple_iterator_next
    (wpAny_call_entry F.slot_tuple_iterator_next hit.typeIs F.entry_tuple_iterator_next ?_ (F.args_tuple_iterator_next_1 _)))
  show wpAny _ _ (field (.ref it) 0 >>= _) _ _ s
  refine wpAny_bind (wpAny_field ho hd (x := .ref t) rfl ?_)
  show wpAny _ _ (if (Value.ref t == Value.none) = true then _ else _) _ _ s
  rw [if_neg (show ¬ ((Value.ref t == Value.none) = true) from Bool.false_ne_true)]
  show wpAny _ _ (field (.ref it) 1 >>= _) _ _ s
  refine wpAny_bind (wpAny_field ho hd (x := .int i 0) rfl ?_)
  show wpAny _ _ (seqItems? (.ref t) >>= _) _ _ s
  refine wpAny_bind (wpAny_seqItems hol hdl ?_)
  simp only [Int.toNat_natCast, hx]
  refine wpAny_bind (wpAny_setField ho hd (by simp) (wpAny_pure ⟨x, rfl, wpAny_pure (hQ _ ?_ (Heap.SameBut.update ..))⟩))
  exact ⟨_, Heap.get?_update_self _ ho (Obj.isFreed_of_fields (Obj.data_mapFields hd _)), (Obj.cls_mapFields ..).trans hc, by
    rw [Obj.data_mapFields hd]; simp [rawInt]⟩
theorem next_tup_end {it t : Addr} {i : Nat} {items : Array Value} {Q : Value → Shared → Prop} (hh : A.handled = none) (hit : s.heap.IsTupleIter it t i) (ht : s.heap.IsTuple t items) (hx : items[i]? = none)
    (hE : ∀ h' e, Heap.ExtBut it s.heap h' → (∃ o, h'.get? e = some o ∧ o.cls = .type "StopIteration") → E (.ref e) { s with heap := h' }) : wpAny (model prog w) A (Builtin.SmallTypes.nextOf (.ref it)) Q E s := by
  obtain ⟨o, ho, hc, hd⟩ := id hit
  obtain ⟨ol, hol, _, nl, hdl⟩ := ht
  unfold Builtin.SmallTypes.nextOf
  refine wpAny_bind (wpAny_callSpecial?_slot (name := Str.ofString "__next__") hit.typeIs F.slot_tuple_iterator_next
    (wpAny_call_entry F.slot_tuple_iterator_next hit.typeIs F.entry_tuple_iterator_next ?_ (F.args_tuple_iterator_next_1 _)))
  show wpAny _ _ (field (.ref it) 0 >>= _) _ _ s
  refine wpAny_bind (wpAny_field ho hd (x := .ref t) rfl ?_)
  show wpAny _ _ (if (Value.ref t == Value.none) = true then _ else _) _ _ s
  rw [if_neg (show ¬ ((Value.ref t == Value.none) = true) from Bool.false_ne_true)]
  show wpAny _ _ (field (.ref it) 1 >>= _) _ _ s
  refine wpAny_bind (wpAny_field ho hd (x := .int i 0) rfl ?_)
  show wpAny _ _ (seqItems? (.ref t) >>= _) _ _ s
  refine wpAny_bind (wpAny_seqItems hol hdl ?_)
  simp only [Int.toNat_natCast, hx]
  refine wpAny_bind (wpAny_rule (wpAny_bind (wpAny_setField ho hd (by simp) ?_)))
  show wpAny _ _ (newExc (.type "StopIteration") [] >>= _) _ _ _
  refine wpAny_bind ?_
  simp only [newExc, newTuple]
  refine wpAny_bind (wpAny_newObj_type ?_ (by size_fits))
  refine wpAny_bind (m := firstArgMember _ _) (wpAny_of_eq (a := Value.none) (by first | rfl | (simp only [firstArgMember]; rfl)) ?_)
  refine wpAny_newObj_type ?_ (by size_fits)
  simp only [raiseNew]
  refine wpAny_bind (wpAny_handled ?_)
  first | rw [show A.in1.handled = none from hh] | rw [hh]
  refine wpAny_bind (wpAny_pure (wpAny_throw ?_))
  exact hE _ _ (((Heap.SameBut.update ..).extBut.push _).push _) ⟨_, Heap.get?_push_size _ rfl, rfl⟩
theorem draws_tup (hh : A.handled = none) (it l : Addr) (hne : l ≠ it) (items : Array Value) :
    Draws prog w A it [it, l] items.size (fun i v => items[i]? = some v) (fun i h => h.IsTupleIter it l i ∧ h.IsTuple l items) where
  live := fun _ _ st => let ⟨o, ho, _⟩ := st.1; ⟨o, ho⟩
  frame := fun _ _ _ st hk => ⟨let ⟨o, ho, r⟩ := st.1; ⟨o, hk it (by simp) o ho, r⟩, let ⟨o, ho, r⟩ := st.2; ⟨o, hk l (by simp) o ho, r⟩⟩
  item := fun i s Q E hi st hQ => by
    refine next_tup_item st.1 st.2 (x := items[i]) (by simp [hi]) fun h' hit' hs' => ?_
    exact hQ _ h' s.toks (by simp [hi]) ⟨hit', st.2.extBut hs'.extBut hne⟩ hs'
  done := fun s Q E st hE => next_tup_end hh st.1 st.2 (by simp) hE
open AutoSeq1 in
theorem enum_newT (l : Addr) (items : Array Value) (n : Nat) (dct : Option Addr) (sl : Array (Option Value)) :
    Meets (Builtin.«enumerate.__new__» ⟨[.type "enumerate", .ref l], []⟩) (fun _ R s => s.heap.get? l = some { cls := .type "tuple", dict := dct, data := .seq items n, slots := sl } ∧
      R (.ok (.ret (.ref (s.heap.push { cls := .type "tuple_iterator", data := .fields #[.ref l, .int 0 0] }).objs.size)))
        { s with heap := (s.heap.push { cls := .type "tuple_iterator", data := .fields #[.ref l, .int 0 0] }).push { cls := .type "enumerate", data := .fields #[.none, .bool false, .ref s.heap.objs.size, rawInt 0, .none, .none] } }) :=
  .of_wp fun prog w A R s h => by
    obtain ⟨hp, g, d, tk, os⟩ := s; obtain ⟨hl, h⟩ := h
    have hsub := sub_enumerate
    have hL : Heap.IsTuple (Shared.heap ⟨hp, g, d, tk, os⟩) l items := ⟨_, hl, rfl, n, rfl⟩
    wp_walk using wpAny_loadPart' hl
    refine wpAny_stack_any fun st => wpAny_pure ?_
    split
    · rename_i c _ _ _ _ _
      cases (c == Value.type "enumerate")
      · wp_walk using wpAny_loadPart' hl, wpAny_pyIter_tuple hL
        exact ⟨_, rfl, h⟩
      · wp_walk using wpAny_loadPart' hl, wpAny_pyIter_tuple hL
        exact ⟨_, rfl, h⟩
    · wp_walk using wpAny_loadPart' hl, wpAny_pyIter_tuple hL
      exact ⟨_, rfl, h⟩
theorem call_enumT {l : Addr} {items : Array Value} {Q : Value → Shared → Prop} (hL : s.heap.IsTuple l items)
    (h : ∀ h', IsEnum h' (s.heap.objs.size + 1) s.heap.objs.size 0 .none → h'.IsTupleIter s.heap.objs.size l 0 → h'.objs.size = s.heap.objs.size + 2 →
      (∀ b o, s.heap.get? b = some o → h'.get? b = some o) → Q (.ref (s.heap.objs.size + 1)) { s with heap := h' }) :
    wpAny (model prog w) A (call (.type "enumerate") [.ref l]) Q E s := by
  obtain ⟨⟨c, dct, dt, sl⟩, hl, hc, n, hd⟩ := hL
  replace hc : c = .type "tuple" := hc
  replace hd : dt = .seq items n := hd
  subst hc hd
  refine callType_new F.called_enumerate (by decide) (F.typeCall_enumerate_1 _) (F.newCall_enumerate_1 _) (fun obj => F.args_object_init_2 obj _) F.entry_enumerate_new
    (enum_newT l items n dct sl) ⟨hl, ?_⟩
  have hz : (s.heap.push { cls := .type "tuple_iterator", data := .fields #[.ref l, .int 0 0] }).objs.size = s.heap.objs.size + 1 := Heap.size_push ..
  show _ ∧ _
  rw [hz]
  have he : IsEnum ((s.heap.push { cls := .type "tuple_iterator", data := .fields #[.ref l, .int 0 0] }).push
      { cls := .type "enumerate", data := .fields #[.none, .bool false, .ref s.heap.objs.size, rawInt 0, .none, .none] }) (s.heap.objs.size + 1) s.heap.objs.size 0 .none := by
    have := Heap.get?_push_size (s.heap.push { cls := .type "tuple_iterator", data := .fields #[.ref l, .int 0 0] })
      (o := { cls := .type "enumerate", data := .fields #[.none, .bool false, .ref s.heap.objs.size, rawInt 0, .none, .none] }) rfl
    rw [hz] at this; exact this
  refine ⟨⟨_, he, rfl⟩, h _ he ⟨_, Heap.get?_push_of_some _ (Heap.get?_push_size _ rfl), rfl, rfl⟩ (by rw [Heap.size_push, hz]) fun b o x => Heap.get?_push_of_some _ (Heap.get?_push_of_some _ x)⟩
end
def IteT (K : PySem.W.Frag) (a : Addr) : It :=
  ⟨fun i H => ∃ (xs : List V) (x : V), SqT K H a xs ∧ xs[i]? = some x, fun i H v H' => ∃ T x, v = .ref T ∧ H T = none ∧ H' = upd H T (.tup [.int (i : Nat), x]) ∧ ∀ xs, SqT K H a xs → xs[i]? = some x, fun i H => ∃ xs : List V, SqT K H a xs ∧ xs.length = i⟩
theorem turn_enumT {P : Program} {w : World} {K : PySem.W.Frag} {elts : List Expr} {kk : Nat} {tpos : Pos} (a e it : Addr) :
    Turn P w K (.Tuple elts kk tpos) (IteT K a) [e, it] e (fun i h => (∃ old, IsEnum h e it ((i : Nat) : Int) old) ∧ h.IsTupleIter it a i ∧ e ≠ it ∧ a ≠ it ∧ a ≠ e) where
  mem := by simp
  obj := fun i h st b hb => by
    obtain ⟨⟨old, he⟩, ⟨o, ho, hc, hd⟩, _⟩ := st
    have e' : b = e ∨ b = it := by simpa using hb
    rcases e' with z | z
    · rw [z]; exact ⟨_, he, fun v q => nomatch q⟩
    · rw [z]; exact ⟨o, ho, fun v q => by rw [hd] at q; cases q⟩
  keep := fun i h h' st k => let ⟨⟨old, he⟩, ⟨o, ho, r⟩, hne⟩ := st; ⟨⟨old, k e (by simp) _ he⟩, ⟨o, k it (by simp) o ho, r⟩, hne⟩
  item := by
    intro X hP hw hK hc i pins s σ H E I hf st hg
    subst hP hw hK
    obtain ⟨⟨old, he⟩, hit, hne, hai, hae⟩ := st
    obtain ⟨xs, x, hq, hx⟩ := hg
    obtain ⟨its, rv, p, hz⟩ := I.tuple hq
    obtain ⟨u, hu, ru⟩ := rv.get hx
    have hel : e < s.heap.objs.size := Heap.lt_size he
    have hil : it < s.heap.objs.size := by obtain ⟨_, q, _⟩ := hit; exact Heap.lt_size q
    have hil2 : i < its.toArray.size := by simpa using (List.getElem?_eq_some_iff.mp hu).1
    have hh : X.A.in1.handled = none := I.ok.hd hc
    refine wpAny_pyNext_enum_itemD (draws_tup hh it a hai its.toArray) he ⟨hit, p⟩ hil2 hne (by simp [hne, Ne.symm hae]) fun x' h' tk' hPx ho hst' hT hsz hk => ?_
    have ex : x' = u := by
      have : its.toArray[i]? = some u := by simpa using hu
      rw [this] at hPx
      exact (Option.some.inj hPx).symm
    subst ex
    refine ⟨_, rfl, wpAny_letOwnedTupleGo_enum (s := { s with heap := h', toks := tk' + 1 }) ho fun h'' he' sb => ?_⟩
    have hT2 : h''.get? s.heap.objs.size = some { cls := .type "tuple", data := .seq #[.int i tk', x'] } := (sb.2 _ (Nat.ne_of_gt hel)).trans hT
    have new : ObjOk X.prog X.w (upd H s.heap.objs.size (.tup [.int (i : Nat), x])) h'' s.heap.objs.size (.tup [.int (i : Nat), x]) :=
      ⟨by show 2 ≤ sizeLine; decide, [.int i tk', x'], .cons ⟨_, rfl⟩ (.cons ru .nil), ⟨_, hT2, rfl, _, rfl⟩⟩
    have I1 : Inv X pins σ (upd H s.heap.objs.size (.tup [.int (i : Nat), x])) { s with heap := h'', toks := tk' + 1 } :=
      I.turnedNew (ch := [e, it]) (fun b ob hb q => (sb.2 b (fun z => hb (by simp [z]))).trans (hk b ob (fun z => hb (by simp [z])) (fun z => hb (by simp [z])) q)) hf (Nat.le_refl _) new
    refine ⟨.ref s.heap.objs.size, _, I1, rfl, ⟨_, x, rfl, I.hok.fresh (Nat.le_refl _), rfl, fun ys hy => by rw [I.tuple_inj hy hq]; exact hx⟩, ⟨⟨x', ?_⟩, ?_, hne, hai, hae⟩, fun b hb => ?_⟩
    · have e1 : ((i + 1 : Nat) : Int) = (i : Int) + 1 := by omega
      rw [e1]; exact he'
    · obtain ⟨o, ho2, r⟩ := hst'.1
      exact ⟨o, (sb.2 it (Ne.symm hne)).trans ho2, r⟩
    · have hb' : b < s.heap.objs.size := by
        have e' : b = e ∨ b = it := by simpa using hb
        rcases e' with z | z
        · rw [z]; exact hel
        · rw [z]; exact hil
      rw [upd_ne (Nat.ne_of_lt hb')]
      exact (hf b hb).1
  done := by
    intro X hP hw hK hc i pins s σ H E I hf st hg
    subst hP hw hK
    obtain ⟨⟨old, he⟩, hit, hne, hai, hae⟩ := st
    obtain ⟨xs, hq, hx⟩ := hg
    obtain ⟨its, rv, p, hz⟩ := I.tuple hq
    obtain ⟨f0, f1, f2, f3, f4, f5⟩ := hf it (by simp)
    have hl := rv.length
    have hh : X.A.in1.handled = none := I.ok.hd hc
    have ei : i = its.toArray.size := by simp; omega
    subst ei
    exact wpAny_pyNext_enum_endD (draws_tup hh it a hai its.toArray) he ⟨hit, p⟩ fun h' eb => ⟨rfl, I.turned (t' := s.toks) (fun b o hb q => eb b o hb q) f0 f1 f3 f4 f5⟩
  self := fun A i s Q E st h => let ⟨⟨_, he⟩, _⟩ := st; wpAny_pyIter_enum he h
def iEnumT (K : PySem.W.Frag) (ta : TA) : TI := fun σ H R => ta σ H fun vs H1 => ∃ a xs, vs = [.ref a] ∧ SqT K H1 a xs ∧ R (IteT K a) H1
theorem pi_enumT {X : Cx} {e : Expr} {ta : TA} {p pos tpos : Pos} {elts : List Expr} {kk : Nat} (hg : Gl X "enumerate") (hm : X.mg "enumerate" = none) (ha : PA X [e] ta) (hs : starEach [e] X.env = [(false, eval e X.env)] := by rfl) :
    PI X (.Tuple elts kk tpos) (.Call (.Name "enumerate" p) [e] [] pos) (iEnumT X.K ta) := by
  intro pins s σ H R I h
  refine Call_ (ld_blt I hg hm boot_enumerate (PyProof.Rows.callWith_type1 (thn (ha pos pins s σ H _ I h) fun us s1 ⟨vs, H1, I1, r1, q1⟩ => ?_) hs rfl))
  obtain ⟨a, xs, ex, hq, q⟩ := q1
  subst ex
  cases r1 with
  | cons r rr =>
    cases rr
    cases r
    obtain ⟨its, rv, p', hz⟩ := I1.tuple hq
    have hal : a < s1.heap.objs.size := by obtain ⟨o, ho, _⟩ := p'; exact Heap.lt_size ho
    refine call_enumT (show s1.heap.IsTuple a its.toArray from p') fun h' he hit hsz hk => wpAny_pyIter_enum he ?_
    have I2 : Inv X pins σ H1 { s1 with heap := h' } := I1.kept (t' := s1.toks) hk
    refine ⟨s1.heap.objs.size + 1, [s1.heap.objs.size + 1, s1.heap.objs.size], _, _, H1, rfl, I2, turn_enumT a (s1.heap.objs.size + 1) s1.heap.objs.size, ⟨⟨.none, he⟩, hit, Nat.succ_ne_self _, Nat.ne_of_lt hal, Nat.ne_of_lt (Nat.lt_succ_of_lt hal)⟩, fun b hb => ?_, q⟩
    have e' : b = s1.heap.objs.size + 1 ∨ b = s1.heap.objs.size := by simpa using hb
    have hle : s1.heap.objs.size ≤ b := by
      rcases e' with z | z
      · rw [z]; exact Nat.le_add_right _ _
      · rw [z]; exact Nat.le_refl _
    exact I1.fpOk hle (I1.hok.fresh hle)
end L2
namespace L2
open PySem PySem.Spec PyProof.Rows
theorem tup_no_rev : typeLookup (.type "tuple") "__reversed__" = pure none := by rw [typeLookup_type, builtinLookup_eq_fast]; kernel_rfl
theorem slot_rev_init : Slot "reversed" "__init__" "object.__init__" :=
  .of (owner := "object") (n := "__init__") (by rw [typeLookup_type, builtinLookup_eq_fast]; kernel_rfl) (by decide +kernel) (by decide +kernel) (by decide +kernel)
    (by first | exact .inl (by decide +kernel) | exact .inr (by decide +kernel)) (by rw [isSubtype_type]; kernel_rfl)
theorem called_rev : TypeCalled "reversed" "reversed.__new__" "object.__init__" :=
  ⟨by decide +kernel, by decide +kernel, ⟨_, _, F.mro_reversed⟩, F.made_reversed, by decide +kernel, by rw [isSubtype_type]; kernel_rfl, slot_rev_init⟩
theorem owner_rev : Manifest.owners.lookup (String.ofList ['d', 'e', 's', 'r', 'e', 'v', 'e', 'r'].reverse) = some Manifest.sig_reversed := by kernel_rfl
theorem slot_rev_next : Slot "reversed" "__next__" "reversed.__next__" :=
  .of (owner := "reversed") (n := "__next__") (by rw [typeLookup_type, builtinLookup_eq_fast]; kernel_rfl) (by decide +kernel) (by decide +kernel) (by decide +kernel)
    (by first | exact .inl (by decide +kernel) | exact .inr (by decide +kernel)) (by rw [isSubtype_type]; kernel_rfl)
theorem entry_rev_next : entryFor table "reversed.__next__" = some Builtin.«reversed.__next__» := entryFor_of_tree (by kernel_rfl)
theorem args_rev_next (a : Value) : argsOk "reversed.__next__" ⟨[a], []⟩ := by
  unfold argsOk; rw [signature?_of (id := "reversed.__next__") (n := ['_', '_', 't', 'x', 'e', 'n', '_', '_']) (o := ['d', 'e', 's', 'r', 'e', 'v', 'e', 'r']) (by kernel_rfl) owner_rev]; kernel_rfl
theorem slot_rev_iter : Slot "reversed" "__iter__" "reversed.__iter__" :=
  .of (owner := "reversed") (n := "__iter__") (by rw [typeLookup_type, builtinLookup_eq_fast]; kernel_rfl) (by decide +kernel) (by decide +kernel) (by decide +kernel)
    (by first | exact .inl (by decide +kernel) | exact .inr (by decide +kernel)) (by rw [isSubtype_type]; kernel_rfl)
theorem args_rev_iter (a : Value) : argsOk "reversed.__iter__" ⟨[a], []⟩ := by
  unfold argsOk; rw [signature?_of (id := "reversed.__iter__") (n := ['_', '_', 'r', 'e', 't', 'i', '_', '_']) (o := ['d', 'e', 's', 'r', 'e', 'v', 'e', 'r']) (by kernel_rfl) owner_rev]; kernel_rfl
theorem entry_rev_iter : entryFor table "reversed.__iter__" = some Builtin.«dict_keyiterator.__iter__» :=
  entryFor_alias (id' := "dict_keyiterator.__iter__") (by kernel_rfl) (by first | rfl | decide +kernel | (unfold String.splitOn; simp +decide [String.splitOnAux])) (by decide +kernel) (by kernel_rfl)
section
variable {prog : Program} {w : World} {A : Around} {E : Value → Shared → Prop} {s : Shared}
theorem sub_tup_dict : isSubtype (.type "tuple") (.type "dict") = pure false := by rw [isSubtype_type]; kernel_rfl
theorem rev_newT (l : Addr) (items : Array Value) (n : Nat) (dct : Option Addr) (sl : Array (Option Value)) (hz : (items.size : Int) < 2 ^ 63) :
    Meets (Builtin.«reversed.__new__» ⟨[.type "reversed", .ref l], []⟩) (fun _ R s => s.heap.get? l = some { cls := .type "tuple", dict := dct, data := .seq items n, slots := sl } ∧
      ∀ tk, R (.ok (.ret (.ref s.heap.objs.size))) { s with heap := s.heap.push { cls := .type "reversed", data := .fields #[.ref l, rawInt ((items.size : Int) - 1)] }, toks := tk }) :=
  .of_wp fun prog w A R s h => by
    obtain ⟨hl, h⟩ := h
    have hT : s.TypeIs (.ref l) "tuple" := ⟨_, hl, rfl⟩
    unfold Builtin.«reversed.__new__»
    refine wpAny_bind (wpAny_of_eq (newClass_reversed _) ?_)
    try dsimp only
    refine wpAny_bind (wpAny_of_eq (a := ()) (by first | rfl | kernel_rfl) ?_)
    refine wpAny_bind (wpAny_of_eq (a := ()) (by first | rfl | kernel_rfl) ?_)
    try dsimp only
    refine wpAny_bind (wpAny_specialOf hT tup_no_rev ?_)
    try dsimp only
    have ht : IsTup s.heap l items := ⟨_, hl, rfl, _, rfl⟩
    refine wpAny_bind ?_
    show wpAny _ _ (isInstance (.ref l) (.type "dict") >>= _) _ _ s
    refine wpAny_bind (wpAny_isInstance (T := "tuple") (b := false) hT sub_tup_dict ?_)
    try dsimp only
    rw [if_neg Bool.false_ne_true]
    refine wpAny_bind (wpAny_specialOf hT slot_tuple_getitem.lookup ?_)
    try dsimp only
    rw [if_pos (by decide)]
    refine wpAny_pure ?_
    try dsimp only
    rw [if_neg (by decide)]
    refine wpAny_bind (len_tuple ht hz ?_)
    refine wpAny_bind (wpAny_of_eq (a := some (items.size : Int)) rfl ?_)
    try dsimp only
    show wpAny _ _ (newObj (.type "reversed") (.fields #[.ref l, rawInt ((items.size : Int) - 1)]) >>= _) _ _ _
    refine wpAny_bind (wpAny_newObj_type ?_ (by size_fits))
    exact wpAny_pure ⟨_, rfl, h _⟩
def IsRevT (h : Heap) (a l : Addr) (i : Int) : Prop := ∃ o, h.get? a = some o ∧ o.cls = .type "reversed" ∧ o.data = .fields #[.ref l, rawInt i]
theorem IsRevT.typeIs {s : Shared} {a l : Addr} {i : Int} (x : IsRevT s.heap a l i) : s.TypeIs (.ref a) "reversed" := let ⟨o, ho, hc, _⟩ := x; ⟨o, ho, hc⟩
theorem call_revT {l : Addr} {items : Array Value} {Q : Value → Shared → Prop} (hl : IsTup s.heap l items) (hz : (items.size : Int) < 2 ^ 63)
    (h : ∀ tk, Q (.ref s.heap.objs.size) { s with heap := s.heap.push { cls := .type "reversed", data := .fields #[.ref l, rawInt ((items.size : Int) - 1)] }, toks := tk }) : wpAny (model prog w) A (call (.type "reversed") [.ref l]) Q E s := by
  obtain ⟨⟨c, dct, dt, sl⟩, hl, hc, n, hd⟩ := hl
  replace hc : c = .type "tuple" := hc
  replace hd : dt = .seq items n := hd
  subst hc hd
  refine callType_new called_rev (by decide) (F.typeCall_reversed_1 _) (F.newCall_reversed_1 _) (fun obj => F.args_object_init_2 obj _) F.entry_reversed_new (rev_newT l items n dct sl hz) ⟨hl, fun tk => ?_⟩
  exact ⟨⟨_, Heap.get?_push_size _ rfl, rfl⟩, h tk⟩
theorem next_revT_item {it l : Addr} {i : Nat} {items : Array Value} {x : Value} {Q : Option Value → Shared → Prop} (hit : IsRevT s.heap it l (i : Int)) (hl : IsTup s.heap l items) (hz : (items.size : Int) < 2 ^ 63) (hx : items[i]? = some x)
    (hQ : ∀ h' tk, IsRevT h' it l ((i : Int) - 1) → Heap.SameBut it s.heap h' → Q (some x) { s with heap := h', toks := tk }) : wpAny (model prog w) A (pyNext (.ref it)) Q E s := by
  obtain ⟨o, ho, hc, hd⟩ := id hit
  have hi : i < items.size := (Array.getElem?_eq_some_iff.mp hx).1
  have hTt : s.TypeIs (.ref l) "tuple" := let ⟨ot, h1, h2, _⟩ := hl; ⟨ot, h1, h2⟩
  unfold pyNext
  refine wpAny_bind (wpAny_attempt (wpAny_callSpecial?_slot (name := Str.ofString "__next__") hit.typeIs slot_rev_next
    (wpAny_call_entry slot_rev_next hit.typeIs entry_rev_next ?_ (args_rev_next _))))
  unfold Builtin.«reversed.__next__»
  refine wpAny_bind (wpAny_of_eq (a := (Value.ref it, [])) rfl ?_)
  try dsimp only
  refine wpAny_bind (wpAny_field ho hd (x := .ref l) rfl ?_)
  refine wpAny_bind (wpAny_field ho hd (x := rawInt (i : Int)) rfl ?_)
  show wpAny _ _ (if (i : Int) < 0 then _ else _) _ _ s
  rw [if_neg (by omega)]
  try dsimp only
  refine wpAny_bind (wpAny_specialOf hTt slot_tuple_getitem.lookup ?_)
  try dsimp only
  rw [if_neg (by decide)]
  refine wpAny_bind (wpAny_mkInt ?_)
  refine wpAny_bind (wpAny_attempt (getItem_tuple (s := { s with toks := s.toks + 1 }) (j := i) (x := x) hl (by omega) (by omega) ?_ hx ?_))
  · have e := (ixN_seq (n := items.size) (i := (i : Int)) (j := i) (by unfold ixN; rw [if_pos (by omega), if_pos (by omega)]; simp)).1
    exact e
  try dsimp only
  refine wpAny_bind (wpAny_field ho hd (x := rawInt (i : Int)) rfl ?_)
  show wpAny _ _ (setField (.ref it) 1 (rawInt ((i : Int) - 1)) >>= _) _ _ _
  refine wpAny_bind (wpAny_setField ho hd (by simp) (wpAny_pure ⟨x, rfl, wpAny_pure (hQ _ _ ?_ (Heap.SameBut.update ..))⟩))
  exact ⟨_, Heap.get?_update_self _ ho (Obj.isFreed_of_fields (Obj.data_mapFields hd _)), (Obj.cls_mapFields ..).trans hc, by
    rw [Obj.data_mapFields hd]; simp⟩
theorem next_revT_end {it l : Addr} {Q : Option Value → Shared → Prop} (hh : A.handled = none) (hit : IsRevT s.heap it l (-1))
    (hQ : ∀ h', Heap.ExtBut it s.heap h' → Q none { s with heap := h' }) : wpAny (model prog w) A (pyNext (.ref it)) Q E s := by
  obtain ⟨o, ho, hc, hd⟩ := id hit
  unfold pyNext
  refine wpAny_bind (wpAny_attempt (wpAny_callSpecial?_slot (name := Str.ofString "__next__") hit.typeIs slot_rev_next
    (wpAny_call_entry slot_rev_next hit.typeIs entry_rev_next ?_ (args_rev_next _))))
  unfold Builtin.«reversed.__next__»
  refine wpAny_bind (wpAny_of_eq (a := (Value.ref it, [])) rfl ?_)
  try dsimp only
  refine wpAny_bind (wpAny_field ho hd (x := .ref l) rfl ?_)
  refine wpAny_bind (wpAny_field ho hd (x := rawInt (-1)) rfl ?_)
  show wpAny _ _ (if (-1 : Int) < 0 then _ else _) _ _ s
  rw [if_pos (by decide)]
  refine wpAny_bind (wpAny_rule ?_)
  refine wpAny_bind ?_
  show wpAny _ _ (setField (.ref it) 1 (rawInt (-1)) >>= _) _ _ s
  refine wpAny_bind (wpAny_setField ho hd (by simp) ?_)
  refine wpAny_setField (Heap.get?_update_self _ ho (Obj.isFreed_of_fields (Obj.data_mapFields hd _))) (Obj.data_mapFields hd _) (by simp) ?_
  first
  | show wpAny _ _ (newExc (.type "StopIteration") [] >>= _) _ _ _
  | (refine wpAny_bind ?_; show wpAny _ _ (newExc (.type "StopIteration") [] >>= _) _ _ _)
  refine wpAny_bind ?_
  simp only [newExc, newTuple]
  refine wpAny_bind (wpAny_newObj_type ?_ (by size_fits))
  refine wpAny_bind (m := firstArgMember _ _) (wpAny_of_eq (a := Value.none) (by first | rfl | (simp only [firstArgMember]; rfl)) ?_)
  refine wpAny_newObj_type ?_ (by size_fits)
  simp only [raiseNew]
  refine wpAny_bind (wpAny_handled ?_)
  first | rw [show A.in1.handled = none from hh] | rw [hh]
  refine wpAny_bind (wpAny_pure (wpAny_throw ?_))
  refine wpAny_bind (wpAny_isInstance (T := "StopIteration") (b := true) ⟨_, Heap.get?_push_size _ rfl, rfl⟩ isSubtype_stop ?_)
  refine wpAny_pure (hQ _ ((Heap.ExtBut.push ?_ _).push _))
  intro b ob hb e
  rw [Heap.get?_update_ne _ _ _ _ hb, Heap.get?_update_ne _ _ _ _ hb]
  exact e
theorem iter_revT {it l : Addr} {i : Int} {Q : Value → Shared → Prop} (hit : IsRevT s.heap it l i) (h : Q (.ref it) s) : wpAny (model prog w) A (pyIter (.ref it)) Q E s := by
  refine wpAny_pyIter_slot hit.typeIs slot_rev_iter (wpAny_call_entry slot_rev_iter hit.typeIs entry_rev_iter ?_ (args_rev_iter _))
  show wpAny _ _ (ret (.ref it)) _ _ s
  exact wpAny_pure ⟨_, rfl, "reversed", _, hit.typeIs, slot_rev_next.lookup, h⟩
end
def ItvT (K : PySem.W.Frag) (a : Addr) (n : Nat) : It :=
  ⟨fun i H => i < n ∧ ∃ (xs : List V) (x : V), SqT K H a xs ∧ xs[n - 1 - i]? = some x, fun i H x H' => H' = H ∧ ∀ xs, SqT K H a xs → xs[n - 1 - i]? = some x, fun i _ => n ≤ i⟩
theorem turn_revT {P : Program} {w : World} {K : PySem.W.Frag} {tg : Expr} (a it : Addr) (n : Nat) : Turn P w K tg (ItvT K a n) [it] it (fun i h => i ≤ n ∧ IsRevT h it a ((n : Int) - 1 - (i : Nat))) where
  mem := by simp
  obj := fun i h st b hb => by
    have e : b = it := by simpa using hb
    subst e
    obtain ⟨_, o, e, c, d⟩ := st
    exact ⟨o, e, fun v z => by rw [d] at z; cases z⟩
  keep := fun i h h' st k => ⟨st.1, let ⟨o, ho, r⟩ := st.2; ⟨o, k it (by simp) o ho, r⟩⟩
  item := by
    intro X hP hw hK hc i pins s σ H E I hf st hg
    subst hP hw hK
    obtain ⟨hin, xs, x, hq, hx⟩ := hg
    obtain ⟨its, rv, p, hz⟩ := I.tuple hq
    obtain ⟨u, hu, ru⟩ := rv.get hx
    have hl := rv.length
    have hsl := sizeLine_eq
    obtain ⟨f0, f1, f2, f3, f4, f5⟩ := hf it (by simp)
    obtain ⟨_, hit⟩ := st
    have e1 : (n : Int) - 1 - ((i : Nat) : Int) = ((n - 1 - i : Nat) : Int) := by omega
    rw [e1] at hit
    refine next_revT_item hit p (by simp; omega) (x := u) (by simpa using hu) fun h' tk' st' sb => ?_
    have e2 : ((n - 1 - i : Nat) : Int) - 1 = (n : Int) - 1 - ((i + 1 : Nat) : Int) := by omega
    rw [e2] at st'
    have I1 : Inv X pins σ H { s with heap := h', toks := tk' } := I.turned (t' := tk') (fun b o hb e => (sb.2 b hb).trans e) f0 f1 f3 f4 f5
    obtain ⟨o, e, c, d⟩ := id st'
    exact ⟨u, rfl, go_of (s := { s with heap := h', toks := tk' }) e c d (by decide) ⟨x, H, I1, ru, ⟨rfl, fun ys hy => by rw [I.tuple_inj hy hq]; exact hx⟩, ⟨hin, st'⟩, fun b hb => (hf b hb).1⟩⟩
  done := by
    intro X hP hw hK hc i pins s σ H E I hf st hg
    subst hP hw hK
    obtain ⟨f0, f1, f2, f3, f4, f5⟩ := hf it (by simp)
    obtain ⟨hin, hit⟩ := st
    have hge : n ≤ i := hg
    have e1 : (n : Int) - 1 - ((i : Nat) : Int) = -1 := by omega
    rw [e1] at hit
    exact next_revT_end (I.ok.hd hc) hit fun h' eb => ⟨rfl, I.turned (t' := s.toks) (fun b o hb e => eb b o hb e) f0 f1 f3 f4 f5⟩
  self := fun A i s Q E st h => iter_revT st.2 h
def iRevT (K : PySem.W.Frag) (ta : TA) : TI := fun σ H R => ta σ H fun vs H1 => ∃ (a : Addr) (xs : List V), vs = [.ref a] ∧ SqT K H1 a xs ∧ R (ItvT K a xs.length) H1
theorem pi_revT {X : Cx} {tg e : Expr} {ta : TA} {p pos : Pos} (hg : Gl X "reversed") (hm : X.mg "reversed" = none) (ha : PA X [e] ta) (hs : starEach [e] X.env = [(false, eval e X.env)] := by rfl) : PI X tg (.Call (.Name "reversed" p) [e] [] pos) (iRevT X.K ta) := by
  intro pins s σ H R I h
  refine Call_ (ld_blt I hg hm boot_reversed5 (PyProof.Rows.callWith_type1 (thn (ha pos pins s σ H _ I h) fun us s1 ⟨vs, H1, I1, r1, q1⟩ => ?_) hs rfl))
  obtain ⟨a, xs, e, hq, q⟩ := q1
  subst e
  cases r1 with
  | cons r rr =>
    cases rr
    cases r
    obtain ⟨its, rv, p', hz⟩ := I1.tuple hq
    have hl := rv.length
    have hsl := sizeLine_eq
    have e1 : ((its.toArray.size : Nat) : Int) - 1 = (xs.length : Int) - 1 - ((0 : Nat) : Int) := by simp only [List.size_toArray]; omega
    refine call_revT p' (by simp; omega) fun tk => iter_revT (l := a) (i := ((its.toArray.size : Nat) : Int) - 1) ⟨_, Heap.get?_push_size _ rfl, rfl, rfl⟩ ?_
    refine pi_one (tk := tk) I1 _ (turn_revT a _ xs.length) ⟨Nat.zero_le _, ?_⟩ q
    rw [← e1]
    exact ⟨_, Heap.get?_push_size _ rfl, rfl, rfl⟩
end L2
namespace YP
open PySem PySem.Spec PyProof.Rows L2
def top (i : Nat) : Stmt := PySem.Challenge.pw_yardplans_s01_answers.main.body.getD i (.Pass ⟨0, 0, 0, 0⟩)
abbrev s_Plan___init__ : Stmt := inClass (top 4) 0
theorem sc_Plan___init__ : FnScope ["self"] ["self"] (defScope s_Plan___init__) := ⟨rfl, rfl, rfl, by decide +kernel, rfl, by decide +kernel, by decide +kernel⟩
abbrev s_Plan_add_section : Stmt := inClass (top 4) 1
theorem sc_Plan_add_section : FnScope ["self", "kind", "name"] ["self", "kind", "name"] (defScope s_Plan_add_section) := ⟨rfl, rfl, rfl, by decide +kernel, rfl, by decide +kernel, by decide +kernel⟩
abbrev s_Plan_add_join : Stmt := inClass (top 4) 2
theorem sc_Plan_add_join : FnScope ["self", "first", "second"] ["self", "first", "second"] (defScope s_Plan_add_join) := ⟨rfl, rfl, rfl, by decide +kernel, rfl, by decide +kernel, by decide +kernel⟩
abbrev s_Plan_add_border : Stmt := inClass (top 4) 3
theorem sc_Plan_add_border : FnScope ["self", "end"] ["self", "end"] (defScope s_Plan_add_border) := ⟨rfl, rfl, rfl, by decide +kernel, rfl, by decide +kernel, by decide +kernel⟩
abbrev s_Plan_add_signal : Stmt := inClass (top 4) 4
theorem sc_Plan_add_signal : FnScope ["self", "end"] ["self", "end"] (defScope s_Plan_add_signal) := ⟨rfl, rfl, rfl, by decide +kernel, rfl, by decide +kernel, by decide +kernel⟩
abbrev s_Plan_section_kind : Stmt := inClass (top 4) 5
theorem sc_Plan_section_kind : FnScope ["self", "section"] ["self", "section"] (defScope s_Plan_section_kind) := ⟨rfl, rfl, rfl, by decide +kernel, rfl, by decide +kernel, by decide +kernel⟩
abbrev s_Plan_section_name : Stmt := inClass (top 4) 6
theorem sc_Plan_section_name : FnScope ["self", "section"] ["self", "section"] (defScope s_Plan_section_name) := ⟨rfl, rfl, rfl, by decide +kernel, rfl, by decide +kernel, by decide +kernel⟩
abbrev s_Plan_has_end : Stmt := inClass (top 4) 7
theorem sc_Plan_has_end : FnScope ["self", "end"] ["self", "end"] (defScope s_Plan_has_end) := ⟨rfl, rfl, rfl, by decide +kernel, rfl, by decide +kernel, by decide +kernel⟩
abbrev s_Plan_is_taken : Stmt := inClass (top 4) 8
theorem sc_Plan_is_taken : FnScope ["self", "end"] ["self", "end"] (defScope s_Plan_is_taken) := ⟨rfl, rfl, rfl, by decide +kernel, rfl, by decide +kernel, by decide +kernel⟩
abbrev s_Plan_border_ends : Stmt := inClass (top 4) 9
theorem sc_Plan_border_ends : FnScope ["self"] ["self"] (defScope s_Plan_border_ends) := ⟨rfl, rfl, rfl, by decide +kernel, rfl, by decide +kernel, by decide +kernel⟩
abbrev s_Plan_signal_ends : Stmt := inClass (top 4) 10
theorem sc_Plan_signal_ends : FnScope ["self"] ["self"] (defScope s_Plan_signal_ends) := ⟨rfl, rfl, rfl, by decide +kernel, rfl, by decide +kernel, by decide +kernel⟩
abbrev s_Plan_join_ends : Stmt := inClass (top 4) 11
theorem sc_Plan_join_ends : FnScope ["self", "end"] ["self"] (defScope s_Plan_join_ends) := ⟨rfl, rfl, rfl, by decide +kernel, rfl, by decide +kernel, by decide +kernel⟩
abbrev s_sections_of : Stmt := top 6
theorem sc_sections_of : FnScope ["route", "step"] ["route"] (defScope s_sections_of) := ⟨rfl, rfl, rfl, by decide +kernel, rfl, by decide +kernel, by decide +kernel⟩
abbrev s_needed_points : Stmt := top 7
theorem sc_needed_points : FnScope ["plan", "route", "step"] ["plan", "route"] (defScope s_needed_points) := ⟨rfl, rfl, rfl, by decide +kernel, rfl, by decide +kernel, by decide +kernel⟩
abbrev s_shared_sections : Stmt := top 8
theorem sc_shared_sections : FnScope ["route", "other", "others", "section"] ["route", "other"] (defScope s_shared_sections) := ⟨rfl, rfl, rfl, by decide +kernel, rfl, by decide +kernel, by decide +kernel⟩
abbrev s_in_conflict : Stmt := top 9
theorem sc_in_conflict : FnScope ["route", "other"] ["route", "other"] (defScope s_in_conflict) := ⟨rfl, rfl, rfl, by decide +kernel, rfl, by decide +kernel, by decide +kernel⟩
abbrev s_taken_in_turn : Stmt := top 10
theorem sc_taken_in_turn : FnScope ["routes", "numbers", "taken", "used", "number", "sections", "section"] ["routes", "numbers"] (defScope s_taken_in_turn) := ⟨rfl, rfl, rfl, by decide +kernel, rfl, by decide +kernel, by decide +kernel⟩
abbrev s_most_at_once : Stmt := top 11
theorem sc_most_at_once : FnScope ["routes", "numbers", "first", "behind", "beside", "number", "taking", "leaving"] ["routes", "numbers"] (defScope s_most_at_once) := ⟨rfl, rfl, rfl, by decide +kernel, rfl, by decide +kernel, by decide +kernel⟩
abbrev s_codes : Stmt := top 19
theorem sc_codes : FnScope ["text", "sign"] ["text"] (defScope s_codes) := ⟨rfl, rfl, rfl, by decide +kernel, rfl, by decide +kernel, by decide +kernel⟩
abbrev s_parted : Stmt := top 20
theorem sc_parted : FnScope ["row", "mark", "parts", "number"] ["row", "mark"] (defScope s_parted) := ⟨rfl, rfl, rfl, by decide +kernel, rfl, by decide +kernel, by decide +kernel⟩
abbrev s_is_capital : Stmt := top 21
theorem sc_is_capital : FnScope ["byte"] ["byte"] (defScope s_is_capital) := ⟨rfl, rfl, rfl, by decide +kernel, rfl, by decide +kernel, by decide +kernel⟩
abbrev s_is_digit : Stmt := top 22
theorem sc_is_digit : FnScope ["byte", "highest"] ["byte", "highest"] (defScope s_is_digit) := ⟨rfl, rfl, rfl, by decide +kernel, rfl, by decide +kernel, by decide +kernel⟩
abbrev s_is_name : Stmt := top 23
theorem sc_is_name : FnScope ["word", "byte"] ["word"] (defScope s_is_name) := ⟨rfl, rfl, rfl, by decide +kernel, rfl, by decide +kernel, by decide +kernel⟩
abbrev s_is_end : Stmt := top 24
theorem sc_is_end : FnScope ["word"] ["word"] (defScope s_is_end) := ⟨rfl, rfl, rfl, by decide +kernel, rfl, by decide +kernel, by decide +kernel⟩
abbrev s_line_of : Stmt := top 26
theorem sc_line_of : FnScope ["first", "words", "line", "word"] ["first", "words"] (defScope s_line_of) := ⟨rfl, rfl, rfl, by decide +kernel, rfl, by decide +kernel, by decide +kernel⟩
abbrev s_end_word : Stmt := top 27
theorem sc_end_word : FnScope ["plan", "end"] ["plan", "end"] (defScope s_end_word) := ⟨rfl, rfl, rfl, by decide +kernel, rfl, by decide +kernel, by decide +kernel⟩
abbrev s_print_plan : Stmt := top 28
theorem sc_print_plan : FnScope ["plan", "text", "kind", "name", "first", "second", "end"] ["plan"] (defScope s_print_plan) := ⟨rfl, rfl, rfl, by decide +kernel, rfl, by decide +kernel, by decide +kernel⟩
abbrev s_are_ends : Stmt := top 40
theorem sc_are_ends : FnScope ["words", "count", "word"] ["words", "count"] (defScope s_are_ends) := ⟨rfl, rfl, rfl, by decide +kernel, rfl, by decide +kernel, by decide +kernel⟩
abbrev s_find_end : Stmt := top 41
theorem sc_find_end : FnScope ["plan", "word", "section", "end"] ["plan", "word"] (defScope s_find_end) := ⟨rfl, rfl, rfl, by decide +kernel, rfl, by decide +kernel, by decide +kernel⟩
abbrev s_is_at_plain : Stmt := top 42
theorem sc_is_at_plain : FnScope ["plan", "end"] ["plan", "end"] (defScope s_is_at_plain) := ⟨rfl, rfl, rfl, by decide +kernel, rfl, by decide +kernel, by decide +kernel⟩
abbrev s_read_section : Stmt := top 43
theorem sc_read_section : FnScope ["plan", "kind", "words", "name"] ["plan", "kind", "words"] (defScope s_read_section) := ⟨rfl, rfl, rfl, by decide +kernel, rfl, by decide +kernel, by decide +kernel⟩
abbrev s_read_join : Stmt := top 44
theorem sc_read_join : FnScope ["plan", "words", "first", "second"] ["plan", "words"] (defScope s_read_join) := ⟨rfl, rfl, rfl, by decide +kernel, rfl, by decide +kernel, by decide +kernel⟩
abbrev s_read_border : Stmt := top 45
theorem sc_read_border : FnScope ["plan", "words", "end"] ["plan", "words"] (defScope s_read_border) := ⟨rfl, rfl, rfl, by decide +kernel, rfl, by decide +kernel, by decide +kernel⟩
abbrev s_read_signal : Stmt := top 46
theorem sc_read_signal : FnScope ["plan", "words", "end"] ["plan", "words"] (defScope s_read_signal) := ⟨rfl, rfl, rfl, by decide +kernel, rfl, by decide +kernel, by decide +kernel⟩
abbrev s_read_line : Stmt := top 47
theorem sc_read_line : FnScope ["plan", "line", "words", "behind", "kind", "word"] ["plan", "line"] (defScope s_read_line) := ⟨rfl, rfl, rfl, by decide +kernel, rfl, by decide +kernel, by decide +kernel⟩
abbrev s_read_text : Stmt := top 48
theorem sc_read_text : FnScope ["plan", "text", "parts", "lines", "number", "line", "fault"] ["plan", "text"] (defScope s_read_text) := ⟨rfl, rfl, rfl, by decide +kernel, rfl, by decide +kernel, by decide +kernel⟩
abbrev s_may_stop : Stmt := top 51
theorem sc_may_stop : FnScope ["plan", "step", "end"] ["plan", "step"] (defScope s_may_stop) := ⟨rfl, rfl, rfl, by decide +kernel, rfl, by decide +kernel, by decide +kernel⟩
abbrev s_ways_on : Stmt := top 52
theorem sc_ways_on : FnScope ["plan", "way", "left", "entered", "section", "step", "exits", "end"] ["plan", "way"] (defScope s_ways_on) := ⟨rfl, rfl, rfl, by decide +kernel, rfl, by decide +kernel, by decide +kernel⟩
abbrev s_routes_from : Stmt := top 53
theorem sc_routes_from : FnScope ["plan", "signal", "found", "waiting", "way"] ["plan", "signal"] (defScope s_routes_from) := ⟨rfl, rfl, rfl, by decide +kernel, rfl, by decide +kernel, by decide +kernel⟩
abbrev s_find_routes : Stmt := top 54
theorem sc_find_routes : FnScope ["plan", "routes", "number", "signal", "steps"] ["plan"] (defScope s_find_routes) := ⟨rfl, rfl, rfl, by decide +kernel, rfl, by decide +kernel, by decide +kernel⟩
abbrev s_Box___init__ : Stmt := inClass (top 59) 0
theorem sc_Box___init__ : FnScope ["self"] ["self"] (defScope s_Box___init__) := ⟨rfl, rfl, rfl, by decide +kernel, rfl, by decide +kernel, by decide +kernel⟩
abbrev s_Box_hold : Stmt := inClass (top 59) 1
theorem sc_Box_hold : FnScope ["self", "plan"] ["self", "plan"] (defScope s_Box_hold) := ⟨rfl, rfl, rfl, by decide +kernel, rfl, by decide +kernel, by decide +kernel⟩
abbrev s_Box_all_routes : Stmt := inClass (top 59) 2
theorem sc_Box_all_routes : FnScope ["self"] ["self"] (defScope s_Box_all_routes) := ⟨rfl, rfl, rfl, by decide +kernel, rfl, by decide +kernel, by decide +kernel⟩
abbrev s_Box_has_routes : Stmt := inClass (top 59) 3
theorem sc_Box_has_routes : FnScope ["self", "numbers", "count", "number"] ["self", "numbers"] (defScope s_Box_has_routes) := ⟨rfl, rfl, rfl, by decide +kernel, rfl, by decide +kernel, by decide +kernel⟩
abbrev s_answer_read : Stmt := top 60
theorem sc_answer_read : FnScope ["box", "text", "plan", "fault"] ["box", "text"] (defScope s_answer_read) := ⟨rfl, rfl, rfl, by decide +kernel, rfl, by decide +kernel, by decide +kernel⟩
abbrev s_answer_print : Stmt := top 61
theorem sc_answer_print : FnScope ["box", "given", "text"] ["box", "given"] (defScope s_answer_print) := ⟨rfl, rfl, rfl, by decide +kernel, rfl, by decide +kernel, by decide +kernel⟩
abbrev s_answer_section : Stmt := top 62
theorem sc_answer_section : FnScope ["box", "given", "plan", "section", "name"] ["box", "given"] (defScope s_answer_section) := ⟨rfl, rfl, rfl, by decide +kernel, rfl, by decide +kernel, by decide +kernel⟩
abbrev s_answer_end : Stmt := top 63
theorem sc_answer_end : FnScope ["box", "given", "plan", "end", "signal"] ["box", "given"] (defScope s_answer_end) := ⟨rfl, rfl, rfl, by decide +kernel, rfl, by decide +kernel, by decide +kernel⟩
abbrev s_answer_counts : Stmt := top 64
theorem sc_answer_counts : FnScope ["box", "given", "plan"] ["box", "given"] (defScope s_answer_counts) := ⟨rfl, rfl, rfl, by decide +kernel, rfl, by decide +kernel, by decide +kernel⟩
abbrev s_answer_routes : Stmt := top 65
theorem sc_answer_routes : FnScope ["box", "given"] ["box", "given"] (defScope s_answer_routes) := ⟨rfl, rfl, rfl, by decide +kernel, rfl, by decide +kernel, by decide +kernel⟩
abbrev s_answer_route : Stmt := top 66
theorem sc_answer_route : FnScope ["box", "given", "route", "told", "step"] ["box", "given"] (defScope s_answer_route) := ⟨rfl, rfl, rfl, by decide +kernel, rfl, by decide +kernel, by decide +kernel⟩
abbrev s_answer_points : Stmt := top 67
theorem sc_answer_points : FnScope ["box", "given", "points", "told", "point"] ["box", "given"] (defScope s_answer_points) := ⟨rfl, rfl, rfl, by decide +kernel, rfl, by decide +kernel, by decide +kernel⟩
abbrev s_answer_conflict : Stmt := top 68
theorem sc_answer_conflict : FnScope ["box", "given", "routes", "shared"] ["box", "given"] (defScope s_answer_conflict) := ⟨rfl, rfl, rfl, by decide +kernel, rfl, by decide +kernel, by decide +kernel⟩
abbrev s_answer_from : Stmt := top 69
theorem sc_answer_from : FnScope ["box", "given", "signal", "numbers", "number", "route"] ["box", "given"] (defScope s_answer_from) := ⟨rfl, rfl, rfl, by decide +kernel, rfl, by decide +kernel, by decide +kernel⟩
abbrev s_answer_together : Stmt := top 70
theorem sc_answer_together : FnScope ["box", "numbers", "taken"] ["box", "numbers"] (defScope s_answer_together) := ⟨rfl, rfl, rfl, by decide +kernel, rfl, by decide +kernel, by decide +kernel⟩
abbrev s_is_rising : Stmt := top 71
theorem sc_is_rising : FnScope ["numbers", "low", "high"] ["numbers"] (defScope s_is_rising) := ⟨rfl, rfl, rfl, by decide +kernel, rfl, by decide +kernel, by decide +kernel⟩
abbrev s_answer_most : Stmt := top 72
theorem sc_answer_most : FnScope ["box", "numbers", "most"] ["box", "numbers"] (defScope s_answer_most) := ⟨rfl, rfl, rfl, by decide +kernel, rfl, by decide +kernel, by decide +kernel⟩
abbrev s_answer_call : Stmt := top 74
theorem sc_answer_call : FnScope ["box", "number", "given", "act"] ["box", "number", "given"] (defScope s_answer_call) := ⟨rfl, rfl, rfl, by decide +kernel, rfl, by decide +kernel, by decide +kernel⟩
abbrev s_split_calls : Stmt := top 75
theorem sc_split_calls : FnScope ["calls", "split", "place", "number", "start", "size"] ["calls"] (defScope s_split_calls) := ⟨rfl, rfl, rfl, by decide +kernel, rfl, by decide +kernel, by decide +kernel⟩
abbrev s_answers : Stmt := top 76
theorem sc_answers : FnScope ["calls", "box", "told", "number", "given", "answer"] ["calls"] (defScope s_answers) := ⟨rfl, rfl, rfl, by decide +kernel, rfl, by decide +kernel, by decide +kernel⟩
abbrev GI (mg : Str → Option Value) (x : Str) (i : Int) : Prop := ∃ t, mg x = some (.int i t)
structure GT (K : PySem.W.Frag) (mg : Str → Option Value) (x : Str) (R : Addr → Prop) : Prop where
  ex : ∃ a, mg x = some (.ref a) ∧ R a
abbrev MT (K : PySem.W.Frag) (a : Addr) (xs : List V) : Prop := ∀ H : Hp, SqT K H a xs
section
variable {X : Cx} {x : Str} {pos : Pos}
theorem pe_gint {i : Int} (hg : Gl X x) (h : GI X.mg x i) (hd : (x == ("__debug__" : Str)) = false := by decide) : PE X (.Name x pos) (tC (.int i)) := by
  obtain ⟨t, e⟩ := h
  exact pe_glob hg e ⟨t, rfl⟩ hd
def tGT (R : Addr → Prop) : TE := fun _ H Q => ∀ a, R a → Q (.ref a) H
theorem pe_gtup {R : Addr → Prop} (hg : Gl X x) (h : GT X.K X.mg x R) (hd : (x == ("__debug__" : Str)) = false := by decide) : PE X (.Name x pos) (tGT R) := by
  obtain ⟨a, e, r⟩ := h.ex
  intro pins s σ H Q I q
  exact pe_glob (v := .ref a) hg e rfl hd pins s σ H Q I (q a r)
end
structure MkG (K : PySem.W.Frag) (mg : Str → Option Value) (C : Addr) (x qual : Str) (st : Stmt) : Prop where
  ex : ∃ (f : Addr) (fd : FuncData), Mk K C f ∧ Fun K "__init__" qual st f fd ∧ Binds K fd ["self"] [] ∧ mg x = some (.ref C)
structure In (P : Program) (w : World) (K : PySem.W.Frag) (mg : Str → Option Value) (base : Heap) (C : Addr) (k : Nat) (x : Str) (sp : Sp) : Prop where
  ex : ∃ (f : Addr) (fd : FuncData), Mk K C f ∧ FnOk P w K mg base CX0 k f fd ["self"] sp ∧ Binds K fd ["self"] [] ∧ mg x = some (.ref C)
theorem MkG.ok {P : Program} {w : World} {K : PySem.W.Frag} {mg : Str → Option Value} {base : Heap} {C : Addr} {x qual : Str} {st : Stmt} {N : List Str} {k : Nat} {sp : Sp} (G : MkG K mg C x qual st) (S : FnScope N ["self"] (defScope st)) (len : ∀ vs H Q E, sp vs H Q E → vs.length = 1)
    (hbody : ∀ (f : Addr) (cdv : Value) (A : Around) (outer : List Env) (s : Shared) (H : Hp) (vs : List V) (Q : VK) (E : XK), Room k (A.deeper (envOfC qual (defScope st) s.heap.objs.size f cdv)) → sp vs H Q E →
      ∃ t, PSs (cxOf CX0 P w K mg base N qual (defScope st) f cdv A outer s H E).nox (defBody st) t ∧ t { nx := fun _ H' => Q .non H', rt := Q } (start N vs) H) : In P w K mg base C (k + 1) x sp := by
  obtain ⟨f, fd, M, F, hb, hm⟩ := G.ex
  exact ⟨f, fd, M, F.ok S len (hbody f), hb, hm⟩
theorem pe_mk0 {X : Cx} {C : Addr} {k : Nat} {x : Str} {sp : Sp} {p pos : Pos} {qual : Str} {st : Stmt} (_ : MkG X.K X.mg C x qual st) (F : In X.prog X.w X.K X.mg X.base C k x sp) (hr : Room (k + 1) X.A) (hg : Gl X x) (hdb : (x == ("__debug__" : Str)) = false := by decide) :
    PE X (.Call (.Name x p) [] [] pos) (tMake C sp [] E0 tNil) := by
  obtain ⟨f, fd, M, a, b, c⟩ := F.ex
  exact pe_make0 M a hr hg c b .nil pass0 hdb
theorem _root_.L2.Room.u65 {k : Nat} {A : Around} (r : Room k A) : A.units + 65 < cLine := by have := r.un; omega
def ThR (K : PySem.W.Frag) (a : Addr) : Prop := ∃ a0 a1 a2 b00 b01 b10 b11 b12 b20 b21 b22 b23 : Addr, MT K a [.ref a0, .ref a1, .ref a2] ∧ MT K a0 [.ref b00, .ref b01] ∧ MT K a1 [.ref b10, .ref b11, .ref b12] ∧ MT K a2 [.ref b20, .ref b21, .ref b22, .ref b23] ∧
  MT K b00 [.int 1] ∧ MT K b01 [.int 0] ∧ MT K b10 [.int 1, .int 2] ∧ MT K b11 [.int 0] ∧ MT K b12 [.int 0] ∧ MT K b20 [.int 1] ∧ MT K b21 [.int 0] ∧ MT K b22 [.int 3] ∧ MT K b23 [.int 2]
def callNames : List Str := ["answer_read", "answer_print", "answer_section", "answer_end", "answer_counts", "answer_routes", "answer_route", "answer_points", "answer_conflict", "answer_from", "answer_together", "answer_most"]
def callSizes : List V := [.non, .int 0, .int 1, .int 2, .int 0, .int 0, .int 1, .int 1, .int 2, .int 1, .non, .non]
def callRoutes : List Bool := [false, false, false, false, false, true, true, true, true, true, true, true]
def CaR (K : PySem.W.Frag) (mg : Str → Option Value) (a : Addr) : Prop := ∃ rs fs : List Addr, MT K a (rs.map V.ref) ∧ rs.length = 12 ∧ fs.length = 12 ∧ ∀ (i : Nat) (x : Str) (z : V) (b : Bool), callNames[i]? = some x → callSizes[i]? = some z → callRoutes[i]? = some b →
  ∃ r f, rs[i]? = some r ∧ mg x = some (.ref f) ∧ MT K r [.ref f, z, .bl b]
structure Txt (K : PySem.W.Frag) (mg : Str → Option Value) (CP CB : Addr) : Prop where
  cP : Cls K CP
  cB : Cls K CB
  nP_sections : NoAttr K CP "sections"
  nP_numbers : NoAttr K CP "numbers"
  nP_joined : NoAttr K CP "joined"
  nP_borders : NoAttr K CP "borders"
  nP_signals : NoAttr K CP "signals"
  nB_plan : NoAttr K CB "plan"
  nB_found : NoAttr K CB "found"
  mk_Plan : MkG K mg CP "Plan" "Plan.__init__" s_Plan___init__
  mk_Box : MkG K mg CB "Box" "Box.__init__" s_Box___init__
  m_Plan_add_section : MthG K CP "add_section" "Plan.add_section" s_Plan_add_section ["self", "kind", "name"]
  m_Plan_add_join : MthG K CP "add_join" "Plan.add_join" s_Plan_add_join ["self", "first", "second"]
  m_Plan_add_border : MthG K CP "add_border" "Plan.add_border" s_Plan_add_border ["self", "end"]
  m_Plan_add_signal : MthG K CP "add_signal" "Plan.add_signal" s_Plan_add_signal ["self", "end"]
  m_Plan_section_kind : MthG K CP "section_kind" "Plan.section_kind" s_Plan_section_kind ["self", "section"]
  m_Plan_section_name : MthG K CP "section_name" "Plan.section_name" s_Plan_section_name ["self", "section"]
  m_Plan_has_end : MthG K CP "has_end" "Plan.has_end" s_Plan_has_end ["self", "end"]
  m_Plan_is_taken : MthG K CP "is_taken" "Plan.is_taken" s_Plan_is_taken ["self", "end"]
  m_Plan_border_ends : MthG K CP "border_ends" "Plan.border_ends" s_Plan_border_ends ["self"]
  m_Plan_signal_ends : MthG K CP "signal_ends" "Plan.signal_ends" s_Plan_signal_ends ["self"]
  m_Plan_join_ends : MthG K CP "join_ends" "Plan.join_ends" s_Plan_join_ends ["self"]
  f_sections_of : FunG K mg "sections_of" s_sections_of ["route"]
  f_needed_points : FunG K mg "needed_points" s_needed_points ["plan", "route"]
  f_shared_sections : FunG K mg "shared_sections" s_shared_sections ["route", "other"]
  f_in_conflict : FunG K mg "in_conflict" s_in_conflict ["route", "other"]
  f_taken_in_turn : FunG K mg "taken_in_turn" s_taken_in_turn ["routes", "numbers"]
  f_most_at_once : FunG K mg "most_at_once" s_most_at_once ["routes", "numbers"]
  f_codes : FunG K mg "codes" s_codes ["text"]
  f_parted : FunG K mg "parted" s_parted ["row", "mark"]
  f_is_capital : FunG K mg "is_capital" s_is_capital ["byte"]
  f_is_digit : FunG K mg "is_digit" s_is_digit ["byte", "highest"]
  f_is_name : FunG K mg "is_name" s_is_name ["word"]
  f_is_end : FunG K mg "is_end" s_is_end ["word"]
  f_line_of : FunG K mg "line_of" s_line_of ["first", "words"]
  f_end_word : FunG K mg "end_word" s_end_word ["plan", "end"]
  f_print_plan : FunG K mg "print_plan" s_print_plan ["plan"]
  f_are_ends : FunG K mg "are_ends" s_are_ends ["words", "count"]
  f_find_end : FunG K mg "find_end" s_find_end ["plan", "word"]
  f_is_at_plain : FunG K mg "is_at_plain" s_is_at_plain ["plan", "end"]
  f_read_section : FunG K mg "read_section" s_read_section ["plan", "kind", "words"]
  f_read_join : FunG K mg "read_join" s_read_join ["plan", "words"]
  f_read_border : FunG K mg "read_border" s_read_border ["plan", "words"]
  f_read_signal : FunG K mg "read_signal" s_read_signal ["plan", "words"]
  f_read_line : FunG K mg "read_line" s_read_line ["plan", "line"]
  f_read_text : FunG K mg "read_text" s_read_text ["plan", "text"]
  f_may_stop : FunG K mg "may_stop" s_may_stop ["plan", "step"]
  f_ways_on : FunG K mg "ways_on" s_ways_on ["plan", "way"]
  f_routes_from : FunG K mg "routes_from" s_routes_from ["plan", "signal"]
  f_find_routes : FunG K mg "find_routes" s_find_routes ["plan"]
  m_Box_hold : MthG K CB "hold" "Box.hold" s_Box_hold ["self", "plan"]
  m_Box_all_routes : MthG K CB "all_routes" "Box.all_routes" s_Box_all_routes ["self"]
  m_Box_has_routes : MthG K CB "has_routes" "Box.has_routes" s_Box_has_routes ["self", "numbers"]
  f_answer_read : FunG K mg "answer_read" s_answer_read ["box", "text"]
  f_answer_print : FunG K mg "answer_print" s_answer_print ["box", "given"]
  f_answer_section : FunG K mg "answer_section" s_answer_section ["box", "given"]
  f_answer_end : FunG K mg "answer_end" s_answer_end ["box", "given"]
  f_answer_counts : FunG K mg "answer_counts" s_answer_counts ["box", "given"]
  f_answer_routes : FunG K mg "answer_routes" s_answer_routes ["box", "given"]
  f_answer_route : FunG K mg "answer_route" s_answer_route ["box", "given"]
  f_answer_points : FunG K mg "answer_points" s_answer_points ["box", "given"]
  f_answer_conflict : FunG K mg "answer_conflict" s_answer_conflict ["box", "given"]
  f_answer_from : FunG K mg "answer_from" s_answer_from ["box", "given"]
  f_answer_together : FunG K mg "answer_together" s_answer_together ["box", "numbers"]
  f_is_rising : FunG K mg "is_rising" s_is_rising ["numbers"]
  f_answer_most : FunG K mg "answer_most" s_answer_most ["box", "numbers"]
  f_answer_call : FunG K mg "answer_call" s_answer_call ["box", "number", "given"]
  f_split_calls : FunG K mg "split_calls" s_split_calls ["calls"]
  f_answers : FunG K mg "answers" s_answers ["calls"]
  c_PLAIN : GI mg "PLAIN" 0
  c_POINT : GI mg "POINT" 1
  c_LINE_END : GI mg "LINE_END" 10
  c_BLANK : GI mg "BLANK" 32
  c_DOT : GI mg "DOT" 46
  c_DIGIT_ZERO : GI mg "DIGIT_ZERO" 48
  c_LONGEST_NAME : GI mg "LONGEST_NAME" 4
  c_MOST_SECTIONS : GI mg "MOST_SECTIONS" 16
  c_MOST_SIGNALS : GI mg "MOST_SIGNALS" 12
  c_NO_FAULT : GI mg "NO_FAULT" 0
  c_NO_SUCH_LINE : GI mg "NO_SUCH_LINE" 1
  c_NAME_IS_THERE : GI mg "NAME_IS_THERE" 2
  c_NO_SUCH_END : GI mg "NO_SUCH_END" 3
  c_END_IS_TAKEN : GI mg "END_IS_TAKEN" 4
  c_NOT_JOINED : GI mg "NOT_JOINED" 5
  c_NOT_PLAIN : GI mg "NOT_PLAIN" 6
  c_TOO_MANY : GI mg "TOO_MANY" 7
  c_LONGEST_TEXT : GI mg "LONGEST_TEXT" 1024
  c_MOST_ROUTES : GI mg "MOST_ROUTES" 64
  c_LONGEST_MOST : GI mg "LONGEST_MOST" 12
  t_END_COUNTS : GT K mg "END_COUNTS" (fun a => MT K a [.int 2, .int 3, .int 4])
  t_SECTION_WORDS : GT K mg "SECTION_WORDS" (fun a => MT K a [.str "plain", .str "point", .str "cross"])
  t_THROUGH : GT K mg "THROUGH" (ThR K)
  t_CALLS : GT K mg "CALLS" (CaR K mg)
  b_len : mg "len" = none
  b_list : mg "list" = none
  b_tuple : mg "tuple" = none
  b_sorted : mg "sorted" = none
  b_ord : mg "ord" = none
  b_max : mg "max" = none
  b_all : mg "all" = none
  b_any : mg "any" = none
  b_enumerate : mg "enumerate" = none
  b_reversed : mg "reversed" = none
  b_zip : mg "zip" = none
end YP
namespace YP
open PySem PySem.Spec PyProof.Rows L2
open Yh (Bytes Spot Sect Plan Step Route)
theorem Same.new {H H1 : Hp} {p : Addr} {o : HO} (h : Same H H1) (n : H1 p = none) : Same H (upd H1 p o) := fun b u e => by
  rw [upd_ne (ne_of_none (h b u e) n)]
  exact h b u e
theorem Same.wr {H H1 : Hp} {p : Addr} {o : HO} (h : Same H H1) (n : H p = none) : Same H (upd H1 p o) := fun b u e => by
  rw [upd_ne (ne_of_none e n)]
  exact h b u e
theorem Same.new1 {H : Hp} {p : Addr} {o : HO} (n : H p = none) : Same H (upd H p o) := Same.new (Same.refl H) n
theorem yes_of {σ : L2.St} {H : Hp} {X Y : Hp → Prop} (h : X H) : tYes σ H (fun b H3 => if b = true then X H3 else Y H3) := by
  show if true = true then X H else Y H
  rw [if_pos rfl]
  exact h
theorem bfalse {b : Bool} (h : ¬ b = true) : b = false := by cases b <;> simp_all
def bi (b : Bytes) : List Int := b.map fun c => (c.toNat : Int)
theorem bi_cons (c : UInt8) (b : Bytes) : bi (c :: b) = (c.toNat : Int) :: bi b := rfl
theorem bi_append (a b : Bytes) : bi (a ++ b) = bi a ++ bi b := List.map_append
theorem bi_length (b : Bytes) : (bi b).length = b.length := List.length_map _
theorem u8_eq {a b : UInt8} : ((a.toNat : Int) = (b.toNat : Int)) ↔ a = b := by
  constructor
  · intro h
    exact UInt8.toNat_inj.mp (by omega)
  · intro h
    rw [h]
theorem bi_inj {a b : Bytes} : bi a = bi b ↔ a = b := by
  constructor
  · intro h
    induction a generalizing b with
    | nil => cases b with
      | nil => rfl
      | cons => simp [bi] at h
    | cons x a ih => cases b with
      | nil => simp [bi] at h
      | cons y b =>
        rw [bi_cons, bi_cons, List.cons.injEq] at h
        rw [u8_eq.mp h.1, ih h.2]
  · intro h
    rw [h]
abbrev iV (l : List Int) : List V := l.map V.int
abbrev bV (b : Bytes) : List V := iV (bi b)
theorem bV_append (a b : Bytes) : bV (a ++ b) = bV a ++ bV b := by
  show (bi (a ++ b)).map V.int = (bi a).map V.int ++ (bi b).map V.int
  rw [bi_append, List.map_append]
theorem bV_length (b : Bytes) : (bV b).length = b.length := by rw [List.length_map, bi_length]
abbrev retL (H : Hp) (Q : VK) (xs : List V) : Prop := ∀ (p : Addr) (H' : Hp), H p = none → Same H H' → H' p = some (.lst xs) → Q (.ref p) H'
abbrev retV (H : Hp) (Q : VK) (v : V) : Prop := ∀ H' : Hp, Same H H' → Q v H'
theorem getm {α β : Type} {f : α → β} {l : List α} {i : Nat} {y : β} (h : (l.map f)[i]? = some y) : ∃ x, l[i]? = some x ∧ y = f x := by
  rw [List.getElem?_map] at h
  cases e : l[i]? with
  | none => rw [e] at h; cases h
  | some z => rw [e] at h; exact ⟨z, rfl, (Option.some.inj h).symm⟩
theorem take_snoc {α : Type} : ∀ {l : List α} {i : Nat} {x : α}, l[i]? = some x → l.take (i + 1) = l.take i ++ [x]
  | [], i, x, h => by simp at h
  | a :: l, 0, x, h => by
    have e : a = x := Option.some.inj h
    subst e
    rfl
  | a :: l, i + 1, x, h => by
    have ih := take_snoc (l := l) (i := i) (x := x) h
    show a :: l.take (i + 1) = a :: l.take i ++ [x]
    rw [ih]
    rfl
theorem split_ne (c : UInt8) (b : Bytes) : Yh.split c b ≠ [] := by
  cases b with
  | nil => simp [Yh.split]
  | cons x r =>
    unfold Yh.split
    split
    · simp
    · split <;> simp
theorem split_snoc (c x : UInt8) : ∀ b : Bytes, Yh.split c (b ++ [x]) = if x = c then Yh.split c b ++ [[]] else (Yh.split c b).dropLast ++ [(Yh.split c b).getLast (split_ne c b) ++ [x]]
  | [] => by
    by_cases h : x = c
    · simp [Yh.split, h]
    · simp [Yh.split, h]
  | y :: r => by
    have ih := split_snoc c x r
    have e0 : ∀ (b : Bytes), Yh.split c (y :: b) = match Yh.split c b with
      | [] => [[y]]
      | w :: l => if y = c then [] :: w :: l else (y :: w) :: l := fun b => rfl
    cases hs : Yh.split c r with
    | nil => exact absurd hs (split_ne c r)
    | cons w l =>
      have es : Yh.split c (y :: r) = if y = c then [] :: w :: l else (y :: w) :: l := by rw [e0, hs]
      by_cases h : x = c
      · rw [if_pos h] at ih ⊢
        rw [List.cons_append, e0, ih, hs]
        show (if y = c then [] :: w :: (l ++ [[]]) else (y :: w) :: (l ++ [[]])) = _
        rw [es]
        split <;> rfl
      · rw [if_neg h] at ih ⊢
        rw [List.cons_append, e0, ih]
        have gl : (Yh.split c (y :: r)).getLast (split_ne c (y :: r)) = (if y = c then [] :: w :: l else (y :: w) :: l).getLast (by split <;> simp) := by
          congr 1
        rw [gl]
        have gl2 : (Yh.split c r).getLast (split_ne c r) = (w :: l).getLast (by simp) := by congr 1
        rw [gl2, es, hs]
        cases l with
        | nil => by_cases hy : y = c <;> simp [hy]
        | cons z l => by_cases hy : y = c <;> simp [hy]
theorem split_len (c : UInt8) : ∀ b : Bytes, (Yh.split c b).length ≤ b.length + 1
  | [] => by simp [Yh.split]
  | y :: r => by
    have ih := split_len c r
    unfold Yh.split
    split
    · simp
    · rename_i w l e
      rw [e] at ih
      split <;> simp at ih ⊢ <;> omega
theorem split_part (c : UInt8) : ∀ b : Bytes, ∀ w ∈ Yh.split c b, w.length ≤ b.length
  | [], w, h => by simp [Yh.split] at h; simp [h]
  | y :: r, w, h => by
    have ih := split_part c r
    unfold Yh.split at h
    split at h
    · simp at h; simp [h]
    · rename_i u l e
      rw [e] at ih
      split at h
      · rcases List.mem_cons.mp h with rfl | h
        · simp
        · have := ih w h; simp; omega
      · rcases List.mem_cons.mp h with rfl | h
        · have := ih u (List.mem_cons_self ..); simp; omega
        · have := ih w (List.mem_cons_of_mem _ h); simp; omega
section
variable {P : Program} {w : World} {K : PySem.W.Frag} {mg : Str → Option Value} {base : Heap} {CP CB : Addr}
def spCodes : Sp := fun vs H Q _ => ∃ x : Str, vs = [.str x] ∧ x.cps.size ≤ 1000 ∧ retL H Q (iV (x.cps.toList.map fun (c : Nat) => (c : Int)))
theorem fn_codes (T : Txt K mg CP CB) : Fn P w K mg base 1 "codes" ["text"] spCodes := by
  refine T.f_codes.ok sc_codes (fun vs H Q E h => ?_) (fun f cdv A outer s H vs Q E hr h => ?_)
  · obtain ⟨x, rfl, _⟩ := h
    rfl
  · obtain ⟨x, rfl, hx, k⟩ := h
    refine ⟨_, (pss_one (ps_ret (pe_lc (own := [("sign", 1)]) rfl sc_codes.nd (pi_str (pv 0)) (blkOk_by (N := ["text", "sign"]) (sc := defScope s_codes) (by decide +kernel)) (fun _ _ _ _ _ => (pg_name (i := 1) sc_codes.nd rfl (by first | exact Or.inl rfl | exact Or.inr rfl))) (fun _ _ _ _ _ => pts_nil) (fun _ _ _ _ _ => (pe_callB call_ord rfl T.b_ord PyProof.Rows.boot_ord (pa_cons (pv 1) pa_nil)))))), ?_⟩
    refine ⟨_, rfl, x, rfl, fun D hD => ?_⟩
    refine ⟨fun i m H' => m = x.cps.size - i ∧ i ≤ x.cps.size ∧ Same H H' ∧ H' D = some (.lst (iV ((x.cps.toList.take i).map fun (c : Nat) => (c : Int)))), ⟨_, rfl, Nat.zero_le _, Same.new1 hD, upd_same⟩, ?_⟩
    rintro i m H' ⟨rfl, hi, hs, hd⟩
    by_cases hlt : i < x.cps.size
    · refine .inr ⟨hlt, fun H2 => Same H H2 ∧ H2 D = some (.lst (iV ((x.cps.toList.take (i + 1)).map fun (c : Nat) => (c : Int)))), fun H2 z => ⟨_, (by omega : x.cps.size - (i + 1) < x.cps.size - i), rfl, hlt, z⟩, ?_⟩
      rintro v H2 ⟨rfl, c, hc, rfl⟩
      refine ⟨rfl, yes_of ?_⟩
      refine ⟨_, rfl, ⟨#[c]⟩, rfl, rfl, _, hd, ?_, Same.wr hs hD, ?_⟩
      · simp
        have := sizeLine_eq
        omega
      · rw [upd_same]
        have : x.cps.toList[i]? = some c := by simpa using hc
        rw [take_snoc this, List.map_append]
        simp
    · have e : i = x.cps.size := by omega
      subst e
      refine .inl ⟨Nat.le_refl _, ?_⟩
      rw [show x.cps.toList.take x.cps.size = x.cps.toList from List.take_of_length_le (by simp)] at hd
      exact k D H' hD hs hd
theorem bV_get {b : Bytes} {i : Nat} {y : V} (h : (bV b)[i]? = some y) : ∃ c, b[i]? = some c ∧ y = .int (c.toNat : Int) := by
  obtain ⟨z, h1, rfl⟩ := getm h
  obtain ⟨c, h2, rfl⟩ := getm h1
  exact ⟨c, h2, rfl⟩
def PartsAt (H H' : Hp) (p : Addr) (ls : List Bytes) : Prop := ∃ ps : List Addr, H' p = some (.lst (ps.map V.ref)) ∧ Paired (fun q l => H' q = some (.lst (bV l))) ps ls ∧ ps.Nodup ∧ ∀ q ∈ ps, H q = none
def spParted : Sp := fun vs H Q _ => ∃ (a : Addr) (b : Bytes) (m : UInt8), vs = [.ref a, .int (m.toNat : Int)] ∧ H a = some (.lst (bV b)) ∧ b.length ≤ 30000 ∧
  ∀ (p : Addr) (H' : Hp), H p = none → Same H H' → PartsAt H H' p (Yh.split m b) → Q (.ref p) H'
theorem paired_snoc {α β : Type} {G : α → β → Prop} : ∀ {l : List α} {m : List β} {a : α} {b : β}, Paired G l m → G a b → Paired G (l ++ [a]) (m ++ [b])
  | _, _, _, _, .nil, h => .cons h .nil
  | _, _, _, _, .cons g t, h => .cons g (paired_snoc t h)
theorem paired_imp {α β : Type} {G G' : α → β → Prop} : ∀ {l : List α} {m : List β}, Paired G l m → (∀ a ∈ l, ∀ b, G a b → G' a b) → Paired G' l m
  | _, _, .nil, _ => .nil
  | _, _, .cons g t, h => .cons (h _ (List.mem_cons_self ..) _ g) (paired_imp t fun a ha b => h a (List.mem_cons_of_mem _ ha) b)
theorem paired_last {α β : Type} {G : α → β → Prop} {l : List α} {m : List β} (h : Paired G l m) (hm : m ≠ []) : ∃ l' a, l = l' ++ [a] ∧ Paired G l' m.dropLast ∧ G a (m.getLast hm) := by
  induction h with
  | nil => exact absurd rfl hm
  | @cons a b l m g t ih =>
    cases m with
    | nil => cases t; exact ⟨[], a, rfl, .nil, g⟩
    | cons b' m' =>
      obtain ⟨l', a', e, p, q⟩ := ih (by simp)
      exact ⟨a :: l', a', by rw [e]; rfl, .cons g p, by simpa using q⟩
theorem refs_bV : ∀ {ps : List Addr} {l : Bytes}, ps.map V.ref = bV l → ps = []
  | [], _, _ => rfl
  | q :: ps, [], h => by cases h
  | q :: ps, c :: l, h => by injection h with e _; cases e
theorem fn_parted (T : Txt K mg CP CB) : Fn P w K mg base 1 "parted" ["row", "mark"] spParted := by
  refine T.f_parted.ok sc_parted (fun vs H Q E h => ?_) (fun f cdv A outer s H vs Q E hr h => ?_)
  · obtain ⟨a, b, m, rfl, _⟩ := h
    rfl
  · obtain ⟨a, b, m, rfl, ha, hb, k⟩ := h
    refine ⟨_, (pss_cons (ps_set (i := 2) sc_parted.nd rfl (by first | exact Or.inl rfl | exact Or.inr rfl) (pe_lst (pa_cons (pe_lst pa_nil) pa_nil)))
      (pss_cons (ps_for PassesOwn.never rfl (pi_list (pv 0)) (pg_name (i := 3) sc_parted.nd rfl (by first | exact Or.inl rfl | exact Or.inr rfl)) (pss_one (ps_if (pt_cmpR op_eq (pv 3) (pv 1) (nomark _)) (pss_one (ps_expr (pe_bm PySem.F.plainAttrs_list PySem.F.slot_list_append PySem.F.type_list_append mt_append (pv 2) (pa_cons (pe_lst pa_nil) pa_nil)))) (pss_one (ps_expr (pe_bm PySem.F.plainAttrs_list PySem.F.slot_list_append PySem.F.type_list_append mt_append (pe_ix ix_list (pv 2) (pe_un un_neg pe_int) (fun _ _ => rfl)) (pa_cons (pv 3) pa_nil)))))))
      (pss_one (ps_ret (pv 2))))), ?_⟩
    refine ⟨Nat.zero_le _, fun q hq => ⟨(by show 1 ≤ sizeLine; decide), fun p hp => ?_⟩⟩
    have hsl := sizeLine_eq
    have s1 : Same H (upd H q (.lst [])) := Same.new1 hq
    have s2 : Same H (upd (upd H q (.lst [])) p (.lst [.ref q])) := Same.new s1 hp
    have np : H p = none := s1.free hp
    have nqp : q ≠ p := ne_of_none upd_same hp
    refine ⟨_, rfl, a, rfl, ⟨_, SqL.of (s2 _ _ ha)⟩, for_list (K := K) (a := a) (xs := bV b) (fun i σ H' => ∃ v, σ = [some (.ref a), some (.int (m.toNat : Int)), some (.ref p), v] ∧ Same H H' ∧ PartsAt H H' p (Yh.split m (b.take i)))
      ⟨none, rfl, s2, [q], upd_same, .cons ?_ .nil, by simp, by simpa using hq⟩ (fun i σ H' _ ⟨_, _, hs, _⟩ => SqL.of (hs _ _ ha)) ?_ ?_⟩
    · rw [upd_ne nqp, upd_same]
      rfl
    · rintro i y σ H' hi ⟨v, rfl, hs, ps, h1, h2, h3, h4⟩
      obtain ⟨c, hc, rfl⟩ := bV_get hi
      have hil : i < b.length := (List.getElem?_eq_some_iff.mp hc).1
      have hlen : ps.length = (Yh.split m (b.take i)).length := Paired.length h2
      have hsp := split_len m (b.take i)
      have htk : (b.take i).length ≤ b.length := by simp; omega
      refine ⟨_, rfl, _, rfl, rfl, _, rfl, ite2 (fun h => ?_) (fun h => ?_)⟩
      · have ec : c = m := u8_eq.mp (by have := of_decide_eq_true h; injection this)
        refine ⟨_, rfl, .inl ⟨rfl, _, SqL.of h1⟩, Nat.zero_le _, fun r hr => ⟨p, _, _, rfl, rfl, (by rw [upd_ne (ne_of_none h1 hr)]; exact h1), (by rw [List.length_map]; omega), ?_⟩⟩
        refine ⟨_, rfl, Same.wr (Same.new hs hr) np, ps ++ [r], ?_, ?_, ?_, ?_⟩
        · rw [upd_same]
          simp
        · rw [take_snoc hc, split_snoc, if_pos ec]
          have nrp : r ≠ p := fun z => by rw [z, h1] at hr; cases hr
          refine paired_snoc (paired_imp h2 fun q' hq' l hl => ?_) ?_
          · have n1 : q' ≠ r := ne_of_none hl hr
            have n2 : q' ≠ p := fun z => by
              rw [z, h1] at hl
              have := Option.some.inj hl
              injection this with e
              have := refs_bV e
              rw [this] at hq'
              simp at hq'
            rw [upd_ne n2, upd_ne n1]
            exact hl
          · rw [upd_ne nrp, upd_same]
            rfl
        · exact nd_snoc h3 fun z => by
            obtain ⟨j, hj, ej⟩ := List.mem_iff_getElem.mp z
            obtain ⟨l, _, hl⟩ := paired_get h2 (List.getElem?_eq_getElem hj)
            rw [ej, hr] at hl
            cases hl
        · intro q' hq'
          rcases List.mem_append.mp hq' with z | z
          · exact h4 q' z
          · rw [List.mem_singleton.mp z]
            exact hs.free hr
      · have ec : ¬ c = m := fun z => h (by rw [z]; exact decide_eq_true rfl)
        have hne := split_ne m (b.take i)
        obtain ⟨ps', q', e1, p1, g1⟩ := paired_last h2 hne
        subst e1
        have nd := List.nodup_append.mp h3
        have hlast : ((Yh.split m (b.take i)).getLast hne).length ≤ b.length := Nat.le_trans (split_part m _ _ (List.getLast_mem hne)) htk
        have n2 : q' ≠ p := fun z => by
          rw [z, h1] at g1
          have := Option.some.inj g1
          injection this with e
          have := refs_bV e
          simp at this
        refine ⟨_, rfl, _, rfl, p, _, _, .ref q', rfl, rfl, SqL.of h1, (by rw [List.map_append]; exact atI_last _ _), .inl ⟨rfl, _, SqL.of g1⟩, _, rfl, q', _, _, rfl, rfl, g1, (by rw [bV_length]; omega), ?_⟩
        refine ⟨_, rfl, Same.wr hs (h4 q' (by simp)), ps' ++ [q'], ?_, ?_, h3, h4⟩
        · rw [upd_ne (Ne.symm n2)]
          exact h1
        · rw [take_snoc hc, split_snoc, if_neg ec]
          refine paired_snoc (paired_imp p1 fun q2 hq2 l hl => ?_) ?_
          · rw [upd_ne (fun z => nd.2.2 q2 hq2 q' (by simp) z)]
            exact hl
          · rw [upd_same]
            show some (HO.lst (bV _ ++ bV [c])) = _
            rw [bV_append]
    · rintro σ H' ⟨v, rfl, hs, hP⟩
      rw [bV_length, List.take_length] at hP
      exact ⟨_, rfl, k p H' np hs hP⟩
def spCap : Sp := fun vs H Q _ => ∃ c : UInt8, vs = [.int (c.toNat : Int)] ∧ Q (.bl (Yh.isBig c)) H
theorem isBig_int (c : UInt8) : Yh.isBig c = (decide ((65 : Int) ≤ (c.toNat : Int)) && decide ((c.toNat : Int) ≤ 90)) := by
  unfold Yh.isBig
  rw [Bool.eq_iff_iff]
  simp only [Bool.and_eq_true, decide_eq_true_eq, UInt8.le_iff_toNat_le]
  show 65 ≤ c.toNat ∧ c.toNat ≤ 90 ↔ _
  omega
theorem fn_is_capital (T : Txt K mg CP CB) : Fn P w K mg base 1 "is_capital" ["byte"] spCap := by
  refine T.f_is_capital.ok sc_is_capital (fun vs H Q E h => ?_) (fun f cdv A outer s H vs Q E hr h => ?_)
  · obtain ⟨c, rfl, _⟩ := h
    rfl
  · obtain ⟨c, rfl, k⟩ := h
    refine ⟨_, (pss_one (ps_ret (pe_chain op_le op_le (pe_callB call_ord rfl T.b_ord PyProof.Rows.boot_ord (pa_cons pe_str pa_nil)) (pv 0) (pe_callB call_ord rfl T.b_ord PyProof.Rows.boot_ord (pa_cons pe_str pa_nil))))), ?_⟩
    rw [isBig_int] at k
    refine ⟨_, rfl, rfl, _, rfl, _, _, rfl, rfl, _, rfl, ite2 (fun h => ?_) (fun h => ?_)⟩
    · refine ⟨_, rfl, rfl, _, _, rfl, rfl, ?_⟩
      have h' : decide ((65 : Int) ≤ (c.toNat : Int)) = true := h
      rw [h', Bool.true_and] at k
      exact k
    · have h2 : ¬ (decide ((65 : Int) ≤ (c.toNat : Int)) = true) := h
      have h' : decide ((65 : Int) ≤ (c.toNat : Int)) = false := by simpa using h2
      rw [h', Bool.false_and] at k
      exact k
def spDig : Sp := fun vs H Q _ => ∃ (c : UInt8) (n : Nat), vs = [.int (c.toNat : Int), .int (n : Int)] ∧ Q (.bl (decide (48 ≤ c.toNat) && decide (c.toNat ≤ 48 + n))) H
theorem fn_is_digit (T : Txt K mg CP CB) : Fn P w K mg base 1 "is_digit" ["byte", "highest"] spDig := by
  refine T.f_is_digit.ok sc_is_digit (fun vs H Q E h => ?_) (fun f cdv A outer s H vs Q E hr h => ?_)
  · obtain ⟨c, n, rfl, _⟩ := h
    rfl
  · obtain ⟨c, n, rfl, k⟩ := h
    refine ⟨_, (pss_one (ps_ret (pe_chain op_le op_le (pe_gint rfl T.c_DIGIT_ZERO) (pv 0) (pe_op op_add (pe_gint rfl T.c_DIGIT_ZERO) (pv 1))))), ?_⟩
    refine ⟨_, rfl, _, _, rfl, rfl, _, rfl, ite2 (fun h => ?_) (fun h => ?_)⟩
    · refine ⟨_, rfl, _, _, rfl, rfl, _, _, rfl, rfl, ?_⟩
      have h' : decide (48 ≤ c.toNat) = true := by
        have := of_decide_eq_true h
        exact decide_eq_true (by omega)
      rw [h', Bool.true_and] at k
      have e : decide ((c.toNat : Int) ≤ (48 : Int) + (n : Int)) = decide (c.toNat ≤ 48 + n) := by
        by_cases z : c.toNat ≤ 48 + n
        · rw [decide_eq_true z]
          exact decide_eq_true (by omega)
        · rw [decide_eq_false z]
          exact decide_eq_false (by omega)
      show Q (.bl (decide ((c.toNat : Int) ≤ (48 : Int) + (n : Int)))) H
      rw [e]
      exact k
    · have h' : decide (48 ≤ c.toNat) = false := by
        refine decide_eq_false fun z => h (decide_eq_true (by omega))
      rw [h', Bool.false_and] at k
      exact k
theorem bV_at {w : Bytes} {i : Nat} {c : UInt8} (h : w[i]? = some c) : (bV w)[i]? = some (.int (c.toNat : Int)) := by
  rw [List.getElem?_map, bi, List.getElem?_map, h]
  rfl
def spName : Sp := fun vs H Q _ => ∃ (a : Addr) (w : Bytes), vs = [.ref a] ∧ H a = some (.lst (bV w)) ∧ w.length ≤ 30000 ∧ retV H Q (.bl (Yh.isName w))
theorem all_take {α : Type} {f : α → Bool} {l : List α} : ((l.map f).all id) = l.all f := by
  induction l with
  | nil => rfl
  | cons a l ih => simp [ih]
theorem isName_eq {c : UInt8} {r : Bytes} (h : r.length ≤ 3) : Yh.isName (c :: r) = (Yh.isBig c && (c :: r).all fun x => Yh.isBig x || (decide (48 ≤ x.toNat) && decide (x.toNat ≤ 48 + 9))) := by
  have e : ∀ x : UInt8, Yh.isDigit x = (decide (48 ≤ x.toNat) && decide (x.toNat ≤ 48 + 9)) := by
    intro x
    unfold Yh.isDigit
    rw [Bool.eq_iff_iff]
    simp only [Bool.and_eq_true, decide_eq_true_eq, UInt8.le_iff_toNat_le]
    show 48 ≤ x.toNat ∧ x.toNat ≤ 57 ↔ _
    omega
  show (Yh.isBig c && (decide (r.length ≤ 3) && r.all fun x => Yh.isBig x || Yh.isDigit x)) = _
  rw [decide_eq_true h, Bool.true_and]
  simp only [e, List.all_cons]
  cases Yh.isBig c <;> simp
theorem fn_is_name (T : Txt K mg CP CB) : Fn P w K mg base 2 "is_name" ["word"] spName := by
  refine T.f_is_name.ok sc_is_name (fun vs H Q E h => ?_) (fun f cdv A outer s H vs Q E hr h => ?_)
  · obtain ⟨a, b, rfl, _⟩ := h
    rfl
  · obtain ⟨a, b, rfl, ha, hb, k⟩ := h
    have hsl := sizeLine_eq
    refine ⟨_, (pss_cons (ps_if (pt_not (pt_chain op_le op_le pe_int (pe_callB call_len_seq rfl T.b_len PySem.boot_len (pa_cons (pv 0) pa_nil)) (pe_gint rfl T.c_LONGEST_NAME))) (pss_one (ps_ret pe_bl)) pss_nil)
      (pss_one (ps_ret (pe_and (pe_fn (fn_is_capital T) (hr.mono (by decide)) rfl (pa_cons (pe_ix ix_list (pv 0) pe_int (fun _ _ => rfl)) pa_nil)) (pe_one (pe_callB (cr_all rfl) rfl T.b_all PyProof.Rows.boot_all (pa_cons (pe_lc (own := [("byte", 1)]) rfl sc_is_name.nd (pi_list (pv 0)) (blkOk_by (N := ["word", "byte"]) (sc := defScope s_is_name) (by decide +kernel)) (fun _ _ _ _ _ => (pg_name (i := 1) sc_is_name.nd rfl (by first | exact Or.inl rfl | exact Or.inr rfl))) (fun _ _ _ _ _ => pts_nil) (fun _ _ _ _ _ => (pe_or (pe_fn (fn_is_capital T) (hr.mono (by decide)) rfl (pa_cons (pv 1) pa_nil)) (pe_one (pe_fn (fn_is_digit T) (hr.mono (by decide)) rfl (pa_cons (pv 1) (pa_cons pe_int pa_nil))))))) pa_nil))))))), ?_⟩
    refine ⟨_, rfl, a, _, rfl, .inl (SqL.of ha), _, _, rfl, rfl, _, rfl, ite2 (fun h => ?_) (fun h => ?_)⟩
    · have h1 : 1 ≤ b.length := by have := of_decide_eq_true h; rw [bV_length] at this; omega
      refine ⟨_, _, rfl, rfl, _, rfl, ite2 (fun h => ?_) (fun h => ?_)⟩
      · have h2 : ¬ b.length ≤ 4 := by
          have h' : (!decide (((bV b).length : Int) ≤ 4)) = true := h
          rw [bV_length] at h'
          intro z
          rw [decide_eq_true (by omega : (b.length : Int) ≤ 4)] at h'
          cases h'
        have e : Yh.isName b = false := by
          cases b with
          | nil => rfl
          | cons c r =>
            show (Yh.isBig c && (decide (r.length ≤ 3) && _)) = false
            rw [decide_eq_false (by simp at h2; omega), Bool.false_and, Bool.and_false]
        rw [e] at k
        exact k H (Same.refl H)
      · have h2 : b.length ≤ 4 := by
          have h' : ¬ (!decide (((bV b).length : Int) ≤ 4)) = true := h
          rw [bV_length] at h'
          by_cases z : (b.length : Int) ≤ 4
          · omega
          · rw [decide_eq_false z] at h'
            exact absurd rfl h'
        cases b with
        | nil => simp at h1
        | cons c r =>
          have hr3 : r.length ≤ 3 := by simp at h2; omega
          rw [isName_eq hr3] at k
          refine ⟨_, rfl, a, _, _, _, rfl, rfl, SqL.of ha, atI_nat (j := 0) rfl, c, rfl, _, rfl, ite2 (fun h => ?_) (fun h => ?_)⟩
          · rw [h, Bool.true_and] at k
            refine ⟨_, rfl, a, rfl, ⟨_, SqL.of ha⟩, fun D hD => lc_list (K := K) (a := a) (xs := bV (c :: r)) (fun i H' => Same H H' ∧ H' D = some (.lst ((((c :: r).take i).map fun x => Yh.isBig x || (decide (48 ≤ x.toNat) && decide (x.toNat ≤ 48 + 9))).map V.bl)))
              ⟨Same.new1 hD, upd_same⟩ (fun i H' _ z => SqL.of (z.1 _ _ ha)) ?_ ?_⟩
            · rintro i y H' hi ⟨hs, hd⟩
              obtain ⟨d, hd', rfl⟩ := bV_get hi
              have hil : i < (c :: r).length := (List.getElem?_eq_some_iff.mp hd').1
              have fin : ∀ v : V, v = .bl (Yh.isBig d || (decide (48 ≤ d.toNat) && decide (d.toNat ≤ 48 + 9))) → ∃ acc, H' D = some (.lst acc) ∧ acc.length < sizeLine ∧ Same H (upd H' D (.lst (acc ++ [v]))) ∧ (upd H' D (.lst (acc ++ [v]))) D = some (.lst ((((c :: r).take (i + 1)).map fun x => Yh.isBig x || (decide (48 ≤ x.toNat) && decide (x.toNat ≤ 48 + 9))).map V.bl)) := by
                intro v hv
                refine ⟨_, hd, ?_, Same.wr hs hD, ?_⟩
                · simp only [List.length_map, List.length_take]
                  simp at h2
                  omega
                · rw [upd_same, take_snoc hd', List.map_append, List.map_append, hv]
                  rfl
              refine ⟨rfl, yes_of ⟨_, rfl, d, rfl, _, rfl, ite2 (fun h => ?_) (fun h => ?_)⟩⟩
              · exact fin _ (by rw [h]; rfl)
              · refine ⟨_, rfl, d, 9, rfl, ?_⟩
                exact fin _ (by rw [bfalse h]; rfl)
            · rintro H' ⟨hs, hd⟩
              rw [bV_length, List.take_length] at hd
              refine ⟨D, _, rfl, SqL.of hd, ?_⟩
              rw [all_take]
              exact k H' hs
          · rw [bfalse h, Bool.false_and] at k
            exact k H (Same.refl H)
    · have h1 : b = [] := by
        have h' : ¬ decide ((1 : Int) ≤ ((bV b).length : Int)) = true := h
        rw [bV_length] at h'
        cases b with
        | nil => rfl
        | cons c r => exact absurd (decide_eq_true (by simp; omega)) h'
      subst h1
      exact ⟨_, rfl, iteT (k H (Same.refl H))⟩
def spEnd : Sp := fun vs H Q _ => ∃ (a : Addr) (w : Bytes), vs = [.ref a] ∧ H a = some (.lst (bV w)) ∧ w.length ≤ 30000 ∧ retV H Q (.bl (Yh.endIn w).isSome)
theorem cut_back (xs : List V) (k : Nat) (hk : 0 < k) : cutV xs none (some (-(k : Int))) = xs.take (xs.length - k) := by
  unfold cutV HT.sIx
  simp only [List.drop_zero]
  rw [if_pos (by omega)]
  congr 1
  omega
theorem cut_from (xs : List V) (k : Nat) : cutV xs (some (k : Int)) none = xs.drop k := by
  unfold cutV
  rw [HT.sIx_nat, HT.sIx_none]
  by_cases h : k ≤ xs.length
  · rw [Nat.min_eq_left h]
    exact List.take_of_length_le (by simp)
  · rw [Nat.min_eq_right (by omega), List.drop_of_length_le (by omega), List.drop_of_length_le (by omega)]
    exact List.take_nil
theorem split_head (c : UInt8) : ∀ (b n : Bytes) (r : List Bytes), Yh.split c b = n :: r → (r = [] ∧ b = n ∧ c ∉ n) ∨ ∃ b', b = n ++ c :: b' ∧ c ∉ n ∧ Yh.split c b' = r
  | [], n, r, h => by
    have h : [[]] = n :: r := h
    injection h with h1 h2
    subst h1 h2
    exact .inl ⟨rfl, rfl, by simp⟩
  | x :: b, n, r, h => by
    cases hs : Yh.split c b with
    | nil => exact absurd hs (split_ne c b)
    | cons w l =>
      have e : Yh.split c (x :: b) = if x = c then [] :: w :: l else (x :: w) :: l := by
        show (match Yh.split c b with
          | [] => [[x]]
          | w :: l => if x = c then [] :: w :: l else (x :: w) :: l) = _
        rw [hs]
      rw [e] at h
      by_cases hx : x = c
      · rw [if_pos hx] at h
        injection h with h1 h2
        subst h1 h2
        exact .inr ⟨b, by rw [hx]; rfl, by simp, hs⟩
      · rw [if_neg hx] at h
        injection h with h1 h2
        subst h1 h2
        rcases split_head c b w l hs with ⟨a1, a2, a3⟩ | ⟨b', a1, a2, a3⟩
        · exact .inl ⟨a1, by rw [a2], by simp [Ne.symm hx, a3]⟩
        · exact .inr ⟨b', by rw [a1]; rfl, by simp [Ne.symm hx, a2], a3⟩
theorem split_app (c : UInt8) : ∀ (n b : Bytes), c ∉ n → Yh.split c (n ++ c :: b) = n :: Yh.split c b
  | [], b, _ => by
    show (match Yh.split c b with
      | [] => [[c]]
      | w :: l => if c = c then [] :: w :: l else (c :: w) :: l) = [] :: Yh.split c b
    cases hs : Yh.split c b with
    | nil => exact absurd hs (split_ne c b)
    | cons w l => simp
  | x :: n, b, h => by
    have ih := split_app c n b (fun z => h (List.mem_cons_of_mem _ z))
    show (match Yh.split c (n ++ c :: b) with
      | [] => [[x]]
      | w :: l => if x = c then [] :: w :: l else (x :: w) :: l) = _
    rw [ih]
    have hx : ¬ x = c := fun z => h (by rw [z]; exact List.mem_cons_self ..)
    show (if x = c then _ else _) = _
    rw [if_neg hx]
theorem split_self (c : UInt8) : ∀ (n : Bytes), c ∉ n → Yh.split c n = [n]
  | [], _ => rfl
  | x :: n, h => by
    have ih := split_self c n (fun z => h (List.mem_cons_of_mem _ z))
    have hx : ¬ x = c := fun z => h (by rw [z]; exact List.mem_cons_self ..)
    show (match Yh.split c n with
      | [] => [[x]]
      | w :: l => if x = c then [] :: w :: l else (x :: w) :: l) = _
    rw [ih]
    show (if x = c then _ else _) = _
    rw [if_neg hx]
theorem name_mem {n : Bytes} (h : Yh.isName n = true) : ∀ c ∈ n, (65 ≤ c.toNat ∧ c.toNat ≤ 90) ∨ (48 ≤ c.toNat ∧ c.toNat ≤ 57) := by
  cases n with
  | nil => cases h
  | cons c r =>
    have h : (Yh.isBig c && (decide (r.length ≤ 3) && r.all fun x => Yh.isBig x || Yh.isDigit x)) = true := h
    simp only [Bool.and_eq_true, List.all_eq_true, Bool.or_eq_true] at h
    have hb : ∀ x : UInt8, Yh.isBig x = true → 65 ≤ x.toNat ∧ x.toNat ≤ 90 := fun x hx => by
      unfold Yh.isBig at hx
      simp only [Bool.and_eq_true, decide_eq_true_eq, UInt8.le_iff_toNat_le] at hx
      exact hx
    have hd : ∀ x : UInt8, Yh.isDigit x = true → 48 ≤ x.toNat ∧ x.toNat ≤ 57 := fun x hx => by
      unfold Yh.isDigit at hx
      simp only [Bool.and_eq_true, decide_eq_true_eq, UInt8.le_iff_toNat_le] at hx
      exact hx
    intro x hx
    rcases List.mem_cons.mp hx with rfl | hx
    · exact .inl (hb _ h.1)
    · rcases h.2.2 x hx with z | z
      · exact .inl (hb _ z)
      · exact .inr (hd _ z)
theorem name_no46 {n : Bytes} (h : Yh.isName n = true) : (46 : UInt8) ∉ n := fun z => by
  have := name_mem h 46 z
  have e : (46 : UInt8).toNat = 46 := rfl
  omega
theorem name_ne {n : Bytes} (h : Yh.isName n = true) : 0 < n.length := by
  cases n with
  | nil => cases h
  | cons => simp
theorem endIn_iff (w n : Bytes) (e : Nat) : Yh.endIn w = some (n, e) ↔ ∃ d : UInt8, w = n ++ [46, d] ∧ Yh.isName n = true ∧ 48 ≤ d.toNat ∧ d.toNat ≤ 51 ∧ e = d.toNat - 48 := by
  constructor
  · intro h
    unfold Yh.endIn at h
    split at h
    · rename_i n' d hs
      by_cases hc : Yh.isName n' = true ∧ 48 ≤ d ∧ d ≤ 51
      · rw [if_pos hc] at h
        have h := Option.some.inj h
        injection h with h1 h2
        subst h1
        rcases split_head 46 w n' [[d]] hs with ⟨a, _⟩ | ⟨b', a1, a2, a3⟩
        · cases a
        · rcases split_head 46 b' [d] [] a3 with ⟨_, b1, _⟩ | ⟨b2, _, _, b3⟩
          · exact ⟨d, by rw [a1, b1], hc.1, UInt8.le_iff_toNat_le.mp hc.2.1, UInt8.le_iff_toNat_le.mp hc.2.2, h2.symm⟩
          · exact absurd b3 (split_ne _ _)
      · rw [if_neg hc] at h
        cases h
    · cases h
  · rintro ⟨d, rfl, h1, h2, h3, rfl⟩
    have hd : (46 : UInt8) ∉ [d] := by
      intro z
      have : (46 : UInt8) = d := by simpa using z
      rw [← this] at h2
      exact absurd h2 (by decide)
    have hs : Yh.split 46 (n ++ [46, d]) = [n, [d]] := by
      rw [split_app 46 n [d] (name_no46 h1), split_self 46 [d] hd]
    unfold Yh.endIn
    rw [hs]
    show (if Yh.isName n = true ∧ 48 ≤ d ∧ d ≤ 51 then some (n, d.toNat - 48) else none) = _
    rw [if_pos ⟨h1, UInt8.le_iff_toNat_le.mpr h2, UInt8.le_iff_toNat_le.mpr h3⟩]
theorem end_none {w : Bytes} (h : ∀ n d, w = n ++ [46, d] → Yh.isName n = true → 48 ≤ d.toNat → d.toNat ≤ 51 → False) : (Yh.endIn w).isSome = false := by
  cases e : Yh.endIn w with
  | none => rfl
  | some x =>
    obtain ⟨d, h1, h2, h3, h4, _⟩ := (endIn_iff w x.1 x.2).mp e
    exact (h _ _ h1 h2 h3 h4).elim
theorem take_two {w n : Bytes} {x y : UInt8} (h : w = n ++ [x, y]) : w.take (w.length - 2) = n := by
  subst h
  simp
theorem fn_is_end (T : Txt K mg CP CB) : Fn P w K mg base 3 "is_end" ["word"] spEnd := by
  refine T.f_is_end.ok sc_is_end (fun vs H Q E h => ?_) (fun f cdv A outer s H vs Q E hr h => ?_)
  · obtain ⟨a, b, rfl, _⟩ := h
    rfl
  · obtain ⟨a, b, rfl, ha, hb, k⟩ := h
    have hsl := sizeLine_eq
    refine ⟨_, (pss_one (ps_ret (pe_and (pe_fn (fn_is_name T) (hr.mono (by decide)) rfl (pa_cons (pe_slice sl_list (pv 0) po_none (po_some (pe_un un_neg pe_int))) pa_nil)) (pe_and (pe_cmpR op_eq (pe_ix ix_list (pv 0) (pe_un un_neg pe_int) (fun _ _ => rfl)) (pe_gint rfl T.c_DOT) (nomark _)) (pe_one (pe_fn (fn_is_digit T) (hr.mono (by decide)) rfl (pa_cons (pe_ix ix_list (pv 0) (pe_un un_neg pe_int) (fun _ _ => rfl)) (pa_cons pe_int pa_nil)))))))), ?_⟩
    refine ⟨_, rfl, _, rfl, _, rfl, a, _, rfl, SqL.of ha, fun p hp => ⟨p, b.take (b.length - 2), rfl, ?_, ?_, fun H1 hs1 => ⟨_, rfl, ite2 (fun h => ?_) (fun h => ?_)⟩⟩⟩
    · rw [upd_same]
      have e := cut_back (bV b) 2 (by decide)
      have e2 : ((bV b).take ((bV b).length - 2)) = bV (b.take (b.length - 2)) := by
        rw [bV_length]
        show ((bi b).map V.int).take _ = (bi (b.take _)).map V.int
        rw [← List.map_take]
        congr 1
        exact (List.map_take ..).symm
      rw [← e2, ← e]
      rfl
    · simp
      omega
    · have hs0 : Same H H1 := (Same.new1 hp).trans hs1
      have hn := name_ne h
      have h3 : 3 ≤ b.length := by simp at hn; omega
      obtain ⟨n, x, y, rfl⟩ : ∃ n x y, b = n ++ [x, y] := by
        refine ⟨b.take (b.length - 2), b[b.length - 2]'(by omega), b[b.length - 1]'(by omega), ?_⟩
        have e1 : b.drop (b.length - 2) = [b[b.length - 2]'(by omega), b[b.length - 1]'(by omega)] := by
          rw [List.drop_eq_getElem_cons (by omega : b.length - 2 < b.length)]
          congr 1
          have e2 : b.length - 2 + 1 = b.length - 1 := by omega
          rw [e2, List.drop_eq_getElem_cons (by omega : b.length - 1 < b.length)]
          congr 1
          exact List.drop_of_length_le (by omega)
        rw [← e1, List.take_append_drop]
      rw [take_two rfl] at h
      have ha1 := hs0 _ _ ha
      have hlen : (bV (n ++ [x, y])).length = n.length + 2 := by rw [bV_length]; simp
      have g1 : atI (bV (n ++ [x, y])) (-2) = some (.int (x.toNat : Int)) := by
        unfold atI ixN
        rw [if_neg (by decide), hlen, if_pos (by omega)]
        show (bV (n ++ [x, y]))[((-2 : Int) + ((n.length + 2 : Nat) : Int)).toNat]? = _
        have e : ((-2 : Int) + ((n.length + 2 : Nat) : Int)).toNat = n.length := by omega
        rw [e]
        exact bV_at (by simp)
      have g2 : atI (bV (n ++ [x, y])) (-1) = some (.int (y.toNat : Int)) := by
        have := atI_last (bV (n ++ [x])) (.int (y.toNat : Int))
        rw [show bV (n ++ [x]) ++ [V.int (y.toNat : Int)] = bV (n ++ [x, y]) by
          rw [show n ++ [x, y] = (n ++ [x]) ++ [y] by simp, bV_append (n ++ [x]) [y]]
          rfl] at this
        exact this
      refine ⟨_, rfl, _, rfl, a, _, _, _, rfl, rfl, SqL.of ha1, g1, rfl, _, rfl, ite2 (fun h2 => ?_) (fun h2 => ?_)⟩
      · have ex : x = 46 := u8_eq.mp (by have := of_decide_eq_true h2; injection this)
        refine ⟨_, rfl, _, rfl, a, _, _, _, rfl, rfl, SqL.of ha1, g2, y, 3, rfl, ?_⟩
        have e : (Yh.endIn (n ++ [x, y])).isSome = (decide (48 ≤ y.toNat) && decide (y.toNat ≤ 48 + 3)) := by
          by_cases hy : 48 ≤ y.toNat ∧ y.toNat ≤ 51
          · rw [(endIn_iff (n ++ [x, y]) n (y.toNat - 48)).mpr ⟨y, by rw [ex], h, hy.1, hy.2, rfl⟩, decide_eq_true hy.1, decide_eq_true (by omega)]
            rfl
          · rw [end_none]
            · by_cases h1 : 48 ≤ y.toNat
              · rw [decide_eq_false (by omega : ¬ y.toNat ≤ 48 + 3), Bool.and_false]
              · rw [decide_eq_false h1, Bool.false_and]
            · intro n' d e1 _ h4 h5
              have e2 := congrArg List.getLast? e1
              simp at e2
              rw [e2] at hy
              exact hy ⟨h4, h5⟩
        rw [e] at k
        exact k H1 hs0
      · have ex : ¬ x = 46 := fun z => h2 (decide_eq_true (by rw [z]; rfl))
        rw [end_none] at k
        · exact k H1 hs0
        · intro n' d e1 _ _ _
          have e3 : n.length = n'.length := by have := congrArg List.length e1; simp at this; omega
          have e2 := (List.append_inj e1 e3).2
          injection e2 with e4 _
          exact ex e4
    · have hs0 : Same H H1 := (Same.new1 hp).trans hs1
      rw [end_none] at k
      · exact k H1 hs0
      · intro n d e1 h1 _ _
        rw [take_two e1] at h
        exact h h1
end
end YP
namespace YP
open PySem PySem.Spec PyProof.Rows L2
open Yh (Bytes Spot Sect Plan Step Route)
structure PA where
  p : Addr
  dx : Addr
  s : Addr
  n : Addr
  j : Addr
  b : Addr
  g : Addr
def pf (A : PA) : List (Str × V) := [("sections", .ref A.s), ("numbers", .ref A.n), ("joined", .ref A.j), ("borders", .ref A.b), ("signals", .ref A.g)]
theorem pf_sections (A : PA) : (pf A).lookup ("sections" : Str) = some (.ref A.s) := rfl
theorem pf_numbers (A : PA) : (pf A).lookup ("numbers" : Str) = some (.ref A.n) := rfl
theorem pf_joined (A : PA) : (pf A).lookup ("joined" : Str) = some (.ref A.j) := rfl
theorem pf_borders (A : PA) : (pf A).lookup ("borders" : Str) = some (.ref A.b) := rfl
theorem pf_signals (A : PA) : (pf A).lookup ("signals" : Str) = some (.ref A.g) := rfl
def secR (H : Hp) (v : V) (x : Sect) : Prop := ∃ q t, v = .ref q ∧ H q = some (.tup [.int (x.kind : Int), .ref t]) ∧ H t = some (.tup (bV x.name))
def nmK (n : Bytes) : List Key := n.map fun c => .inl (c.toNat : Int)
def numsOf (l : List Sect) : List (List Key × V) := l.zipIdx.map fun x => (nmK x.1.name, .int (x.2 : Int))
def both (l : List (Spot × Spot)) : List (Spot × Spot) := l.flatMap fun j => [(j.1, j.2), (j.2, j.1)]
def jR (H : Hp) (kv : List Key × V) (j : Spot × Spot) : Prop := kv.1 = spK j.1 ∧ ∃ q, kv.2 = .ref q ∧ H q = some (.tup (spV j.2))
def ones (l : List Spot) : List (List Key × V) := l.map fun x => (spK x, .bl true)
structure PlanAt (CP : Addr) (H : Hp) (A : PA) (P : Plan) : Prop where
  obj : H A.p = some (.ins CP A.dx (pf A))
  sects : ∃ vs, H A.s = some (.lst vs) ∧ Paired (secR H) vs P.sects
  nums : H A.n = some (.dT (numsOf P.sects))
  joins : ∃ kvs, H A.j = some (.dT kvs) ∧ Paired (jR H) kvs (both P.joins)
  bords : H A.b = some (.dT (ones P.borders))
  sigs : H A.g = some (.dT (ones P.signals))
  nd : [A.n, A.j, A.b, A.g].Nodup
def Keep (S : List Addr) (H H' : Hp) : Prop := ∀ b o, H b = some o → b ∉ S → H' b = some o
theorem Keep.same {S : List Addr} {H H' : Hp} (h : Same H H') : Keep S H H' := fun b o e _ => h b o e
theorem Keep.trans {S : List Addr} {H H1 H2 : Hp} (a : Keep S H H1) (b : Keep S H1 H2) : Keep S H H2 := fun c o e n => b c o (a c o e n) n
theorem Keep.upd {S : List Addr} {H : Hp} {a : Addr} {o : HO} (h : a ∈ S) : Keep S H (upd H a o) := fun b u e n => by
  rw [upd_ne (fun z => n (by rw [z]; exact h))]
  exact e
theorem Keep.mono {S S' : List Addr} {H H' : Hp} (h : Keep S H H') (q : ∀ b ∈ S, b ∈ S') : Keep S' H H' := fun b o e n => h b o e fun z => n (q b z)
def Tups (H H' : Hp) : Prop := ∀ b xs, H b = some (.tup xs) → H' b = some (.tup xs)
theorem Same.tups {H H' : Hp} (h : Same H H') : Tups H H' := fun b xs e => h b _ e
theorem secR.keep {H H' : Hp} (h : Tups H H') {v : V} {x : Sect} (r : secR H v x) : secR H' v x := by
  obtain ⟨q, t, e, h1, h2⟩ := r
  exact ⟨q, t, e, h _ _ h1, h _ _ h2⟩
theorem jR.keep {H H' : Hp} (h : Tups H H') {v : List Key × V} {x : Spot × Spot} (r : jR H v x) : jR H' v x := by
  obtain ⟨e, q, e1, h1⟩ := r
  exact ⟨e, q, e1, h _ _ h1⟩
theorem PlanAt.same {CP : Addr} {H H' : Hp} {A : PA} {P : Plan} (h : Same H H') (x : PlanAt CP H A P) : PlanAt CP H' A P := by
  obtain ⟨vs, a1, a2⟩ := x.sects
  obtain ⟨kvs, b1, b2⟩ := x.joins
  exact ⟨h _ _ x.obj, ⟨vs, h _ _ a1, paired_imp a2 fun _ _ _ r => r.keep (Same.tups h)⟩, h _ _ x.nums, ⟨kvs, h _ _ b1, paired_imp b2 fun _ _ _ r => r.keep (Same.tups h)⟩, h _ _ x.bords, h _ _ x.sigs, x.nd⟩
theorem numsOf_snoc (l : List Sect) (x : Sect) : numsOf (l ++ [x]) = numsOf l ++ [(nmK x.name, .int (l.length : Int))] := by
  unfold numsOf
  rw [List.zipIdx_append, List.map_append]
  simp
theorem nmK_inj {a b : Bytes} : nmK a = nmK b ↔ a = b := by
  constructor
  · intro h
    induction a generalizing b with
    | nil => cases b with
      | nil => rfl
      | cons => simp [nmK] at h
    | cons x a ih => cases b with
      | nil => simp [nmK] at h
      | cons y b =>
        have h : (Sum.inl (x.toNat : Int) : Key) :: nmK a = Sum.inl (y.toNat : Int) :: nmK b := h
        injection h with h1 h2
        injection h1 with h1
        rw [u8_eq.mp h1, ih h2]
  · intro h
    rw [h]
theorem spK_inj {x y : Spot} : spK x = spK y ↔ x = y := by
  constructor
  · intro h
    injection h with h1 h2
    injection h1 with h1
    injection h2 with h2 _
    injection h2 with h2
    exact Prod.ext (by omega) (by omega)
  · intro h
    rw [h]
theorem num_val' (n : Bytes) : ∀ (l : List Sect) (k : Nat), valV ((l.zipIdx k).map fun x => (nmK x.1.name, V.int (x.2 : Int))) (nmK n) = (l.findIdx? fun x => x.name == n).map fun i => V.int ((i + k : Nat) : Int)
  | [], k => rfl
  | x :: l, k => by
    rw [List.zipIdx_cons, List.map_cons, List.findIdx?_cons]
    by_cases h : x.name = n
    · rw [valV_pos (by rw [h]), show (x.name == n) = true by simp [h]]
      simp
    · rw [valV_neg (fun z => h (nmK_inj.mp z)), num_val' n l (k + 1), show (x.name == n) = false by simp [h]]
      simp only [Bool.false_eq_true, if_false, Option.map_map]
      congr 1
      funext i
      simp only [Function.comp]
      congr 1
      omega
theorem num_val (P : Plan) (n : Bytes) : valV (numsOf P.sects) (nmK n) = (P.find n).map fun (i : Nat) => V.int (i : Int) := by
  have := num_val' n P.sects 0
  unfold numsOf Plan.find
  rw [this]
  simp
def lk (l : List (Spot × Spot)) (x : Spot) : Option Spot := (l.find? fun j => decide (j.1 = x)).map (·.2)
theorem partner_lk (P : Plan) (x : Spot) : P.partner x = lk (both P.joins) x := by
  unfold Plan.partner
  generalize P.joins = l
  induction l with
  | nil => rfl
  | cons j l ih =>
    have e : both (j :: l) = (j.1, j.2) :: (j.2, j.1) :: both l := rfl
    rw [e, List.findSome?_cons]
    unfold lk
    by_cases h1 : j.1 = x
    · rw [if_pos h1, List.find?_cons_of_pos (by simp [h1])]
      rfl
    · rw [if_neg h1, List.find?_cons_of_neg (by simp [h1])]
      by_cases h2 : j.2 = x
      · rw [if_pos h2, List.find?_cons_of_pos (by simp [h2])]
        rfl
      · rw [if_neg h2, List.find?_cons_of_neg (by simp [h2])]
        exact ih
theorem jo_val {H : Hp} {kvs : List (List Key × V)} {l : List (Spot × Spot)} (h : Paired (jR H) kvs l) (x : Spot) :
    (lk l x = none ∧ valV kvs (spK x) = none) ∨ ∃ y q, lk l x = some y ∧ valV kvs (spK x) = some (.ref q) ∧ H q = some (.tup (spV y)) := by
  induction h with
  | nil => exact .inl ⟨rfl, rfl⟩
  | @cons kv j kvs l g t ih =>
    obtain ⟨e1, q, e2, hq⟩ := g
    by_cases hx : j.1 = x
    · refine .inr ⟨j.2, q, ?_, ?_, hq⟩
      · unfold lk
        rw [List.find?_cons_of_pos (by simp [hx])]
        rfl
      · rw [valV_pos (by rw [e1, hx]), e2]
    · have e3 : lk (j :: l) x = lk l x := by
        unfold lk
        rw [List.find?_cons_of_neg (by simp [hx])]
      rw [e3, valV_neg (fun z => hx (spK_inj.mp (e1.symm.trans z)))]
      exact ih
theorem ones_val (l : List Spot) (x : Spot) : valV (ones l) (spK x) = if x ∈ l then some (.bl true) else none := by
  induction l with
  | nil => rfl
  | cons y l ih =>
    by_cases h : y = x
    · subst h
      rw [show ones (y :: l) = (spK y, V.bl true) :: ones l from rfl, valV_pos rfl, if_pos (by simp)]
    · rw [show ones (y :: l) = (spK y, V.bl true) :: ones l from rfl, valV_neg (fun z => h (spK_inj.mp z)), ih]
      have : x ∈ y :: l ↔ x ∈ l := by simp [Ne.symm h]
      simp only [this]
theorem ones_some (l : List Spot) (x : Spot) : (valV (ones l) (spK x)).isSome = l.contains x := by
  rw [ones_val]
  by_cases h : x ∈ l
  · rw [if_pos h]
    simp [h]
  · rw [if_neg h]
    simp [h]
theorem signalAt_some (P : Plan) (x : Spot) : (P.signalAt x).isSome = P.signals.contains x := by
  unfold Plan.signalAt
  rw [List.findIdx?_isSome]
  rw [Bool.eq_iff_iff]
  simp
theorem PlanAt.joined {CP : Addr} {H : Hp} {A : PA} {P : Plan} (h : PlanAt CP H A P) (x : Spot) : ∃ kvs, H A.j = some (.dT kvs) ∧ (valV kvs (spK x)).isSome = (P.partner x).isSome ∧ ∀ y, P.partner x = some y → ∃ q, valV kvs (spK x) = some (.ref q) ∧ H q = some (.tup (spV y)) := by
  obtain ⟨kvs, h1, h2⟩ := h.joins
  refine ⟨kvs, h1, ?_, ?_⟩
  · rw [partner_lk]
    rcases jo_val h2 x with ⟨a, b⟩ | ⟨y, q, a, b, _⟩
    · rw [a, b]
      rfl
    · rw [a, b]
      rfl
  · intro y hy
    rw [partner_lk] at hy
    rcases jo_val h2 x with ⟨a, b⟩ | ⟨y', q, a, b, c⟩
    · rw [a] at hy
      cases hy
    · rw [a] at hy
      cases hy
      exact ⟨q, b, c⟩
section
variable {P : Program} {w : World} {K : PySem.W.Frag} {mg : Str → Option Value} {base : Heap} {CP CB : Addr}
def pl0 : Plan := ⟨[], [], [], []⟩
def PA.own (A : PA) : List Addr := [A.p, A.dx, A.s, A.n, A.j, A.b, A.g]
def spInitP (CP : Addr) : Sp := fun vs H Q _ => ∃ (x dx : Addr), vs = [.ref x] ∧ H x = some (.ins CP dx []) ∧ ∀ (A : PA) (H' : Hp), A.p = x → A.dx = dx → (∀ b ∈ [A.s, A.n, A.j, A.b, A.g], H b = none) → PlanAt CP H' A pl0 → (∀ b o, H b = some o → b ≠ x → H' b = some o) → Q .non H'
theorem in_Plan (T : Txt K mg CP CB) : In P w K mg base CP 1 "Plan" (spInitP CP) := by
  refine T.mk_Plan.ok sc_Plan___init__ (fun vs H Q E h => ?_) (fun f cdv A outer s H vs Q E hr h => ?_)
  · obtain ⟨x, dx, rfl, _⟩ := h
    rfl
  · obtain ⟨x, dx, rfl, hx, k⟩ := h
    refine ⟨_, (pss_cons (ps_fld (pv 0) (pe_lst pa_nil) rfl)
      (pss_cons (ps_fld (pv 0) pe_dnewT rfl)
      (pss_cons (ps_fld (pv 0) pe_dnewT rfl)
      (pss_cons (ps_fld (pv 0) pe_dnewT rfl)
      (pss_one (ps_fld (pv 0) pe_dnewT rfl)))))), ?_⟩
    refine ⟨Nat.zero_le _, fun a1 h1 => ⟨_, rfl, x, CP, dx, _, rfl, (by rw [upd_ne (ne_of_none hx h1)]; exact hx), T.cP, T.nP_sections, (by show 0 < 1000; decide), ?_⟩⟩
    intro a2 h2
    have n1x : a1 ≠ x := Ne.symm (ne_of_none hx h1)
    have x2 : a2 ≠ x := fun z => by rw [z, upd_same] at h2; cases h2
    refine ⟨_, rfl, x, CP, dx, _, rfl, (by rw [upd_ne (Ne.symm x2)]; exact upd_same), T.cP, T.nP_numbers, (by show 1 < 1000; decide), ?_⟩
    intro a3 h3
    have x3 : a3 ≠ x := fun z => by rw [z, upd_same] at h3; cases h3
    refine ⟨_, rfl, x, CP, dx, _, rfl, (by rw [upd_ne (Ne.symm x3)]; exact upd_same), T.cP, T.nP_joined, (by show 2 < 1000; decide), ?_⟩
    intro a4 h4
    have x4 : a4 ≠ x := fun z => by rw [z, upd_same] at h4; cases h4
    refine ⟨_, rfl, x, CP, dx, _, rfl, (by rw [upd_ne (Ne.symm x4)]; exact upd_same), T.cP, T.nP_borders, (by show 3 < 1000; decide), ?_⟩
    intro a5 h5
    have x5 : a5 ≠ x := fun z => by rw [z, upd_same] at h5; cases h5
    refine ⟨_, rfl, x, CP, dx, _, rfl, (by rw [upd_ne (Ne.symm x5)]; exact upd_same), T.cP, T.nP_signals, (by show 4 < 1000; decide), ?_⟩
    have e2 : H a2 = none ∧ a2 ≠ a1 := by
      rw [upd_ne x2] at h2
      have z : a2 ≠ a1 := fun z => by rw [z, upd_same] at h2; cases h2
      rw [upd_ne z] at h2
      exact ⟨h2, z⟩
    have e3 : H a3 = none ∧ a3 ≠ a1 ∧ a3 ≠ a2 := by
      rw [upd_ne x3] at h3
      have z2 : a3 ≠ a2 := fun z => by rw [z, upd_same] at h3; cases h3
      rw [upd_ne z2, upd_ne x3] at h3
      have z1 : a3 ≠ a1 := fun z => by rw [z, upd_same] at h3; cases h3
      rw [upd_ne z1] at h3
      exact ⟨h3, z1, z2⟩
    have e4 : H a4 = none ∧ a4 ≠ a1 ∧ a4 ≠ a2 ∧ a4 ≠ a3 := by
      rw [upd_ne x4] at h4
      have z3 : a4 ≠ a3 := fun z => by rw [z, upd_same] at h4; cases h4
      rw [upd_ne z3, upd_ne x4] at h4
      have z2 : a4 ≠ a2 := fun z => by rw [z, upd_same] at h4; cases h4
      rw [upd_ne z2, upd_ne x4] at h4
      have z1 : a4 ≠ a1 := fun z => by rw [z, upd_same] at h4; cases h4
      rw [upd_ne z1] at h4
      exact ⟨h4, z1, z2, z3⟩
    have e5 : H a5 = none ∧ a5 ≠ a1 ∧ a5 ≠ a2 ∧ a5 ≠ a3 ∧ a5 ≠ a4 := by
      rw [upd_ne x5] at h5
      have z4 : a5 ≠ a4 := fun z => by rw [z, upd_same] at h5; cases h5
      rw [upd_ne z4, upd_ne x5] at h5
      have z3 : a5 ≠ a3 := fun z => by rw [z, upd_same] at h5; cases h5
      rw [upd_ne z3, upd_ne x5] at h5
      have z2 : a5 ≠ a2 := fun z => by rw [z, upd_same] at h5; cases h5
      rw [upd_ne z2, upd_ne x5] at h5
      have z1 : a5 ≠ a1 := fun z => by rw [z, upd_same] at h5; cases h5
      rw [upd_ne z1] at h5
      exact ⟨h5, z1, z2, z3, z4⟩
    refine k ⟨x, dx, a1, a2, a3, a4, a5⟩ _ rfl rfl ?_ ?_ ?_
    · intro b hb
      simp at hb
      rcases hb with rfl | rfl | rfl | rfl | rfl
      · exact h1
      · exact e2.1
      · exact e3.1
      · exact e4.1
      · exact e5.1
    · refine ⟨?_, ⟨[], ?_, .nil⟩, ?_, ⟨[], ?_, .nil⟩, ?_, ?_, ?_⟩
      · rw [upd_same]
        rfl
      · show upd _ x _ a1 = _
        rw [upd_ne n1x, upd_ne (Ne.symm e5.2.1), upd_ne n1x, upd_ne (Ne.symm e4.2.1), upd_ne n1x, upd_ne (Ne.symm e3.2.1), upd_ne n1x, upd_ne (Ne.symm e2.2), upd_ne n1x, upd_same]
      · show upd _ x _ a2 = _
        rw [upd_ne x2, upd_ne (Ne.symm e5.2.2.1), upd_ne x2, upd_ne (Ne.symm e4.2.2.1), upd_ne x2, upd_ne (Ne.symm e3.2.2), upd_ne x2, upd_same]
        rfl
      · show upd _ x _ a3 = _
        rw [upd_ne x3, upd_ne (Ne.symm e5.2.2.2.1), upd_ne x3, upd_ne (Ne.symm e4.2.2.2), upd_ne x3, upd_same]
      · show upd _ x _ a4 = _
        rw [upd_ne x4, upd_ne (Ne.symm e5.2.2.2.2), upd_ne x4, upd_same]
        rfl
      · show upd _ x _ a5 = _
        rw [upd_ne x5, upd_same]
        rfl
      · show [a2, a3, a4, a5].Nodup
        simp [Ne.symm e3.2.2, Ne.symm e4.2.2.1, Ne.symm e5.2.2.1, Ne.symm e4.2.2.2, Ne.symm e5.2.2.2.1, Ne.symm e5.2.2.2.2]
    · intro b o e hb
      have m1 := ne_of_none e h1
      have m2 := ne_of_none e e2.1
      have m3 := ne_of_none e e3.1
      have m4 := ne_of_none e e4.1
      have m5 := ne_of_none e e5.1
      rw [upd_ne hb, upd_ne m5, upd_ne hb, upd_ne m4, upd_ne hb, upd_ne m3, upd_ne hb, upd_ne m2, upd_ne hb, upd_ne m1]
      exact e
end
end YP
namespace YP
open Yh (Bytes Spot Sect Plan Step Route spotBefore putSpot putJoin)
theorem sb_iff (x y : Spot) : spotBefore x y = true ↔ x.1 < y.1 ∨ (x.1 = y.1 ∧ x.2 < y.2) := by
  unfold spotBefore
  simp [Bool.or_eq_true, Bool.and_eq_true]
theorem sb_false (x y : Spot) : spotBefore x y = false ↔ y.1 < x.1 ∨ (y.1 = x.1 ∧ y.2 ≤ x.2) := by
  have h := sb_iff x y
  cases e : spotBefore x y with
  | true => rw [e] at h; have := h.mp rfl; simp; omega
  | false => rw [e] at h; simp at h; simp; omega
theorem sb_anti {x y : Spot} (h1 : spotBefore x y = false) (h2 : spotBefore y x = false) : x = y := by
  rw [sb_false] at h1 h2
  exact Prod.ext (by omega) (by omega)
theorem sorted_unique {α : Type} (le : α → α → Prop) (anti : ∀ a b, le a b → le b a → a = b) : ∀ {l m : List α}, l.Perm m → l.Pairwise le → m.Pairwise le → l = m
  | [], m, h, _, _ => (List.nil_perm.mp h).symm
  | a :: l, [], h, _, _ => by have := h.length_eq; simp at this
  | a :: l, b :: m, h, h1, h2 => by
    have p1 := List.pairwise_cons.mp h1
    have p2 := List.pairwise_cons.mp h2
    have e : a = b := by
      have ha : a ∈ b :: m := h.mem_iff.mp (List.mem_cons_self ..)
      have hb : b ∈ a :: l := h.mem_iff.mpr (List.mem_cons_self ..)
      rcases List.mem_cons.mp ha with z | z
      · exact z
      · rcases List.mem_cons.mp hb with y | y
        · exact y.symm
        · exact anti _ _ (p1.1 b y) (p2.1 a z)
    subst e
    rw [sorted_unique le anti (List.Perm.cons_inv h) p1.2 p2.2]
def sortS (l : List Spot) : List Spot := l.foldl (fun l x => putSpot x l) []
theorem put_perm (x : Spot) : ∀ l, (putSpot x l).Perm (x :: l)
  | [] => .refl _
  | y :: r => by
    unfold putSpot
    split
    · exact .refl _
    · exact ((put_perm x r).cons y).trans (.swap x y r)
theorem put_sorted (x : Spot) : ∀ l : List Spot, l.Pairwise (fun a b => spotBefore b a = false) → (putSpot x l).Pairwise (fun a b => spotBefore b a = false)
  | [], _ => by simp [putSpot]
  | y :: r, h => by
    have p := List.pairwise_cons.mp h
    unfold putSpot
    split
    · rename_i hb
      refine List.pairwise_cons.mpr ⟨fun z hz => ?_, h⟩
      rw [sb_iff] at hb
      rcases List.mem_cons.mp hz with rfl | hz
      · rw [sb_false]; omega
      · have := p.1 z hz
        rw [sb_false] at this ⊢
        omega
    · rename_i hb
      refine List.pairwise_cons.mpr ⟨fun z hz => ?_, put_sorted x r p.2⟩
      rcases List.mem_cons.mp ((put_perm x r).mem_iff.mp hz) with rfl | hz
      · simpa using hb
      · exact p.1 z hz
theorem fold_perm : ∀ (l acc : List Spot), (l.foldl (fun l x => putSpot x l) acc).Perm (acc ++ l)
  | [], acc => by simp
  | x :: l, acc => by
    show ((l.foldl (fun l x => putSpot x l) (putSpot x acc))).Perm _
    refine (fold_perm l (putSpot x acc)).trans ?_
    refine ((put_perm x acc).append_right l).trans ?_
    exact List.perm_middle.symm
theorem fold_sorted : ∀ (l acc : List Spot), acc.Pairwise (fun a b => spotBefore b a = false) → (l.foldl (fun l x => putSpot x l) acc).Pairwise (fun a b => spotBefore b a = false)
  | [], acc, h => h
  | x :: l, acc, h => fold_sorted l _ (put_sorted x acc h)
theorem sortS_perm (l : List Spot) : (sortS l).Perm l := by
  have h := fold_perm l []
  rw [List.nil_append] at h
  exact h
theorem sortS_sorted (l : List Spot) : (sortS l).Pairwise (fun a b => spotBefore b a = false) := fold_sorted l [] .nil
theorem sortS_eq {l ks : List Spot} (h : ks.Perm l) (hs : ks.Pairwise (fun a b => spotBefore b a = false)) : ks = sortS l :=
  sorted_unique (fun a b => spotBefore b a = false) (fun a b h1 h2 => sb_anti h2 h1) (h.trans (sortS_perm l).symm) hs (sortS_sorted l)
abbrev Jn := Spot × Spot
def ori (j : Jn) : Jn := if spotBefore j.1 j.2 = true then j else (j.2, j.1)
def sortJ (l : List Jn) : List Jn := l.foldl (fun l j => putJoin (ori j) l) []
def leJ (a b : Jn) : Prop := spotBefore b.1 a.1 = false
theorem putJ_perm (x : Jn) : ∀ l, (putJoin x l).Perm (x :: l)
  | [] => .refl _
  | y :: r => by
    unfold putJoin
    split
    · exact .refl _
    · exact ((putJ_perm x r).cons y).trans (.swap x y r)
theorem putJ_sorted (x : Jn) : ∀ l : List Jn, l.Pairwise leJ → (putJoin x l).Pairwise leJ
  | [], _ => by simp [putJoin]
  | y :: r, h => by
    have p := List.pairwise_cons.mp h
    unfold putJoin
    split
    · rename_i hb
      refine List.pairwise_cons.mpr ⟨fun z hz => ?_, h⟩
      rw [sb_iff] at hb
      rcases List.mem_cons.mp hz with rfl | hz
      · show spotBefore _ _ = false
        rw [sb_false]; omega
      · have := p.1 z hz
        unfold leJ at this ⊢
        rw [sb_false] at this ⊢
        omega
    · rename_i hb
      refine List.pairwise_cons.mpr ⟨fun z hz => ?_, putJ_sorted x r p.2⟩
      rcases List.mem_cons.mp ((putJ_perm x r).mem_iff.mp hz) with rfl | hz
      · show spotBefore _ _ = false
        simpa using hb
      · exact p.1 z hz
theorem foldJ_perm : ∀ (l acc : List Jn), (l.foldl (fun l j => putJoin (ori j) l) acc).Perm (acc ++ l.map ori)
  | [], acc => by simp
  | x :: l, acc => by
    show ((l.foldl (fun l j => putJoin (ori j) l) (putJoin (ori x) acc))).Perm _
    refine (foldJ_perm l _).trans ?_
    refine ((putJ_perm (ori x) acc).append_right (l.map ori)).trans ?_
    exact List.perm_middle.symm
theorem foldJ_sorted : ∀ (l acc : List Jn), acc.Pairwise leJ → (l.foldl (fun l j => putJoin (ori j) l) acc).Pairwise leJ
  | [], acc, h => h
  | x :: l, acc, h => foldJ_sorted l _ (putJ_sorted (ori x) acc h)
theorem sortJ_perm (l : List Jn) : (sortJ l).Perm (l.map ori) := by
  have h := foldJ_perm l []
  rw [List.nil_append] at h
  exact h
theorem sortJ_sorted (l : List Jn) : (sortJ l).Pairwise leJ := foldJ_sorted l [] .nil
theorem form_joins (P : Plan) : P.form.joins = sortJ P.joins := rfl
theorem form_borders (P : Plan) : P.form.borders = sortS P.borders := rfl
theorem form_signals (P : Plan) : P.form.signals = sortS P.signals := rfl
def both' (l : List Jn) : List Jn := l.flatMap fun j => [(j.1, j.2), (j.2, j.1)]
theorem both_ori {l : List Jn} {pt : Spot → Option Spot} (hn : ((both' l).map (·.1)).Nodup) (hpt : ∀ j ∈ both' l, pt j.1 = some j.2) : ((both' l).map (·.1)).filterMap (fun x => (pt x).bind fun y => if spotBefore x y = true then some (x, y) else none) = l.map ori := by
  induction l with
  | nil => rfl
  | cons j l ih =>
    have hb : both' (j :: l) = (j.1, j.2) :: (j.2, j.1) :: both' l := rfl
    rw [hb] at hn hpt ⊢
    simp only [List.map_cons] at hn ⊢
    have n1 := List.nodup_cons.mp hn
    have n2 := List.nodup_cons.mp n1.2
    have ne : j.1 ≠ j.2 := fun z => n1.1 (by rw [z]; exact List.mem_cons_self ..)
    have ih' := ih n2.2 (fun k hk => hpt k (by simp [hk]))
    have p1 := hpt (j.1, j.2) (by simp)
    have p2 := hpt (j.2, j.1) (by simp)
    simp only at p1 p2
    rw [List.filterMap_cons, List.filterMap_cons, p1, p2]
    simp only [Option.bind_some]
    unfold ori
    by_cases hb : spotBefore j.1 j.2 = true
    · have hb' : spotBefore j.2 j.1 = false := by
        rw [sb_iff] at hb
        rw [sb_false]
        omega
      simp only [hb, hb', if_true, Bool.false_eq_true, if_false, ih']
      rfl
    · have hb1 : spotBefore j.1 j.2 = false := by simpa using hb
      have hb' : spotBefore j.2 j.1 = true := by
        rw [sb_false] at hb1
        rw [sb_iff]
        have : ¬ (j.1.1 = j.2.1 ∧ j.1.2 = j.2.2) := fun z => ne (Prod.ext z.1 z.2)
        omega
      simp only [hb1, hb', if_true, Bool.false_eq_true, if_false, ih']
      rfl
theorem joins_eq {l : List Jn} {ks : List Spot} {pt : Spot → Option Spot} (hp : ks.Perm ((both' l).map (·.1))) (hs : ks.Pairwise (fun a b => spotBefore b a = false)) (hn : ((both' l).map (·.1)).Nodup)
    (hpt : ∀ j ∈ both' l, pt j.1 = some j.2) : (ks.filterMap fun x => (pt x).bind fun y => if spotBefore x y = true then some (x, y) else none) = sortJ l := by
  have e1 := both_ori hn hpt
  have hperm : (ks.filterMap fun x => (pt x).bind fun y => if spotBefore x y = true then some (x, y) else none).Perm (l.map ori) := by
    rw [← e1]
    exact hp.filterMap _
  have hfst : ∀ x b, ((pt x).bind fun y => if spotBefore x y = true then some (x, y) else none) = some b → b.1 = x := by
    intro x b h
    cases e : pt x with
    | none => rw [e] at h; cases h
    | some y =>
      rw [e] at h
      simp only [Option.bind_some] at h
      split at h
      · cases h; rfl
      · cases h
  have nks : ks.Nodup := hp.nodup_iff.mpr hn
  have hpw : (ks.filterMap fun x => (pt x).bind fun y => if spotBefore x y = true then some (x, y) else none).Pairwise (fun a b => spotBefore a.1 b.1 = true) := by
    rw [List.pairwise_filterMap]
    have h2 : ks.Pairwise (fun a b => spotBefore a b = true) := by
      have := hs.and nks
      refine this.imp fun {a b} h => ?_
      obtain ⟨h1, h2⟩ := h
      rw [sb_false] at h1
      rw [sb_iff]
      have : ¬ (a.1 = b.1 ∧ a.2 = b.2) := fun z => h2 (Prod.ext z.1 z.2)
      omega
    refine h2.imp fun {a b} h c hc d hd => ?_
    rw [hfst _ _ hc, hfst _ _ hd]
    exact h
  have hJ : (sortJ l).Pairwise (fun a b => spotBefore a.1 b.1 = true) := by
    have hn2 : ((sortJ l).map (·.1)).Nodup := by
      have q1 : ((sortJ l).map (·.1)).Perm ((ks.filterMap fun x => (pt x).bind fun y => if spotBefore x y = true then some (x, y) else none).map (·.1)) := ((sortJ_perm l).trans hperm.symm).map _
      rw [q1.nodup_iff]
      unfold List.Nodup
      rw [List.pairwise_map]
      refine hpw.imp fun {a b} h z => ?_
      rw [z, sb_iff] at h
      omega
    unfold List.Nodup at hn2
    rw [List.pairwise_map] at hn2
    refine ((sortJ_sorted l).and hn2).imp fun {a b} h => ?_
    obtain ⟨h1, h2⟩ := h
    unfold leJ at h1
    rw [sb_false] at h1
    rw [sb_iff]
    have : ¬ (a.1.1 = b.1.1 ∧ a.1.2 = b.1.2) := fun z => h2 (Prod.ext z.1 z.2)
    omega
  refine sorted_unique (fun a b => spotBefore a.1 b.1 = true) (fun a b h1 h2 => ?_) (hperm.trans (sortJ_perm l).symm) hpw hJ
  rw [sb_iff] at h1 h2
  omega
end YP
namespace YP
open PySem PySem.Spec PyProof.Rows L2
open Yh (Bytes Spot Sect Plan Step Route)
section
variable {P : Program} {w : World} {K : PySem.W.Frag} {mg : Str → Option Value} {base : Heap} {CP CB : Addr}
theorem nmK_kV (n : Bytes) : (nmK n).map kV = bV n := by
  unfold nmK bV iV bi
  rw [List.map_map, List.map_map]
  rfl
def spAddSec (CP : Addr) : Sp := fun vs H Q _ => ∃ (A : PA) (p : Plan) (k : Nat) (n : Bytes) (t : Addr), vs = [.ref A.p, .int (k : Int), .ref t] ∧ PlanAt CP H A p ∧ H t = some (.tup (bV n)) ∧ p.find n = none ∧ p.sects.length ≤ 2000 ∧
  ∀ H' : Hp, PlanAt CP H' A { p with sects := p.sects ++ [⟨n, k⟩] } → Keep [A.s, A.n] H H' → Q .non H'
theorem mt_Plan_add_section (T : Txt K mg CP CB) : Mt P w K mg base CP 1 "add_section" ["self", "kind", "name"] (spAddSec CP) := by
  refine T.m_Plan_add_section.ok T.cP sc_Plan_add_section (fun vs H Q E h => ?_) (fun f cdv A' outer s H vs Q E hr h => ?_)
  · obtain ⟨A, p, k, n, t, rfl, _⟩ := h
    rfl
  · obtain ⟨A, p, kd, n, t, rfl, h, ht, hf, hz, k⟩ := h
    have hsl := sizeLine_eq
    obtain ⟨vs, hs, hp⟩ := h.sects
    have hvl : vs.length = p.sects.length := Paired.length hp
    refine ⟨_, (pss_cons (ps_dput (hu_of hr) (pe_fld (pv 0) rfl) (pv 2) (pe_callB call_len_seq rfl T.b_len PySem.boot_len (pa_cons (pe_fld (pv 0) rfl) pa_nil)) rfl)
      (pss_one (ps_expr (pe_bm PySem.F.plainAttrs_list PySem.F.slot_list_append PySem.F.type_list_append mt_append (pe_fld (pv 0) rfl) (pa_cons (pe_tup (pa_cons (pv 1) (pa_cons (pv 2) pa_nil))) pa_nil))))), ?_⟩
    refine ⟨_, rfl, A.p, CP, A.dx, _, _, rfl, h.obj, T.cP, T.nP_sections, pf_sections A, A.s, _, rfl, .inl (SqL.of hs), _, rfl, A.p, CP, A.dx, _, _, rfl, h.obj, T.cP, T.nP_numbers, pf_numbers A, _, rfl, A.n, _, rfl, DPut.t (k := nmK n) h.nums (by rw [nmK_kV]; exact ht) (by unfold numsOf; simp; omega), ?_⟩
    have n1 : A.p ≠ A.n := ne_of h.obj h.nums (by intro z; cases z)
    have n2 : A.s ≠ A.n := ne_of hs h.nums (by intro z; cases z)
    have n3 : t ≠ A.n := ne_of ht h.nums (by intro z; cases z)
    have ev : valV (numsOf p.sects) (nmK n) = none := by rw [num_val, hf]; rfl
    rw [putK_new _ ev]
    refine ⟨_, rfl, A.p, CP, A.dx, _, _, rfl, (by rw [upd_ne n1]; exact h.obj), T.cP, T.nP_sections, pf_sections A, .inl ⟨rfl, _, SqL.of (by rw [upd_ne n2]; exact hs)⟩, _, rfl, _, rfl, (by show 2 ≤ sizeLine; decide), fun q hq => ⟨A.s, _, _, rfl, rfl, (by rw [upd_ne (ne_of_none (by rw [upd_ne n2]; exact hs) hq), upd_ne n2]; exact hs), (by omega), ?_⟩⟩
    have m1 : q ≠ A.s := Ne.symm (ne_of_none (by rw [upd_ne n2]; exact hs) hq)
    have m2 : q ≠ A.n := fun z => by rw [z, upd_same] at hq; cases hq
    have hq0 : H q = none := by rw [upd_ne m2] at hq; exact hq
    have tups : Tups H (upd (upd (upd H A.n (.dT (numsOf p.sects ++ [(nmK n, .int (vs.length : Nat))]))) q (.tup [.int (kd : Int), .ref t])) A.s (.lst (vs ++ [.ref q]))) := fun b xs e => by
      rw [upd_ne (ne_of e hs (by intro z; cases z)), upd_ne (ne_of_none e hq0), upd_ne (ne_of e h.nums (by intro z; cases z))]
      exact e
    obtain ⟨kvs, hj, hjp⟩ := h.joins
    have nd := h.nd
    simp only [List.nodup_cons, List.mem_cons, List.not_mem_nil, or_false, not_or] at nd
    refine k _ ⟨?_, ⟨_, upd_same, paired_snoc (paired_imp hp fun _ _ _ r => r.keep tups) ⟨q, t, rfl, ?_, tups _ _ ht⟩⟩, ?_, ⟨kvs, ?_, paired_imp hjp fun _ _ _ r => r.keep tups⟩, ?_, ?_, h.nd⟩ ?_
    · rw [upd_ne (ne_of h.obj hs (by intro z; cases z)), upd_ne (ne_of_none h.obj hq0), upd_ne n1]
      exact h.obj
    · rw [upd_ne m1, upd_same]
    · rw [upd_ne (Ne.symm n2), upd_ne (Ne.symm m2), upd_same, numsOf_snoc, hvl]
    · rw [upd_ne (ne_of hj hs (by intro z; cases z)), upd_ne (ne_of_none hj hq0), upd_ne (Ne.symm nd.1.1)]
      exact hj
    · rw [upd_ne (ne_of h.bords hs (by intro z; cases z)), upd_ne (ne_of_none h.bords hq0), upd_ne (Ne.symm nd.1.2.1)]
      exact h.bords
    · rw [upd_ne (ne_of h.sigs hs (by intro z; cases z)), upd_ne (ne_of_none h.sigs hq0), upd_ne (Ne.symm nd.1.2.2)]
      exact h.sigs
    · intro b o e hb
      simp only [List.mem_cons, List.not_mem_nil, or_false, not_or] at hb
      rw [upd_ne hb.1, upd_ne (ne_of_none e hq0), upd_ne hb.2]
      exact e
theorem both_snoc (l : List (Spot × Spot)) (x y : Spot) : both (l ++ [(x, y)]) = both l ++ [(x, y)] ++ [(y, x)] := by
  unfold both
  rw [List.flatMap_append]
  simp
def spAddJoin (CP : Addr) : Sp := fun vs H Q _ => ∃ (A : PA) (p : Plan) (x y : Spot) (a b : Addr), vs = [.ref A.p, .ref a, .ref b] ∧ PlanAt CP H A p ∧ H a = some (.tup (spV x)) ∧ H b = some (.tup (spV y)) ∧ p.partner x = none ∧ p.partner y = none ∧ x ≠ y ∧ p.joins.length ≤ 2000 ∧
  ∀ H' : Hp, PlanAt CP H' A { p with joins := p.joins ++ [(x, y)] } → Keep [A.j] H H' → Q .non H'
theorem both_length (l : List (Spot × Spot)) : (both l).length = 2 * l.length := by
  induction l with
  | nil => rfl
  | cons a l ih =>
    show (both l).length + 1 + 1 = _
    rw [ih, List.length_cons]
    omega
theorem mt_Plan_add_join (T : Txt K mg CP CB) : Mt P w K mg base CP 1 "add_join" ["self", "first", "second"] (spAddJoin CP) := by
  refine T.m_Plan_add_join.ok T.cP sc_Plan_add_join (fun vs H Q E h => ?_) (fun f cdv A' outer s H vs Q E hr h => ?_)
  · obtain ⟨A, p, x, y, a, b, rfl, _⟩ := h
    rfl
  · obtain ⟨A, p, x, y, a, b, rfl, h, ha, hb, hx, hy, hxy, hz, k⟩ := h
    have hsl := sizeLine_eq
    obtain ⟨kvs, hj, hjp⟩ := h.joins
    have hkl : kvs.length = 2 * p.joins.length := by rw [Paired.length hjp, both_length]
    have ex : valV kvs (spK x) = none := by
      rcases jo_val hjp x with ⟨_, z⟩ | ⟨_, _, z, _⟩
      · exact z
      · rw [partner_lk] at hx; rw [hx] at z; cases z
    have ey : valV kvs (spK y) = none := by
      rcases jo_val hjp y with ⟨_, z⟩ | ⟨_, _, z, _⟩
      · exact z
      · rw [partner_lk] at hy; rw [hy] at z; cases z
    refine ⟨_, (pss_cons (ps_dput (hu_of hr) (pe_fld (pv 0) rfl) (pv 1) (pv 2) rfl)
      (pss_one (ps_dput (hu_of hr) (pe_fld (pv 0) rfl) (pv 2) (pv 1) rfl))), ?_⟩
    refine ⟨_, rfl, _, rfl, A.p, CP, A.dx, _, _, rfl, h.obj, T.cP, T.nP_joined, pf_joined A, _, rfl, A.j, _, rfl, DPut.t (k := spK x) hj ha (by omega), ?_⟩
    rw [putK_new _ ex]
    have n1 : A.p ≠ A.j := ne_of h.obj hj (by intro z; cases z)
    have n2 : b ≠ A.j := ne_of hb hj (by intro z; cases z)
    refine ⟨_, rfl, _, rfl, A.p, CP, A.dx, _, _, rfl, (by rw [upd_ne n1]; exact h.obj), T.cP, T.nP_joined, pf_joined A, _, rfl, A.j, _, rfl, DPut.t (k := spK y) upd_same (by rw [upd_ne n2]; exact hb) (by simp; omega), ?_⟩
    rw [putK_new _ (by rw [valV_snoc _ _ _ _ ex, if_neg (fun z => hxy (spK_inj.mp z).symm)]; exact ey), upd_upd]
    have tups : Tups H (upd H A.j (.dT (kvs ++ [(spK x, .ref b)] ++ [(spK y, .ref a)]))) := fun c xs e => by
      rw [upd_ne (ne_of e hj (by intro z; cases z))]
      exact e
    obtain ⟨vs, hs, hp⟩ := h.sects
    have nd := h.nd
    simp only [List.nodup_cons, List.mem_cons, List.not_mem_nil, or_false, not_or] at nd
    refine k _ ⟨?_, ⟨vs, ?_, paired_imp hp fun _ _ _ r => r.keep tups⟩, ?_, ⟨_, upd_same, ?_⟩, ?_, ?_, h.nd⟩ (Keep.upd (by simp))
    · rw [upd_ne n1]; exact h.obj
    · rw [upd_ne (ne_of hs hj (by intro z; cases z))]; exact hs
    · rw [upd_ne nd.1.1]; exact h.nums
    · rw [both_snoc]
      exact paired_snoc (paired_snoc (paired_imp hjp fun _ _ _ r => r.keep tups) ⟨rfl, b, rfl, tups _ _ hb⟩) ⟨rfl, a, rfl, tups _ _ ha⟩
    · rw [upd_ne (Ne.symm nd.2.1.1)]; exact h.bords
    · rw [upd_ne (Ne.symm nd.2.1.2)]; exact h.sigs
theorem ones_snoc (l : List Spot) (x : Spot) : ones (l ++ [x]) = ones l ++ [(spK x, .bl true)] := by
  unfold ones
  rw [List.map_append]
  rfl
def spAddBord (CP : Addr) : Sp := fun vs H Q _ => ∃ (A : PA) (p : Plan) (x : Spot) (a : Addr), vs = [.ref A.p, .ref a] ∧ PlanAt CP H A p ∧ H a = some (.tup (spV x)) ∧ x ∉ p.borders ∧ p.borders.length ≤ 2000 ∧
  ∀ H' : Hp, PlanAt CP H' A { p with borders := p.borders ++ [x] } → Keep [A.b] H H' → Q .non H'
theorem mt_Plan_add_border (T : Txt K mg CP CB) : Mt P w K mg base CP 1 "add_border" ["self", "end"] (spAddBord CP) := by
  refine T.m_Plan_add_border.ok T.cP sc_Plan_add_border (fun vs H Q E h => ?_) (fun f cdv A' outer s H vs Q E hr h => ?_)
  · obtain ⟨A, p, x, a, rfl, _⟩ := h
    rfl
  · obtain ⟨A, p, x, a, rfl, h, ha, hx, hz, k⟩ := h
    have hsl := sizeLine_eq
    refine ⟨_, (pss_one (ps_dput (hu_of hr) (pe_fld (pv 0) rfl) (pv 1) pe_bl rfl)), ?_⟩
    refine ⟨_, rfl, A.p, CP, A.dx, _, _, rfl, h.obj, T.cP, T.nP_borders, pf_borders A, _, rfl, A.b, _, rfl, DPut.t (k := spK x) h.bords ha (by unfold ones; simp; omega), ?_⟩
    rw [putK_new _ (by rw [ones_val, if_neg hx])]
    have tups : Tups H (upd H A.b (.dT (ones p.borders ++ [(spK x, .bl true)]))) := fun c xs e => by
      rw [upd_ne (ne_of e h.bords (by intro z; cases z))]
      exact e
    obtain ⟨vs, hs, hp⟩ := h.sects
    obtain ⟨kvs, hj, hjp⟩ := h.joins
    have nd := h.nd
    simp only [List.nodup_cons, List.mem_cons, List.not_mem_nil, or_false, not_or] at nd
    refine k _ ⟨?_, ⟨vs, ?_, paired_imp hp fun _ _ _ r => r.keep tups⟩, ?_, ⟨kvs, ?_, paired_imp hjp fun _ _ _ r => r.keep tups⟩, ?_, ?_, h.nd⟩ (Keep.upd (by simp))
    · rw [upd_ne (ne_of h.obj h.bords (by intro z; cases z))]; exact h.obj
    · rw [upd_ne (ne_of hs h.bords (by intro z; cases z))]; exact hs
    · rw [upd_ne nd.1.2.1]; exact h.nums
    · rw [upd_ne nd.2.1.1]; exact hj
    · rw [upd_same, ones_snoc]
    · rw [upd_ne (Ne.symm nd.2.2.1)]; exact h.sigs
def spAddSig (CP : Addr) : Sp := fun vs H Q _ => ∃ (A : PA) (p : Plan) (x : Spot) (a : Addr), vs = [.ref A.p, .ref a] ∧ PlanAt CP H A p ∧ H a = some (.tup (spV x)) ∧ x ∉ p.signals ∧ p.signals.length ≤ 2000 ∧
  ∀ H' : Hp, PlanAt CP H' A { p with signals := p.signals ++ [x] } → Keep [A.g] H H' → Q .non H'
theorem mt_Plan_add_signal (T : Txt K mg CP CB) : Mt P w K mg base CP 1 "add_signal" ["self", "end"] (spAddSig CP) := by
  refine T.m_Plan_add_signal.ok T.cP sc_Plan_add_signal (fun vs H Q E h => ?_) (fun f cdv A' outer s H vs Q E hr h => ?_)
  · obtain ⟨A, p, x, a, rfl, _⟩ := h
    rfl
  · obtain ⟨A, p, x, a, rfl, h, ha, hx, hz, k⟩ := h
    have hsl := sizeLine_eq
    refine ⟨_, (pss_one (ps_dput (hu_of hr) (pe_fld (pv 0) rfl) (pv 1) pe_bl rfl)), ?_⟩
    refine ⟨_, rfl, A.p, CP, A.dx, _, _, rfl, h.obj, T.cP, T.nP_signals, pf_signals A, _, rfl, A.g, _, rfl, DPut.t (k := spK x) h.sigs ha (by unfold ones; simp; omega), ?_⟩
    rw [putK_new _ (by rw [ones_val, if_neg hx])]
    have tups : Tups H (upd H A.g (.dT (ones p.signals ++ [(spK x, .bl true)]))) := fun c xs e => by
      rw [upd_ne (ne_of e h.sigs (by intro z; cases z))]
      exact e
    obtain ⟨vs, hs, hp⟩ := h.sects
    obtain ⟨kvs, hj, hjp⟩ := h.joins
    have nd := h.nd
    simp only [List.nodup_cons, List.mem_cons, List.not_mem_nil, or_false, not_or] at nd
    refine k _ ⟨?_, ⟨vs, ?_, paired_imp hp fun _ _ _ r => r.keep tups⟩, ?_, ⟨kvs, ?_, paired_imp hjp fun _ _ _ r => r.keep tups⟩, ?_, ?_, h.nd⟩ (Keep.upd (by simp))
    · rw [upd_ne (ne_of h.obj h.sigs (by intro z; cases z))]; exact h.obj
    · rw [upd_ne (ne_of hs h.sigs (by intro z; cases z))]; exact hs
    · rw [upd_ne nd.1.2.2]; exact h.nums
    · rw [upd_ne nd.2.1.2]; exact hj
    · rw [upd_ne nd.2.2.1]; exact h.bords
    · rw [upd_same, ones_snoc]
theorem PlanAt.sect {H : Hp} {A : PA} {p : Plan} (h : PlanAt CP H A p) {i : Nat} {x : Sect} (hi : p.sects[i]? = some x) : ∃ vs q t, H A.s = some (.lst vs) ∧ vs[i]? = some (.ref q) ∧ H q = some (.tup [.int (x.kind : Int), .ref t]) ∧ H t = some (.tup (bV x.name)) := by
  obtain ⟨vs, hs, hp⟩ := h.sects
  obtain ⟨v, hv, q, t, rfl, h1, h2⟩ := paired_get2 hp hi
  exact ⟨vs, q, t, hs, hv, h1, h2⟩
def spKind (CP : Addr) : Sp := fun vs H Q _ => ∃ (A : PA) (p : Plan) (i : Nat) (x : Sect), vs = [.ref A.p, .int (i : Int)] ∧ PlanAt CP H A p ∧ p.sects[i]? = some x ∧ Q (.int (x.kind : Int)) H
theorem mt_Plan_section_kind (T : Txt K mg CP CB) : Mt P w K mg base CP 1 "section_kind" ["self", "section"] (spKind CP) := by
  refine T.m_Plan_section_kind.ok T.cP sc_Plan_section_kind (fun vs H Q E h => ?_) (fun f cdv A' outer s H vs Q E hr h => ?_)
  · obtain ⟨A, p, i, x, rfl, _⟩ := h
    rfl
  · obtain ⟨A, p, i, x, rfl, h, hi, k⟩ := h
    obtain ⟨vs, q, t, h1, h2, h3, h4⟩ := h.sect hi
    refine ⟨_, (pss_one (ps_ret (pe_ix ix_tup (pe_ix ix_list (pe_fld (pv 0) rfl) (pv 1) (fun _ _ => rfl)) pe_int (fun _ _ => rfl)))), ?_⟩
    exact ⟨_, rfl, A.p, CP, A.dx, _, _, rfl, h.obj, T.cP, T.nP_sections, pf_sections A, _, rfl, A.s, _, _, _, rfl, rfl, SqL.of h1, atI_nat h2, q, _, _, _, rfl, rfl, SqT.of h3, atI_nat (j := 0) rfl, k⟩
def spNameOf (CP : Addr) : Sp := fun vs H Q _ => ∃ (A : PA) (p : Plan) (i : Nat) (x : Sect), vs = [.ref A.p, .int (i : Int)] ∧ PlanAt CP H A p ∧ p.sects[i]? = some x ∧ ∀ t, H t = some (.tup (bV x.name)) → Q (.ref t) H
theorem mt_Plan_section_name (T : Txt K mg CP CB) : Mt P w K mg base CP 1 "section_name" ["self", "section"] (spNameOf CP) := by
  refine T.m_Plan_section_name.ok T.cP sc_Plan_section_name (fun vs H Q E h => ?_) (fun f cdv A' outer s H vs Q E hr h => ?_)
  · obtain ⟨A, p, i, x, rfl, _⟩ := h
    rfl
  · obtain ⟨A, p, i, x, rfl, h, hi, k⟩ := h
    obtain ⟨vs, q, t, h1, h2, h3, h4⟩ := h.sect hi
    refine ⟨_, (pss_one (ps_ret (pe_ix ix_tup (pe_ix ix_list (pe_fld (pv 0) rfl) (pv 1) (fun _ _ => rfl)) pe_int (fun _ _ => rfl)))), ?_⟩
    exact ⟨_, rfl, A.p, CP, A.dx, _, _, rfl, h.obj, T.cP, T.nP_sections, pf_sections A, _, rfl, A.s, _, _, _, rfl, rfl, SqL.of h1, atI_nat h2, q, _, _, _, rfl, rfl, SqT.of h3, atI_nat (j := 1) rfl, k t h4⟩
def Kinds (p : Plan) : Prop := ∀ x ∈ p.sects, x.kind ≤ 2
def spHasEnd (CP : Addr) : Sp := fun vs H Q _ => ∃ (A : PA) (p : Plan) (x : Spot) (a : Addr), vs = [.ref A.p, .ref a] ∧ PlanAt CP H A p ∧ H a = some (.tup (spV x)) ∧ Kinds p ∧ Q (.bl (p.isEnd x)) H
theorem mt_Plan_has_end (T : Txt K mg CP CB) : Mt P w K mg base CP 2 "has_end" ["self", "end"] (spHasEnd CP) := by
  refine T.m_Plan_has_end.ok T.cP sc_Plan_has_end (fun vs H Q E h => ?_) (fun f cdv A' outer s H vs Q E hr h => ?_)
  · obtain ⟨A, p, x, a, rfl, _⟩ := h
    rfl
  · obtain ⟨A, p, x, a, rfl, h, ha, hk, k⟩ := h
    obtain ⟨vs, hs, hp⟩ := h.sects
    have hvl : vs.length = p.sects.length := Paired.length hp
    refine ⟨_, (pss_cons (ps_if (pt_cmpR op_ge (pe_ix ix_tup (pv 1) pe_int (fun _ _ => rfl)) (pe_callB call_len_seq rfl T.b_len PySem.boot_len (pa_cons (pe_fld (pv 0) rfl) pa_nil)) (nomark _)) (pss_one (ps_ret pe_bl)) pss_nil)
      (pss_one (ps_ret (pe_cmpR op_lt (pe_ix ix_tup (pv 1) pe_int (fun _ _ => rfl)) (pe_ix ix_tup (pe_gtup rfl T.t_END_COUNTS) (pe_mt (pv 0) (mt_Plan_section_kind T) (hr.mono (by decide)) (pa_cons (pe_ix ix_tup (pv 1) pe_int (fun _ _ => rfl)) pa_nil)) (fun _ _ => rfl)) (nomark _))))), ?_⟩
    refine ⟨_, rfl, a, _, _, _, rfl, rfl, SqT.of ha, atI_nat (j := 0) rfl, _, rfl, A.p, CP, A.dx, _, _, rfl, h.obj, T.cP, T.nP_sections, pf_sections A, A.s, _, rfl, .inl (SqL.of hs), _, _, rfl, rfl, _, rfl, ite2 (fun z => ?_) (fun z => ?_)⟩
    · have : ¬ x.1 < p.sects.length := by have := of_decide_eq_true z; omega
      have e : p.isEnd x = false := by
        unfold Plan.isEnd
        rw [decide_eq_false this, Bool.false_and]
      rw [e] at k
      exact k
    · have hlt : x.1 < p.sects.length := by
        by_cases y : x.1 < p.sects.length
        · exact y
        · exact absurd (decide_eq_true (by omega)) z
      obtain ⟨y, hy⟩ : ∃ y, p.sects[x.1]? = some y := ⟨_, List.getElem?_eq_getElem hlt⟩
      have hky := hk y (List.mem_of_getElem? hy)
      refine ⟨_, rfl, a, _, _, _, rfl, rfl, SqT.of ha, atI_nat (j := 1) rfl, fun b hb => ?_⟩
      have e : p.isEnd x = decide ((x.2 : Int) < (if y.kind = 0 then 2 else if y.kind = 1 then 3 else 4 : Nat)) := by
        unfold Plan.isEnd Plan.kindAt Yh.endsOf
        rw [decide_eq_true hlt, hy, Bool.true_and]
        simp
      have ee : [V.int 2, V.int 3, V.int 4][y.kind]? = some (.int ((if y.kind = 0 then 2 else if y.kind = 1 then 3 else 4 : Nat) : Int)) := by
        have : y.kind = 0 ∨ y.kind = 1 ∨ y.kind = 2 := by omega
        rcases this with q | q | q <;> rw [q] <;> rfl
      refine ⟨_, rfl, A.p, A.dx, _, rfl, h.obj, rfl, _, rfl, a, _, _, _, rfl, rfl, SqT.of ha, atI_nat (j := 0) rfl, A, p, x.1, y, rfl, h, hy, b, _, _, _, rfl, rfl, hb H, atI_nat ee, _, _, rfl, rfl, ?_⟩
      rw [e] at k
      exact k
def spTaken (CP : Addr) : Sp := fun vs H Q _ => ∃ (A : PA) (p : Plan) (x : Spot) (a : Addr), vs = [.ref A.p, .ref a] ∧ PlanAt CP H A p ∧ H a = some (.tup (spV x)) ∧ Q (.bl (p.taken x)) H
theorem mt_Plan_is_taken (T : Txt K mg CP CB) : Mt P w K mg base CP 1 "is_taken" ["self", "end"] (spTaken CP) := by
  refine T.m_Plan_is_taken.ok T.cP sc_Plan_is_taken (fun vs H Q E h => ?_) (fun f cdv A' outer s H vs Q E hr h => ?_)
  · obtain ⟨A, p, x, a, rfl, _⟩ := h
    rfl
  · obtain ⟨A, p, x, a, rfl, h, ha, k⟩ := h
    obtain ⟨kvs, h1, h2, h3⟩ := h.joined x
    refine ⟨_, (pss_one (ps_ret (pe_or (pe_cmp (pc_din (hu_of hr) (pv 1) (pe_fld (pv 0) rfl))) (pe_one (pe_cmp (pc_din (hu_of hr) (pv 1) (pe_fld (pv 0) rfl))))))), ?_⟩
    refine ⟨_, rfl, _, rfl, A.p, CP, A.dx, _, _, rfl, h.obj, T.cP, T.nP_joined, pf_joined A, A.j, _, rfl, DGet.t (k := spK x) h1 ha, _, rfl, ite2 (fun z => ?_) (fun z => ?_)⟩
    · rw [h2] at z
      have e : p.taken x = true := by unfold Plan.taken; rw [z, Bool.true_or]
      rw [e] at k
      exact k
    · rw [h2] at z
      have e : p.taken x = p.borders.contains x := by unfold Plan.taken Plan.isBorder; rw [bfalse z, Bool.false_or]
      refine ⟨_, rfl, _, rfl, A.p, CP, A.dx, _, _, rfl, h.obj, T.cP, T.nP_borders, pf_borders A, A.b, _, rfl, DGet.t (k := spK x) h.bords ha, ?_⟩
      rw [ones_some]
      rw [e] at k
      exact k
abbrev SpotsAt (H : Hp) (ps : List Addr) (ks : List Spot) : Prop := Paired (fun p k => H p = some (.tup (spV k))) ps ks
abbrev retS (H : Hp) (Q : VK) (ks : List Spot) : Prop := ∀ (p : Addr) (ps : List Addr) (H' : Hp), H p = none → Same H H' → H' p = some (.lst (ps.map V.ref)) → SpotsAt H' ps ks → Q (.ref p) H'
def spBords (CP : Addr) : Sp := fun vs H Q _ => ∃ (A : PA) (p : Plan), vs = [.ref A.p] ∧ PlanAt CP H A p ∧ retS H Q (sortS p.borders)
theorem ones_keys (l : List Spot) : (ones l).map (·.1) = l.map spK := by
  unfold ones
  rw [List.map_map]
  rfl
theorem mt_Plan_border_ends (T : Txt K mg CP CB) : Mt P w K mg base CP 1 "border_ends" ["self"] (spBords CP) := by
  refine T.m_Plan_border_ends.ok T.cP sc_Plan_border_ends (fun vs H Q E h => ?_) (fun f cdv A' outer s H vs Q E hr h => ?_)
  · obtain ⟨A, p, rfl, _⟩ := h
    rfl
  · obtain ⟨A, p, rfl, h, k⟩ := h
    refine ⟨_, (pss_one (ps_ret (pe_callB (cr_sortedT rfl) rfl T.b_sorted PyProof.Rows.boot_sorted (pa_cons (pe_fld (pv 0) rfl) pa_nil)))), ?_⟩
    refine ⟨_, rfl, A.p, CP, A.dx, _, _, rfl, h.obj, T.cP, T.nP_borders, pf_borders A, A.b, _, p.borders, rfl, h.bords, ones_keys _, fun ps ks' q hp hs hpr hq => ?_⟩
    rw [sortS_eq hp hs] at hpr
    exact k q ps _ hq (Same.new1 hq) upd_same (paired_imp hpr fun a _ b e => by rw [upd_ne (ne_of_none e hq)]; exact e)
def spSigs (CP : Addr) : Sp := fun vs H Q _ => ∃ (A : PA) (p : Plan), vs = [.ref A.p] ∧ PlanAt CP H A p ∧ retS H Q (sortS p.signals)
theorem mt_Plan_signal_ends (T : Txt K mg CP CB) : Mt P w K mg base CP 1 "signal_ends" ["self"] (spSigs CP) := by
  refine T.m_Plan_signal_ends.ok T.cP sc_Plan_signal_ends (fun vs H Q E h => ?_) (fun f cdv A' outer s H vs Q E hr h => ?_)
  · obtain ⟨A, p, rfl, _⟩ := h
    rfl
  · obtain ⟨A, p, rfl, h, k⟩ := h
    refine ⟨_, (pss_one (ps_ret (pe_callB (cr_sortedT rfl) rfl T.b_sorted PyProof.Rows.boot_sorted (pa_cons (pe_fld (pv 0) rfl) pa_nil)))), ?_⟩
    refine ⟨_, rfl, A.p, CP, A.dx, _, _, rfl, h.obj, T.cP, T.nP_signals, pf_signals A, A.g, _, p.signals, rfl, h.sigs, ones_keys _, fun ps ks' q hp hs hpr hq => ?_⟩
    rw [sortS_eq hp hs] at hpr
    exact k q ps _ hq (Same.new1 hq) upd_same (paired_imp hpr fun a _ b e => by rw [upd_ne (ne_of_none e hq)]; exact e)
end
end YP
namespace YP
open PySem PySem.Spec PyProof.Rows L2
open Yh (Bytes Spot Sect Plan Step Route)
section
variable {X : Cx} {K : PySem.W.Frag}
theorem ix_listK (h : X.K = K) : IxR X (rIxL K) := h ▸ ix_list
theorem ix_tupK (h : X.K = K) : IxR X (rIxT K) := h ▸ ix_tup
theorem op_ltTK (h : X.K = K) (hu : X.A.units < cLine) : OpR X (compareOp .Lt) (rLtT K) := h ▸ op_ltT hu
theorem op_catTK (h : X.K = K) : OpR X (binaryOp .Add) (rCatT K) := h ▸ op_catT
theorem op_in_seqK (h : X.K = K) : OpR X (compareOp .In) (rIn K false) := h ▸ op_in_seq
theorem pe_fldK {e : Expr} {f : Str} {pos : Pos} {ta : TE} (h : X.K = K) (he : PE X e ta) (hb : attributeBase e f X.env (eval e X.env) = eval e X.env) : PE X (.Attribute e f pos) (tFld K ta f) := h ▸ pe_fld he hb
end
section
variable {P : Program} {w : World} {K : PySem.W.Frag} {mg : Str → Option Value} {base : Heap} {CP CB : Addr}
theorem lexLt_spot (x y : Spot) : HT.lexLt [(x.1 : Int), (x.2 : Int)] [(y.1 : Int), (y.2 : Int)] = Yh.spotBefore x y := by
  rw [HT.lexLt_cons, HT.lexLt_cons, HT.lexLt_nil_nil]
  rw [Bool.eq_iff_iff, sb_iff]
  by_cases h1 : (x.1 : Int) = y.1
  · rw [if_pos h1]
    by_cases h2 : (x.2 : Int) = y.2
    · rw [if_pos h2]
      simp
      omega
    · rw [if_neg h2]
      simp
      omega
  · rw [if_neg h1]
    simp
    omega
def jnR (H : Hp) (v : V) (j : Jn) : Prop := ∃ a b c, v = .ref a ∧ H a = some (.tup [.ref b, .ref c]) ∧ H b = some (.tup (spV j.1)) ∧ H c = some (.tup (spV j.2))
theorem jnR.keep {H H' : Hp} (h : Tups H H') {v : V} {x : Jn} (r : jnR H v x) : jnR H' v x := by
  obtain ⟨a, b, c, e, h1, h2, h3⟩ := r
  exact ⟨a, b, c, e, h _ _ h1, h _ _ h2, h _ _ h3⟩
def spJoinEnds (CP : Addr) : Sp := fun vs H Q _ => ∃ (A : PA) (p : Plan), vs = [.ref A.p] ∧ PlanAt CP H A p ∧ ((both p.joins).map (·.1)).Nodup ∧ p.joins.length ≤ 2000 ∧
  ∀ (q : Addr) (vs : List V) (H' : Hp), H q = none → Same H H' → H' q = some (.lst vs) → Paired (jnR H') vs (sortJ p.joins) → Q (.ref q) H'
theorem jkeys {H : Hp} {kvs : List (List Key × V)} {l : List Jn} (h : Paired (jR H) kvs l) : kvs.map (·.1) = (l.map (·.1)).map spK := by
  induction h with
  | nil => rfl
  | @cons a b l m g t ih => simp only [List.map_cons, ih, g.1]
theorem lk_nodup {l : List Jn} (h : (l.map (·.1)).Nodup) : ∀ j ∈ l, lk l j.1 = some j.2 := by
  induction l with
  | nil => intro j hj; simp at hj
  | cons k l ih =>
    have n := List.nodup_cons.mp h
    intro j hj
    rcases List.mem_cons.mp hj with rfl | hj
    · unfold lk
      rw [List.find?_cons_of_pos (by simp)]
      rfl
    · unfold lk
      have hne : ¬ k.1 = j.1 := fun z => n.1 (by show k.1 ∈ _; rw [z]; exact List.mem_map.mpr ⟨j, hj, rfl⟩)
      rw [List.find?_cons_of_neg (by simp [hne])]
      exact ih n.2 j hj
theorem mt_Plan_join_ends (T : Txt K mg CP CB) : Mt P w K mg base CP 1 "join_ends" ["self"] (spJoinEnds CP) := by
  refine T.m_Plan_join_ends.ok T.cP sc_Plan_join_ends (fun vs H Q E h => ?_) (fun f cdv A' outer s H vs Q E hr h => ?_)
  · obtain ⟨A, p, rfl, _⟩ := h
    rfl
  · obtain ⟨A, p, rfl, h, hnd, hz, k⟩ := h
    have hsl := sizeLine_eq
    obtain ⟨kvs, hj, hjp⟩ := h.joins
    refine ⟨_, (pss_one (ps_ret (pe_lc (own := [("end", 1)]) rfl sc_Plan_join_ends.nd (pi_list (pe_callB (cr_sortedT rfl) rfl T.b_sorted PyProof.Rows.boot_sorted (pa_cons (pe_fld (pv 0) rfl) pa_nil))) (blkOk_by (N := ["self", "end"]) (sc := defScope s_Plan_join_ends) (by decide +kernel)) (fun _ _ _ _ _ => (pg_name (i := 1) sc_Plan_join_ends.nd rfl (by first | exact Or.inl rfl | exact Or.inr rfl))) (fun _ _ _ _ _ => (pts_one (pt_cmpR (op_ltTK (K := K) rfl hr.units0) (pv 1) (pe_dget (hu_of hr) (pe_fldK (K := K) rfl (pv 0) rfl) (pv 1) (fun _ _ => rfl)) (nomark _)))) (fun _ _ _ _ _ => (pe_tup (pa_cons (pv 1) (pa_cons (pe_dget (hu_of hr) (pe_fldK (K := K) rfl (pv 0) rfl) (pv 1) (fun _ _ => rfl)) pa_nil))))))), ?_⟩
    refine ⟨_, rfl, A.p, CP, A.dx, _, _, rfl, h.obj, T.cP, T.nP_joined, pf_joined A, A.j, kvs, (both p.joins).map (·.1), rfl, hj, jkeys hjp, fun ps ks q hperm hsort hpr hq => ⟨q, rfl, ⟨_, SqL.of upd_same⟩, fun D hD => ?_⟩⟩
    have s0 : Same H (upd H q (.lst (ps.map V.ref))) := Same.new1 hq
    have hD0 : H D = none := s0.free hD
    have nDq : D ≠ q := fun z => by rw [z, upd_same] at hD; cases hD
    have hkl : ks.length = 2 * p.joins.length := by rw [hperm.length_eq, List.length_map, both_length]
    have hpl : ps.length = ks.length := Paired.length hpr
    have hend := joins_eq (l := p.joins) (pt := p.partner) hperm hsort hnd (fun j hj => by rw [partner_lk]; exact lk_nodup hnd j hj)
    refine lc_list (K := K) (a := q) (xs := ps.map V.ref) (fun i H' => Same H H' ∧ H' q = some (.lst (ps.map V.ref)) ∧ ∃ vs, H' D = some (.lst vs) ∧ vs.length ≤ i ∧ Paired (jnR H') vs ((ks.take i).filterMap fun x => (p.partner x).bind fun y => if Yh.spotBefore x y = true then some (x, y) else none))
      ⟨Same.new s0 hD, by rw [upd_ne (Ne.symm nDq)]; exact upd_same, [], upd_same, Nat.le_refl _, .nil⟩ (fun i H' _ z => SqL.of z.2.1) ?_ ?_
    · rintro i y H' hi ⟨hs, hq', vs, hv, hvl, hvp⟩
      obtain ⟨e, he, rfl⟩ := getm hi
      have hil : i < ps.length := (List.getElem?_eq_some_iff.mp he).1
      obtain ⟨x, hx, hex⟩ := paired_get hpr he
      have hex' : H' e = some (.tup (spV x)) := hs _ _ hex
      have hxm : x ∈ (both p.joins).map (·.1) := hperm.mem_iff.mp (List.mem_of_getElem? hx)
      obtain ⟨jj, hjj, rfl⟩ := List.mem_map.mp hxm
      have hpt : p.partner jj.1 = some jj.2 := by rw [partner_lk]; exact lk_nodup hnd jj hjj
      have h' := h.same hs
      obtain ⟨kvs', hj', _, hv'⟩ := h'.joined jj.1
      obtain ⟨c, hc, hc2⟩ := hv' _ hpt
      have dg : DGet H' A.j (.ref e) (some (.ref c)) := by rw [← hc]; exact DGet.t (k := spK jj.1) hj' hex'
      have eF : ((ks.take (i + 1)).filterMap fun x => (p.partner x).bind fun y => if Yh.spotBefore x y = true then some (x, y) else none) = ((ks.take i).filterMap fun x => (p.partner x).bind fun y => if Yh.spotBefore x y = true then some (x, y) else none) ++ (if Yh.spotBefore jj.1 jj.2 = true then [(jj.1, jj.2)] else []) := by
        rw [take_snoc hx, List.filterMap_append]
        congr 1
        rw [List.filterMap_cons, hpt]
        simp only [Option.bind_some, List.filterMap_nil]
        split <;> simp_all
      refine ⟨rfl, _, rfl, _, rfl, A.p, CP, A.dx, _, _, rfl, h'.obj, T.cP, T.nP_joined, pf_joined A, _, rfl, A.j, .ref c, rfl, dg, e, c, [_, _], [_, _], rfl, rfl, SqT.of hex', SqT.of hc2, _, rfl, ite2 (fun z => ?_) (fun z => ?_)⟩
      · rw [lexLt_spot] at z
        refine ⟨_, rfl, _, rfl, A.p, CP, A.dx, _, _, rfl, h'.obj, T.cP, T.nP_joined, pf_joined A, _, rfl, A.j, .ref c, rfl, dg, (by show 2 ≤ sizeLine; decide), fun r hr => ⟨vs, ?_, by omega, ?_, ?_, vs ++ [.ref r], ?_, ?_, ?_⟩⟩
        · rw [upd_ne (ne_of_none hv hr)]; exact hv
        · exact Same.wr (Same.new hs hr) hD0
        · rw [upd_ne (Ne.symm nDq), upd_ne (ne_of_none hq' hr)]; exact hq'
        · exact upd_same
        · simp; omega
        · have tups : Tups H' (upd (upd H' r (.tup [.ref e, .ref c])) D (.lst (vs ++ [.ref r]))) := fun b xs e' => by
            rw [upd_ne (ne_of e' hv (by intro z; cases z)), upd_ne (ne_of_none e' hr)]
            exact e'
          have hrD : r ≠ D := fun z => by rw [z, hv] at hr; cases hr
          rw [eF, if_pos z]
          exact paired_snoc (paired_imp hvp fun _ _ _ r => r.keep tups) ⟨r, e, c, rfl, by rw [upd_ne hrD, upd_same], tups _ _ hex', tups _ _ hc2⟩
      · rw [lexLt_spot] at z
        refine ⟨hs, hq', vs, hv, by omega, ?_⟩
        rw [eF, if_neg z, List.append_nil]
        exact hvp
    · rintro H' ⟨hs, hq', vs, hv, hvl, hvp⟩
      rw [List.length_map, hpl, List.take_length, hend] at hvp
      exact k D vs H' hD0 hs hv hvp
abbrev WordsAt (H : Hp) (ps : List Addr) (ws : List Bytes) : Prop := Paired (fun q l => H q = some (.lst (bV l))) ps ws
def Short (ws : List Bytes) : Prop := ws.length ≤ 30000 ∧ ∀ w ∈ ws, w.length ≤ 30000
def spAreEnds : Sp := fun vs H Q _ => ∃ (a : Addr) (ps : List Addr) (ws : List Bytes) (n : Nat), vs = [.ref a, .int (n : Int)] ∧ H a = some (.lst (ps.map V.ref)) ∧ WordsAt H ps ws ∧ Short ws ∧ retV H Q (.bl (decide (ws.length = n) && ws.all fun w => (Yh.endIn w).isSome))
theorem fn_are_ends (T : Txt K mg CP CB) : Fn P w K mg base 4 "are_ends" ["words", "count"] spAreEnds := by
  refine T.f_are_ends.ok sc_are_ends (fun vs H Q E h => ?_) (fun f cdv A outer s H vs Q E hr h => ?_)
  · obtain ⟨a, ps, ws, n, rfl, _⟩ := h
    rfl
  · obtain ⟨a, ps, ws, n, rfl, ha, hw, hsh, k⟩ := h
    have hsl := sizeLine_eq
    have hpl : ps.length = ws.length := Paired.length hw
    refine ⟨_, (pss_one (ps_ret (pe_and (pe_cmpR op_eq (pe_callB call_len_seq rfl T.b_len PySem.boot_len (pa_cons (pv 0) pa_nil)) (pv 1) (nomark _)) (pe_one (pe_callB (cr_all rfl) rfl T.b_all PyProof.Rows.boot_all (pa_cons (pe_lc (own := [("word", 2)]) rfl sc_are_ends.nd (pi_list (pv 0)) (blkOk_by (N := ["words", "count", "word"]) (sc := defScope s_are_ends) (by decide +kernel)) (fun _ _ _ _ _ => (pg_name (i := 2) sc_are_ends.nd rfl (by first | exact Or.inl rfl | exact Or.inr rfl))) (fun _ _ _ _ _ => pts_nil) (fun _ _ _ _ _ => (pe_fn (fn_is_end T) (hr.mono (by decide)) rfl (pa_cons (pv 2) pa_nil)))) pa_nil)))))), ?_⟩
    refine ⟨_, rfl, a, _, rfl, .inl (SqL.of ha), _, rfl, rfl, _, rfl, ite2 (fun z => ?_) (fun z => ?_)⟩
    · have e : ws.length = n := by
        have := of_decide_eq_true z
        injection this with this
        rw [List.length_map] at this
        omega
      rw [decide_eq_true e, Bool.true_and] at k
      refine ⟨_, rfl, a, rfl, ⟨_, SqL.of ha⟩, fun D hD => lc_list (K := K) (a := a) (xs := ps.map V.ref) (fun i H' => Same H H' ∧ H' D = some (.lst (((ws.take i).map fun w => (Yh.endIn w).isSome).map V.bl)))
        ⟨Same.new1 hD, upd_same⟩ (fun i H' _ z => SqL.of (z.1 _ _ ha)) ?_ ?_⟩
      · rintro i y H' hi ⟨hs, hd⟩
        obtain ⟨q, hq, rfl⟩ := getm hi
        obtain ⟨x, hx, hxq⟩ := paired_get hw hq
        have hil : i < ws.length := (List.getElem?_eq_some_iff.mp hx).1
        refine ⟨rfl, yes_of ⟨_, rfl, q, x, rfl, hs _ _ hxq, hsh.2 x (List.mem_of_getElem? hx), fun H2 hs2 => ⟨_, hs2 _ _ hd, ?_, Same.wr (hs.trans hs2) hD, ?_⟩⟩⟩
        · simp only [List.length_map, List.length_take]
          have := hsh.1
          omega
        · rw [upd_same, take_snoc hx, List.map_append, List.map_append]
          rfl
      · rintro H' ⟨hs, hd⟩
        rw [List.length_map, hpl, List.take_length] at hd
        refine ⟨D, _, rfl, SqL.of hd, ?_⟩
        rw [all_take]
        exact k H' hs
    · have e : ¬ ws.length = n := fun y => z (decide_eq_true (by rw [List.length_map, hpl, y]))
      rw [decide_eq_false e, Bool.false_and] at k
      exact k H (Same.refl H)
def spFindEnd (CP : Addr) : Sp := fun vs H Q _ => ∃ (A : PA) (p : Plan) (a : Addr) (w n : Bytes) (e : Nat), vs = [.ref A.p, .ref a] ∧ PlanAt CP H A p ∧ Kinds p ∧ H a = some (.lst (bV w)) ∧ Yh.endIn w = some (n, e) ∧
  ∀ (v : V) (H' : Hp), Same H H' → (p.spot (n, e) = none → v = .non) → (∀ x, p.spot (n, e) = some x → ∃ q, v = .ref q ∧ H' q = some (.tup (spV x))) → Q v H'
theorem fn_find_end (T : Txt K mg CP CB) : Fn P w K mg base 3 "find_end" ["plan", "word"] (spFindEnd CP) := by
  refine T.f_find_end.ok sc_find_end (fun vs H Q E h => ?_) (fun f cdv A' outer s H vs Q E hr h => ?_)
  · obtain ⟨A, p, a, w, n, e, rfl, _⟩ := h
    rfl
  · obtain ⟨A, p, a, w, n, e, rfl, h, hk, ha, he, k⟩ := h
    have hsl := sizeLine_eq
    obtain ⟨d, rfl, hn, h48, h51, rfl⟩ := (endIn_iff w n e).mp he
    refine ⟨_, (pss_cons (ps_set (i := 2) sc_find_end.nd rfl (by first | exact Or.inl rfl | exact Or.inr rfl) (pe_dget1 (hu_of hr) (pe_fld (pv 0) rfl) (pe_callTy call_tuple_of rfl T.b_tuple PyProof.Rows.boot_tuple (pa_cons (pe_slice sl_list (pv 1) po_none (po_some (pe_un un_neg pe_int))) pa_nil)) ⟨rfl, rfl, rfl, rfl⟩))
      (pss_cons (ps_if (pt_cmp (pc_isN (pv 2))) (pss_one (ps_ret pe_non)) pss_nil)
      (pss_cons (ps_set (i := 3) sc_find_end.nd rfl (by first | exact Or.inl rfl | exact Or.inr rfl) (pe_tup (pa_cons (pv 2) (pa_cons (pe_op op_sub (pe_ix ix_list (pv 1) (pe_un un_neg pe_int) (fun _ _ => rfl)) (pe_gint rfl T.c_DIGIT_ZERO)) pa_nil))))
      (pss_one (ps_ret (pe_ifExp (pt_val (pe_mt (pv 0) (mt_Plan_has_end T) (hr.mono (by decide)) (pa_cons (pv 3) pa_nil))) (pv 3) pe_non)))))), ?_⟩
    have e0 : cutV (bV (n ++ [46, d])) none (some (-2)) = bV n := by
      have e2 : (bV (n ++ [46, d])).length - 2 = (bV n).length := by rw [bV_length, bV_length]; simp
      show cutV (bV (n ++ [46, d])) none (some (-((2 : Nat) : Int))) = bV n
      rw [cut_back _ 2 (by decide), e2, bV_append, List.take_left]
    refine ⟨_, rfl, A.p, CP, A.dx, _, _, rfl, h.obj, T.cP, T.nP_numbers, pf_numbers A, A.n, rfl, .inr ⟨_, .inl h.nums⟩, _, rfl, _, rfl, _, rfl, a, _, rfl, SqL.of ha, fun q hq => ⟨q, _, rfl, .inl ⟨SqL.of upd_same, fun l hl => ?_⟩⟩⟩
    have s1 : Same H (upd H q (.lst (cutV (bV (n ++ [46, d])) none (some (-2))))) := Same.new1 hq
    have s2 : Same H (upd (upd H q (.lst (cutV (bV (n ++ [46, d])) none (some (-2))))) l (.tup (cutV (bV (n ++ [46, d])) none (some (-2))))) := Same.new s1 hl
    refine ⟨_, DGet.t (k := nmK n) (s2 _ _ h.nums) (by rw [upd_same, e0, nmK_kV]), ?_⟩
    rw [num_val]
    cases hf : p.find n with
    | none =>
      refine ⟨_, rfl, _, rfl, ite2 (fun _ => ?_) (fun z => absurd rfl z)⟩
      exact k .non _ s2 (fun _ => rfl) (fun x hx => by unfold Plan.spot at hx; rw [hf] at hx; cases hx)
    | some i =>
      refine ⟨_, rfl, _, rfl, ite2 (fun z => absurd z (by simp)) (fun _ => ?_)⟩
      have g2 : atI (bV (n ++ [46, d])) (-1) = some (.int (d.toNat : Int)) := by
        have := atI_last (bV (n ++ [46])) (.int (d.toNat : Int))
        rw [show bV (n ++ [46]) ++ [V.int (d.toNat : Int)] = bV (n ++ [46, d]) by
          rw [show n ++ [46, d] = (n ++ [46]) ++ [d] by simp, bV_append (n ++ [46]) [d]]
          rfl] at this
        exact this
      refine ⟨_, rfl, _, rfl, _, rfl, a, _, _, _, rfl, rfl, SqL.of (s2 _ _ ha), g2, _, _, rfl, rfl, (by show 2 ≤ sizeLine; decide), fun r hr' => ?_⟩
      have s3 := Same.new (o := .tup [.int (i : Int), .int ((d.toNat : Int) - 48)]) s2 hr'
      have ex : ([.int (i : Int), .int ((d.toNat : Int) - 48)] : List V) = spV (i, d.toNat - 48) := by
        show _ = [V.int (i : Int), V.int ((d.toNat - 48 : Nat) : Int)]
        rw [show ((d.toNat - 48 : Nat) : Int) = (d.toNat : Int) - 48 by omega]
      refine ⟨_, rfl, A.p, A.dx, _, rfl, s3 _ _ h.obj, rfl, _, rfl, A, p, (i, d.toNat - 48), r, rfl, h.same s3, (by rw [upd_same]; show some (HO.tup [V.int (i : Int), V.int ((d.toNat : Int) - 48)]) = _; rw [ex]), hk, _, rfl, ite2 (fun z => ?_) (fun z => ?_)⟩
      · refine ⟨_, rfl, k (.ref r) _ s3 (fun y => ?_) (fun x hx => ⟨r, rfl, ?_⟩)⟩
        · unfold Plan.spot at y
          rw [hf] at y
          simp only at y
          rw [if_pos z] at y
          cases y
        · unfold Plan.spot at hx
          rw [hf] at hx
          simp only at hx
          rw [if_pos z] at hx
          cases hx
          rw [upd_same]
          show some (HO.tup [V.int (i : Int), V.int ((d.toNat : Int) - 48)]) = _
          rw [ex]
      · refine k .non _ s3 (fun _ => rfl) (fun x hx => ?_)
        unfold Plan.spot at hx
        rw [hf] at hx
        simp only at hx
        rw [if_neg z] at hx
        cases hx
def spAtPlain (CP : Addr) : Sp := fun vs H Q _ => ∃ (A : PA) (p : Plan) (x : Spot) (a : Addr) (y : Sect), vs = [.ref A.p, .ref a] ∧ PlanAt CP H A p ∧ H a = some (.tup (spV x)) ∧ p.sects[x.1]? = some y ∧ Q (.bl (decide (y.kind = 0))) H
theorem fn_is_at_plain (T : Txt K mg CP CB) : Fn P w K mg base 2 "is_at_plain" ["plan", "end"] (spAtPlain CP) := by
  refine T.f_is_at_plain.ok sc_is_at_plain (fun vs H Q E h => ?_) (fun f cdv A' outer s H vs Q E hr h => ?_)
  · obtain ⟨A, p, x, a, y, rfl, _⟩ := h
    rfl
  · obtain ⟨A, p, x, a, y, rfl, h, ha, hy, k⟩ := h
    refine ⟨_, (pss_one (ps_ret (pe_cmpR op_eq (pe_mt (pv 0) (mt_Plan_section_kind T) (hr.mono (by decide)) (pa_cons (pe_ix ix_tup (pv 1) pe_int (fun _ _ => rfl)) pa_nil)) (pe_gint rfl T.c_PLAIN) (nomark _)))), ?_⟩
    refine ⟨_, rfl, A.p, A.dx, _, rfl, h.obj, rfl, _, rfl, a, _, _, _, rfl, rfl, SqT.of ha, atI_nat (j := 0) rfl, A, p, x.1, y, rfl, h, hy, rfl, ?_⟩
    have e : decide (V.int (y.kind : Int) = V.int 0) = decide (y.kind = 0) := by
      by_cases z : y.kind = 0
      · rw [z]; rfl
      · rw [decide_eq_false z]
        exact decide_eq_false fun q => z (by injection q with q; omega)
    rw [e]
    exact k
end
end YP
namespace YP
open PySem PySem.Spec PyProof.Rows L2
open Yh (Bytes Spot Sect Plan Step Route)
theorem nn {b : Bool} (h : ¬ (!b) = true) : b = true := by cases b <;> simp_all
def PA.muts (A : PA) : List Addr := [A.s, A.n, A.j, A.b, A.g]
structure Sz (p : Plan) : Prop where
  kinds : Kinds p
  s16 : p.sects.length ≤ 16
  j : p.joins.length ≤ 2000
  b : p.borders.length ≤ 2000
  g12 : p.signals.length ≤ 12
def rdSect (p : Plan) (k : Nat) (ws : List Bytes) : Nat × Plan := match ws with
  | [n] => if Yh.isName n = true then (if (p.find n).isSome = true then (2, p) else if p.sects.length = 16 then (7, p) else (0, { p with sects := p.sects ++ [⟨n, k⟩] })) else (1, p)
  | _ => (1, p)
def rdJoin (p : Plan) (ws : List Bytes) : Nat × Plan := match ws with
  | [a, b] => (match Yh.endIn a, Yh.endIn b with
    | some x, some y => (match p.spot x, p.spot y with
      | some s, some t => if p.taken s = true ∨ p.taken t = true ∨ s = t then (4, p) else (0, { p with joins := p.joins ++ [(s, t)] })
      | _, _ => (3, p))
    | _, _ => (1, p))
  | _ => (1, p)
def rdBord (p : Plan) (ws : List Bytes) : Nat × Plan := match ws with
  | [a] => (match Yh.endIn a with
    | some x => (match p.spot x with
      | some s => if p.taken s = true then (4, p) else if p.isPlain s.1 = false then (6, p) else (0, { p with borders := p.borders ++ [s] })
      | none => (3, p))
    | none => (1, p))
  | _ => (1, p)
def rdSig (p : Plan) (ws : List Bytes) : Nat × Plan := match ws with
  | [a] => (match Yh.endIn a with
    | some x => (match p.spot x with
      | some s => if (p.signalAt s).isSome = true then (4, p) else if (p.partner s).isNone = true then (5, p) else if p.isPlain s.1 = false then (6, p) else if p.signals.length = 12 then (7, p) else (0, { p with signals := p.signals ++ [s] })
      | none => (3, p))
    | none => (1, p))
  | _ => (1, p)
abbrev retRd (CP : Addr) (H : Hp) (A : PA) (Q : VK) (r : Nat × Plan) : Prop := ∀ H' : Hp, PlanAt CP H' A r.2 → Keep A.muts H H' → Q (.int (r.1 : Int)) H'
theorem spot_get {p : Plan} {a : Bytes × Nat} {x : Spot} (h : p.spot a = some x) : p.isEnd x = true ∧ ∃ y, p.sects[x.1]? = some y := by
  unfold Plan.spot at h
  cases hf : p.find a.1 with
  | none => rw [hf] at h; cases h
  | some i =>
    rw [hf] at h
    simp only at h
    split at h
    · rename_i hi
      cases h
      refine ⟨hi, ?_⟩
      unfold Plan.isEnd at hi
      simp only [Bool.and_eq_true, decide_eq_true_eq] at hi
      exact ⟨_, List.getElem?_eq_getElem hi.1⟩
    · cases h
theorem plain_eq {p : Plan} {i : Nat} {y : Sect} (h : p.sects[i]? = some y) : p.isPlain i = decide (y.kind = 0) := by
  unfold Plan.isPlain Plan.kindAt
  rw [h, decide_eq_true (List.getElem?_eq_some_iff.mp h).1, Bool.true_and]
  rw [Bool.eq_iff_iff]
  simp
theorem eqv_spot (x y : Spot) : PyData.eqv (.tuple [.int (x.1 : Int), .int (x.2 : Int)]) (.tuple [.int (y.1 : Int), .int (y.2 : Int)]) = decide (x = y) := by
  show (((x.1 : Int) == (y.1 : Int)) && (((x.2 : Int) == (y.2 : Int)) && true)) = decide (x = y)
  obtain ⟨a, b⟩ := x
  obtain ⟨c, d⟩ := y
  by_cases h1 : a = c
  · by_cases h2 : b = d
    · subst h1 h2; simp
    · have : ¬ ((b : Int) = (d : Int)) := by omega
      simp [h1, h2, this]
  · have : ¬ ((a : Int) = (c : Int)) := by omega
    simp [h1, this]
theorem dp_spot {K : PySem.W.Frag} {H : Hp} {a : Addr} {x : Spot} (h : H a = some (.tup (spV x))) : Dp K H (.ref a) (.tuple [.int (x.1 : Int), .int (x.2 : Int)]) := .tup (SqT.of h) (.cons (.int _) (.cons (.int _) .nil))
theorem decI (a b : Nat) : decide (V.int (a : Int) = V.int (b : Int)) = decide (a = b) := by
  by_cases z : a = b
  · rw [z]; simp
  · rw [decide_eq_false z]
    exact decide_eq_false fun q => z (by injection q with q; omega)
section
variable {P : Program} {w : World} {K : PySem.W.Frag} {mg : Str → Option Value} {base : Heap} {CP CB : Addr}
def spRdSect (CP : Addr) : Sp := fun vs H Q _ => ∃ (A : PA) (p : Plan) (k : Nat) (a : Addr) (ps : List Addr) (ws : List Bytes), vs = [.ref A.p, .int (k : Int), .ref a] ∧ PlanAt CP H A p ∧ Sz p ∧ H a = some (.lst (ps.map V.ref)) ∧ WordsAt H ps ws ∧ Short ws ∧ retRd CP H A Q (rdSect p k ws)
theorem fn_read_section (T : Txt K mg CP CB) : Fn P w K mg base 3 "read_section" ["plan", "kind", "words"] (spRdSect CP) := by
  refine T.f_read_section.ok sc_read_section (fun vs H Q E h => ?_) (fun f cdv A' outer s H vs Q E hr h => ?_)
  · obtain ⟨A, p, k, a, ps, ws, rfl, _⟩ := h
    rfl
  · obtain ⟨A, p, kd, a, ps, ws, rfl, h, hz, ha, hw, hsh, k⟩ := h
    have hsl := sizeLine_eq
    have hpl : ps.length = ws.length := Paired.length hw
    refine ⟨_, (pss_cons (ps_if (PW.pt (pw_or (pt_cmpR op_ne (pe_callB call_len_seq rfl T.b_len PySem.boot_len (pa_cons (pv 2) pa_nil)) pe_int (nomark _)) (pw_or1 (pt_not (pt_val (pe_fn (fn_is_name T) (hr.mono (by decide)) rfl (pa_cons (pe_ix ix_list (pv 2) pe_int (fun _ _ => rfl)) pa_nil))))))) (pss_one (ps_ret (pe_gint rfl T.c_NO_SUCH_LINE))) pss_nil)
      (pss_cons (ps_set (i := 3) sc_read_section.nd rfl (by first | exact Or.inl rfl | exact Or.inr rfl) (pe_callTy call_tuple_of rfl T.b_tuple PyProof.Rows.boot_tuple (pa_cons (pe_ix ix_list (pv 2) pe_int (fun _ _ => rfl)) pa_nil)))
      (pss_cons (ps_if (pt_cmp (pc_din (hu_of hr) (pv 3) (pe_fld (pv 0) rfl))) (pss_one (ps_ret (pe_gint rfl T.c_NAME_IS_THERE))) pss_nil)
      (pss_cons (ps_if (pt_cmpR op_eq (pe_callB call_len_seq rfl T.b_len PySem.boot_len (pa_cons (pe_fld (pv 0) rfl) pa_nil)) (pe_gint rfl T.c_MOST_SECTIONS) (nomark _)) (pss_one (ps_ret (pe_gint rfl T.c_TOO_MANY))) pss_nil)
      (pss_cons (ps_expr (pe_mt (pv 0) (mt_Plan_add_section T) (hr.mono (by decide)) (pa_cons (pv 1) (pa_cons (pv 3) pa_nil))))
      (pss_one (ps_ret (pe_gint rfl T.c_NO_FAULT)))))))), ?_⟩
    refine ⟨_, rfl, a, _, rfl, .inl (SqL.of ha), rfl, _, rfl, ite2 (fun z => ?_) (fun z => ?_)⟩
    · have hl : ws.length ≠ 1 := fun y => by
        have z' : (!decide (V.int (((ps.map V.ref).length : Nat) : Int) = V.int ((1 : Nat) : Int))) = true := z
        rw [List.length_map, hpl, y] at z'
        simp at z'
      have e : rdSect p kd ws = (1, p) := by
        match ws, hl with
        | [], _ => rfl
        | [n], hl => exact absurd rfl hl
        | _ :: _ :: _, _ => rfl
      rw [e] at k
      exact iteT (k H h (Keep.same (Same.refl H)))
    · have hl : ws.length = 1 := by
        have z' : ¬ (!decide (V.int (((ps.map V.ref).length : Nat) : Int) = V.int ((1 : Nat) : Int))) = true := z
        rw [List.length_map, hpl, decI] at z'
        by_cases y : ws.length = 1
        · exact y
        · rw [decide_eq_false y] at z'; exact absurd rfl z'
      match ws, hl, hw with
      | [n], _, .cons (a := q) (l₁ := ps') hq hw' =>
        cases hw'
        have hsn := hsh.2 n (List.mem_cons_self ..)
        refine ⟨_, rfl, a, _, _, _, rfl, rfl, SqL.of ha, atI_nat (j := 0) rfl, q, n, rfl, hq, hsn, fun H1 s1 => ⟨_, rfl, ite2 (fun z => ?_) (fun z => ?_)⟩⟩
        · have e : rdSect p kd [n] = (1, p) := by
            have z' : Yh.isName n = false := by simpa using z
            show (if Yh.isName n = true then _ else _) = _
            rw [z', if_neg Bool.false_ne_true]
          rw [e] at k
          exact k H1 (h.same s1) (Keep.same s1)
        · have hn : Yh.isName n = true := by simpa using z
          have e : rdSect p kd [n] = (if (p.find n).isSome = true then (2, p) else if p.sects.length = 16 then (7, p) else (0, { p with sects := p.sects ++ [⟨n, kd⟩] })) := by
            show (if Yh.isName n = true then _ else _) = _
            rw [if_pos hn]
          rw [e] at k
          have h1 := h.same s1
          refine ⟨_, rfl, a, _, _, _, rfl, rfl, SqL.of (s1 _ _ ha), atI_nat (j := 0) rfl, q, _, rfl, .inl ⟨SqL.of (s1 _ _ hq), fun t ht => ?_⟩⟩
          have s2 : Same H1 (upd H1 t (.tup (bV n))) := Same.new1 ht
          have h2 := h1.same s2
          obtain ⟨vs, hs2, hp2⟩ := h2.sects
          have hvl : vs.length = p.sects.length := Paired.length hp2
          have hkey : upd H1 t (.tup (bV n)) t = some (.tup ((nmK n).map kV)) := by rw [upd_same, nmK_kV]
          refine ⟨_, rfl, _, rfl, A.p, CP, A.dx, _, _, rfl, h2.obj, T.cP, T.nP_numbers, pf_numbers A, A.n, _, rfl, DGet.t (k := nmK n) h2.nums hkey, _, rfl, ite2 (fun z => ?_) (fun z => ?_)⟩
          · rw [num_val, Option.isSome_map] at z
            rw [if_pos z] at k
            exact k _ h2 (Keep.same (s1.trans s2))
          · rw [num_val, Option.isSome_map] at z
            rw [if_neg z] at k
            refine ⟨_, rfl, A.p, CP, A.dx, _, _, rfl, h2.obj, T.cP, T.nP_sections, pf_sections A, A.s, _, rfl, .inl (SqL.of hs2), rfl, _, rfl, ite2 (fun y => ?_) (fun y => ?_)⟩
            · have y' : decide (V.int ((vs.length : Nat) : Int) = V.int ((16 : Nat) : Int)) = true := y
              rw [decI, hvl] at y'
              rw [if_pos (of_decide_eq_true y')] at k
              exact k _ h2 (Keep.same (s1.trans s2))
            · have y' : ¬ decide (V.int ((vs.length : Nat) : Int) = V.int ((16 : Nat) : Int)) = true := y
              rw [decI, hvl] at y'
              rw [if_neg (fun q => y' (decide_eq_true q))] at k
              refine ⟨_, rfl, A.p, A.dx, _, rfl, h2.obj, rfl, _, rfl, _, rfl, A, p, kd, n, t, rfl, h2, upd_same, ?_, ?_, fun H3 h3 k3 => ?_⟩
              · cases hf : p.find n with
                | none => rfl
                | some i => rw [hf] at z; exact absurd rfl z
              · have := hz.s16; omega
              · exact k H3 h3 ((Keep.same (s1.trans s2)).trans (k3.mono (by simp [PA.muts])))
def spRd (CP : Addr) (rd : Plan → List Bytes → Nat × Plan) : Sp := fun vs H Q _ => ∃ (A : PA) (p : Plan) (a : Addr) (ps : List Addr) (ws : List Bytes), vs = [.ref A.p, .ref a] ∧ PlanAt CP H A p ∧ Sz p ∧ H a = some (.lst (ps.map V.ref)) ∧ WordsAt H ps ws ∧ Short ws ∧ retRd CP H A Q (rd p ws)
theorem fn_read_join (T : Txt K mg CP CB) : Fn P w K mg base 5 "read_join" ["plan", "words"] (spRd CP rdJoin) := by
  refine T.f_read_join.ok sc_read_join (fun vs H Q E h => ?_) (fun f cdv A' outer s H vs Q E hr h => ?_)
  · obtain ⟨A, p, a, ps, ws, rfl, _⟩ := h
    rfl
  · obtain ⟨A, p, a, ps, ws, rfl, h, hz, ha, hw, hsh, k⟩ := h
    have hsl := sizeLine_eq
    refine ⟨_, (pss_cons (ps_if (pt_not (pt_val (pe_fn (fn_are_ends T) (hr.mono (by decide)) rfl (pa_cons (pv 1) (pa_cons pe_int pa_nil))))) (pss_one (ps_ret (pe_gint rfl T.c_NO_SUCH_LINE))) pss_nil)
      (pss_cons (ps_set (i := 2) sc_read_join.nd rfl (by first | exact Or.inl rfl | exact Or.inr rfl) (pe_fn (fn_find_end T) (hr.mono (by decide)) rfl (pa_cons (pv 0) (pa_cons (pe_ix ix_list (pv 1) pe_int (fun _ _ => rfl)) pa_nil))))
      (pss_cons (ps_set (i := 3) sc_read_join.nd rfl (by first | exact Or.inl rfl | exact Or.inr rfl) (pe_fn (fn_find_end T) (hr.mono (by decide)) rfl (pa_cons (pv 0) (pa_cons (pe_ix ix_list (pv 1) pe_int (fun _ _ => rfl)) pa_nil))))
      (pss_cons (ps_if (PW.pt (pw_or (pt_cmp (pc_isN (pv 2))) (pw_or1 (pt_cmp (pc_isN (pv 3)))))) (pss_one (ps_ret (pe_gint rfl T.c_NO_SUCH_END))) pss_nil)
      (pss_cons (ps_if (PW.pt (pw_or (pt_val (pe_mt (pv 0) (mt_Plan_is_taken T) (hr.mono (by decide)) (pa_cons (pv 2) pa_nil))) (pw_or (pt_val (pe_mt (pv 0) (mt_Plan_is_taken T) (hr.mono (by decide)) (pa_cons (pv 3) pa_nil))) (pw_or1 (pt_cmpR (op_eqD hr.units) (pv 2) (pv 3) (nomark _)))))) (pss_one (ps_ret (pe_gint rfl T.c_END_IS_TAKEN))) pss_nil)
      (pss_cons (ps_expr (pe_mt (pv 0) (mt_Plan_add_join T) (hr.mono (by decide)) (pa_cons (pv 2) (pa_cons (pv 3) pa_nil))))
      (pss_one (ps_ret (pe_gint rfl T.c_NO_FAULT))))))))), ?_⟩
    refine ⟨_, rfl, a, ps, ws, 2, rfl, ha, hw, hsh, fun H1 s1 => ⟨_, rfl, ite2 (fun z => ?_) (fun z => ?_)⟩⟩
    · have e : rdJoin p ws = (1, p) := by
        match ws, z with
        | [], _ => rfl
        | [_], _ => rfl
        | _ :: _ :: _ :: _, _ => rfl
        | [x, y], z =>
          show (match Yh.endIn x, Yh.endIn y with
            | some x, some y => (match p.spot x, p.spot y with
              | some s, some t => if p.taken s = true ∨ p.taken t = true ∨ s = t then (4, p) else (0, { p with joins := p.joins ++ [(s, t)] })
              | _, _ => (3, p))
            | _, _ => (1, p)) = (1, p)
          cases hx : Yh.endIn x with
          | none => rfl
          | some x' => cases hy : Yh.endIn y with
            | none => rfl
            | some y' => simp [hx, hy] at z
      rw [e] at k
      exact k H1 (h.same s1) (Keep.same s1)
    · have z' : (decide (ws.length = 2) && ws.all fun w => (Yh.endIn w).isSome) = true := nn z
      rw [Bool.and_eq_true] at z'
      match ws, z', hw, hsh with
      | [x, y], z', .cons (a := qx) hqx (.cons (a := qy) hqy .nil), hsh =>
        have za := z'.2
        simp only [List.all_cons, List.all_nil, Bool.and_true, Bool.and_eq_true] at za
        obtain ⟨⟨nx, ex⟩, hx⟩ := Option.isSome_iff_exists.mp za.1
        obtain ⟨⟨ny, ey⟩, hy⟩ := Option.isSome_iff_exists.mp za.2
        have h1 := h.same s1
        have e : rdJoin p [x, y] = (match p.spot (nx, ex), p.spot (ny, ey) with
              | some s, some t => if p.taken s = true ∨ p.taken t = true ∨ s = t then (4, p) else (0, { p with joins := p.joins ++ [(s, t)] })
              | _, _ => (3, p)) := by
          show (match Yh.endIn x, Yh.endIn y with
            | some x, some y => (match p.spot x, p.spot y with
              | some s, some t => if p.taken s = true ∨ p.taken t = true ∨ s = t then (4, p) else (0, { p with joins := p.joins ++ [(s, t)] })
              | _, _ => (3, p))
            | _, _ => (1, p)) = _
          rw [hx, hy]
        rw [e] at k
        refine ⟨_, rfl, _, rfl, a, _, _, _, rfl, rfl, SqL.of (s1 _ _ ha), atI_nat (j := 0) rfl, A, p, qx, x, nx, ex, rfl, h1, hz.kinds, s1 _ _ hqx, hx, fun v1 H2 s2 n1 f1 => ?_⟩
        have s12 := s1.trans s2
        refine ⟨_, rfl, _, rfl, a, _, _, _, rfl, rfl, SqL.of (s12 _ _ ha), atI_nat (j := 1) rfl, A, p, qy, y, ny, ey, rfl, h.same s12, hz.kinds, s12 _ _ hqy, hy, fun v2 H3 s3 n2 f2 => ?_⟩
        have s13 := s12.trans s3
        have h3 := h.same s13
        cases hs1 : p.spot (nx, ex) with
        | none =>
          rw [hs1] at k
          rw [n1 hs1]
          exact ⟨_, rfl, _, rfl, iteT (iteT (k H3 h3 (Keep.same s13)))⟩
        | some xs =>
          obtain ⟨q1, rfl, hq1⟩ := f1 xs hs1
          refine ⟨_, rfl, _, rfl, iteF ?_⟩
          cases hs2 : p.spot (ny, ey) with
          | none =>
            rw [hs1, hs2] at k
            rw [n2 hs2]
            exact ⟨_, rfl, _, rfl, iteT (k H3 h3 (Keep.same s13))⟩
          | some ys =>
            obtain ⟨q2, rfl, hq2⟩ := f2 ys hs2
            rw [hs1, hs2] at k
            simp only at k
            have hq1' := s3 _ _ hq1
            refine ⟨_, rfl, _, rfl, iteF ?_⟩
            refine ⟨_, rfl, A.p, A.dx, _, rfl, h3.obj, rfl, _, rfl, A, p, xs, q1, rfl, h3, hq1', _, rfl, ite2 (fun t1 => ?_) (fun t1 => ?_)⟩
            · rw [if_pos (.inl t1)] at k
              exact iteT (k H3 h3 (Keep.same s13))
            · refine ⟨_, rfl, A.p, A.dx, _, rfl, h3.obj, rfl, _, rfl, A, p, ys, q2, rfl, h3, hq2, _, rfl, ite2 (fun t2 => ?_) (fun t2 => ?_)⟩
              · rw [if_pos (.inr (.inl t2))] at k
                exact iteT (k H3 h3 (Keep.same s13))
              · refine ⟨_, rfl, _, rfl, _, _, dp_spot hq1', dp_spot hq2, rfl, rfl, _, rfl, ?_⟩
                rw [eqv_spot]
                refine ite2 (fun t3 => ?_) (fun t3 => ?_)
                · rw [if_pos (.inr (.inr (of_decide_eq_true t3)))] at k
                  exact k H3 h3 (Keep.same s13)
                · have ne : xs ≠ ys := fun q => t3 (decide_eq_true q)
                  have tk : ∀ {x : Spot}, ¬ p.taken x = true → p.partner x = none := fun {x} t => by
                    unfold Plan.taken at t
                    cases hp : p.partner x with
                    | none => rfl
                    | some z => rw [hp] at t; simp at t
                  rw [if_neg (by simp [t1, t2, ne])] at k
                  refine ⟨_, rfl, A.p, A.dx, _, rfl, h3.obj, rfl, _, rfl, _, rfl, A, p, xs, ys, q1, q2, rfl, h3, hq1', hq2, tk t1, tk t2, ne, hz.j, fun H4 h4 k4 => ?_⟩
                  exact k H4 h4 ((Keep.same s13).trans (k4.mono (by simp [PA.muts])))
theorem fn_read_border (T : Txt K mg CP CB) : Fn P w K mg base 5 "read_border" ["plan", "words"] (spRd CP rdBord) := by
  refine T.f_read_border.ok sc_read_border (fun vs H Q E h => ?_) (fun f cdv A' outer s H vs Q E hr h => ?_)
  · obtain ⟨A, p, a, ps, ws, rfl, _⟩ := h
    rfl
  · obtain ⟨A, p, a, ps, ws, rfl, h, hz, ha, hw, hsh, k⟩ := h
    have hsl := sizeLine_eq
    refine ⟨_, (pss_cons (ps_if (pt_not (pt_val (pe_fn (fn_are_ends T) (hr.mono (by decide)) rfl (pa_cons (pv 1) (pa_cons pe_int pa_nil))))) (pss_one (ps_ret (pe_gint rfl T.c_NO_SUCH_LINE))) pss_nil)
      (pss_cons (ps_set (i := 2) sc_read_border.nd rfl (by first | exact Or.inl rfl | exact Or.inr rfl) (pe_fn (fn_find_end T) (hr.mono (by decide)) rfl (pa_cons (pv 0) (pa_cons (pe_ix ix_list (pv 1) pe_int (fun _ _ => rfl)) pa_nil))))
      (pss_cons (ps_if (pt_cmp (pc_isN (pv 2))) (pss_one (ps_ret (pe_gint rfl T.c_NO_SUCH_END))) pss_nil)
      (pss_cons (ps_if (pt_val (pe_mt (pv 0) (mt_Plan_is_taken T) (hr.mono (by decide)) (pa_cons (pv 2) pa_nil))) (pss_one (ps_ret (pe_gint rfl T.c_END_IS_TAKEN))) pss_nil)
      (pss_cons (ps_if (pt_not (pt_val (pe_fn (fn_is_at_plain T) (hr.mono (by decide)) rfl (pa_cons (pv 0) (pa_cons (pv 2) pa_nil))))) (pss_one (ps_ret (pe_gint rfl T.c_NOT_PLAIN))) pss_nil)
      (pss_cons (ps_expr (pe_mt (pv 0) (mt_Plan_add_border T) (hr.mono (by decide)) (pa_cons (pv 2) pa_nil)))
      (pss_one (ps_ret (pe_gint rfl T.c_NO_FAULT))))))))), ?_⟩
    refine ⟨_, rfl, a, ps, ws, 1, rfl, ha, hw, hsh, fun H1 s1 => ⟨_, rfl, ite2 (fun z => ?_) (fun z => ?_)⟩⟩
    · have e : rdBord p ws = (1, p) := by
        match ws, z with
        | [], _ => rfl
        | _ :: _ :: _, _ => rfl
        | [x], z =>
          show (match Yh.endIn x with
            | some x => (match p.spot x with
              | some s => if p.taken s = true then (4, p) else if p.isPlain s.1 = false then (6, p) else (0, { p with borders := p.borders ++ [s] })
              | none => (3, p))
            | none => (1, p)) = (1, p)
          cases hx : Yh.endIn x with
          | none => rfl
          | some x' => simp [hx] at z
      rw [e] at k
      exact k H1 (h.same s1) (Keep.same s1)
    · have z' : (decide (ws.length = 1) && ws.all fun w => (Yh.endIn w).isSome) = true := nn z
      rw [Bool.and_eq_true] at z'
      match ws, z', hw, hsh with
      | [x], z', .cons (a := qx) hqx .nil, hsh =>
        have za := z'.2
        simp only [List.all_cons, List.all_nil, Bool.and_true] at za
        obtain ⟨⟨nx, ex⟩, hx⟩ := Option.isSome_iff_exists.mp za
        have h1 := h.same s1
        have e : rdBord p [x] = (match p.spot (nx, ex) with
              | some s => if p.taken s = true then (4, p) else if p.isPlain s.1 = false then (6, p) else (0, { p with borders := p.borders ++ [s] })
              | none => (3, p)) := by
          show (match Yh.endIn x with
            | some x => (match p.spot x with
              | some s => if p.taken s = true then (4, p) else if p.isPlain s.1 = false then (6, p) else (0, { p with borders := p.borders ++ [s] })
              | none => (3, p))
            | none => (1, p)) = _
          rw [hx]
        rw [e] at k
        refine ⟨_, rfl, _, rfl, a, _, _, _, rfl, rfl, SqL.of (s1 _ _ ha), atI_nat (j := 0) rfl, A, p, qx, x, nx, ex, rfl, h1, hz.kinds, s1 _ _ hqx, hx, fun v1 H3 s2 n1 f1 => ?_⟩
        have s13 := s1.trans s2
        have h3 := h.same s13
        cases hs1 : p.spot (nx, ex) with
        | none =>
          rw [hs1] at k
          rw [n1 hs1]
          exact ⟨_, rfl, _, rfl, iteT (k H3 h3 (Keep.same s13))⟩
        | some xs =>
          obtain ⟨q1, rfl, hq1⟩ := f1 xs hs1
          obtain ⟨_, y, hy⟩ := spot_get hs1
          rw [hs1] at k
          simp only at k
          refine ⟨_, rfl, _, rfl, iteF ?_⟩
          refine ⟨_, rfl, A.p, A.dx, _, rfl, h3.obj, rfl, _, rfl, A, p, xs, q1, rfl, h3, hq1, _, rfl, ite2 (fun t1 => ?_) (fun t1 => ?_)⟩
          · rw [if_pos t1] at k
            exact k H3 h3 (Keep.same s13)
          · rw [if_neg t1, plain_eq hy] at k
            refine ⟨_, rfl, _, rfl, A, p, xs, q1, y, rfl, h3, hq1, hy, _, rfl, ite2 (fun t2 => ?_) (fun t2 => ?_)⟩
            · rw [if_pos (by simpa using t2)] at k
              exact k H3 h3 (Keep.same s13)
            · rw [if_neg (by simpa using t2)] at k
              have nb : xs ∉ p.borders := fun q => t1 (by unfold Plan.taken Plan.isBorder; simp [q])
              refine ⟨_, rfl, A.p, A.dx, _, rfl, h3.obj, rfl, _, rfl, A, p, xs, q1, rfl, h3, hq1, nb, hz.b, fun H4 h4 k4 => ?_⟩
              exact k H4 h4 ((Keep.same s13).trans (k4.mono (by simp [PA.muts])))
theorem fn_read_signal (T : Txt K mg CP CB) : Fn P w K mg base 5 "read_signal" ["plan", "words"] (spRd CP rdSig) := by
  refine T.f_read_signal.ok sc_read_signal (fun vs H Q E h => ?_) (fun f cdv A' outer s H vs Q E hr h => ?_)
  · obtain ⟨A, p, a, ps, ws, rfl, _⟩ := h
    rfl
  · obtain ⟨A, p, a, ps, ws, rfl, h, hz, ha, hw, hsh, k⟩ := h
    have hsl := sizeLine_eq
    refine ⟨_, (pss_cons (ps_if (pt_not (pt_val (pe_fn (fn_are_ends T) (hr.mono (by decide)) rfl (pa_cons (pv 1) (pa_cons pe_int pa_nil))))) (pss_one (ps_ret (pe_gint rfl T.c_NO_SUCH_LINE))) pss_nil)
      (pss_cons (ps_set (i := 2) sc_read_signal.nd rfl (by first | exact Or.inl rfl | exact Or.inr rfl) (pe_fn (fn_find_end T) (hr.mono (by decide)) rfl (pa_cons (pv 0) (pa_cons (pe_ix ix_list (pv 1) pe_int (fun _ _ => rfl)) pa_nil))))
      (pss_cons (ps_if (pt_cmp (pc_isN (pv 2))) (pss_one (ps_ret (pe_gint rfl T.c_NO_SUCH_END))) pss_nil)
      (pss_cons (ps_if (pt_cmp (pc_din (hu_of hr) (pv 2) (pe_fld (pv 0) rfl))) (pss_one (ps_ret (pe_gint rfl T.c_END_IS_TAKEN))) pss_nil)
      (pss_cons (ps_if (pt_cmp (pc_dnotin (hu_of hr) (pv 2) (pe_fld (pv 0) rfl))) (pss_one (ps_ret (pe_gint rfl T.c_NOT_JOINED))) pss_nil)
      (pss_cons (ps_if (pt_not (pt_val (pe_fn (fn_is_at_plain T) (hr.mono (by decide)) rfl (pa_cons (pv 0) (pa_cons (pv 2) pa_nil))))) (pss_one (ps_ret (pe_gint rfl T.c_NOT_PLAIN))) pss_nil)
      (pss_cons (ps_if (pt_cmpR op_eq (pe_callB call_lenT rfl T.b_len PySem.boot_len (pa_cons (pe_fld (pv 0) rfl) pa_nil)) (pe_gint rfl T.c_MOST_SIGNALS) (nomark _)) (pss_one (ps_ret (pe_gint rfl T.c_TOO_MANY))) pss_nil)
      (pss_cons (ps_expr (pe_mt (pv 0) (mt_Plan_add_signal T) (hr.mono (by decide)) (pa_cons (pv 2) pa_nil)))
      (pss_one (ps_ret (pe_gint rfl T.c_NO_FAULT))))))))))), ?_⟩
    refine ⟨_, rfl, a, ps, ws, 1, rfl, ha, hw, hsh, fun H1 s1 => ⟨_, rfl, ite2 (fun z => ?_) (fun z => ?_)⟩⟩
    · have e : rdSig p ws = (1, p) := by
        match ws, z with
        | [], _ => rfl
        | _ :: _ :: _, _ => rfl
        | [x], z =>
          unfold rdSig
          cases hx : Yh.endIn x with
          | none => simp only [hx]
          | some x' => simp [hx] at z
      rw [e] at k
      exact k H1 (h.same s1) (Keep.same s1)
    · have z' : (decide (ws.length = 1) && ws.all fun w => (Yh.endIn w).isSome) = true := nn z
      rw [Bool.and_eq_true] at z'
      match ws, z', hw, hsh with
      | [x], z', .cons (a := qx) hqx .nil, hsh =>
        have za := z'.2
        simp only [List.all_cons, List.all_nil, Bool.and_true] at za
        obtain ⟨⟨nx, ex⟩, hx⟩ := Option.isSome_iff_exists.mp za
        have h1 := h.same s1
        have e : rdSig p [x] = (match p.spot (nx, ex) with
              | some s => if (p.signalAt s).isSome = true then (4, p) else if (p.partner s).isNone = true then (5, p) else if p.isPlain s.1 = false then (6, p) else if p.signals.length = 12 then (7, p) else (0, { p with signals := p.signals ++ [s] })
              | none => (3, p)) := by
          unfold rdSig
          simp only [hx]
        rw [e] at k
        refine ⟨_, rfl, _, rfl, a, _, _, _, rfl, rfl, SqL.of (s1 _ _ ha), atI_nat (j := 0) rfl, A, p, qx, x, nx, ex, rfl, h1, hz.kinds, s1 _ _ hqx, hx, fun v1 H3 s2 n1 f1 => ?_⟩
        have s13 := s1.trans s2
        have h3 := h.same s13
        cases hs1 : p.spot (nx, ex) with
        | none =>
          rw [hs1] at k
          rw [n1 hs1]
          exact ⟨_, rfl, _, rfl, iteT (k H3 h3 (Keep.same s13))⟩
        | some xs =>
          obtain ⟨q1, rfl, hq1⟩ := f1 xs hs1
          obtain ⟨_, y, hy⟩ := spot_get hs1
          rw [hs1] at k
          simp only at k
          rw [signalAt_some] at k
          obtain ⟨kvs, hj1, hj2, _⟩ := h3.joined xs
          refine ⟨_, rfl, _, rfl, iteF ?_⟩
          refine ⟨_, rfl, _, rfl, A.p, CP, A.dx, _, _, rfl, h3.obj, T.cP, T.nP_signals, pf_signals A, A.g, _, rfl, DGet.t (k := spK xs) h3.sigs hq1, _, rfl, ?_⟩
          rw [ones_some]
          refine ite2 (fun t1 => ?_) (fun t1 => ?_)
          · rw [if_pos t1] at k
            exact k H3 h3 (Keep.same s13)
          · rw [if_neg t1, plain_eq hy] at k
            refine ⟨_, rfl, _, rfl, A.p, CP, A.dx, _, _, rfl, h3.obj, T.cP, T.nP_joined, pf_joined A, A.j, _, rfl, DGet.t (k := spK xs) hj1 hq1, _, rfl, ?_⟩
            rw [hj2]
            refine ite2 (fun t2 => ?_) (fun t2 => ?_)
            · rw [if_pos (by simpa using t2)] at k
              exact k H3 h3 (Keep.same s13)
            · rw [if_neg (by simpa using t2)] at k
              refine ⟨_, rfl, _, rfl, A, p, xs, q1, y, rfl, h3, hq1, hy, _, rfl, ite2 (fun t3 => ?_) (fun t3 => ?_)⟩
              · rw [if_pos (by simpa using t3)] at k
                exact k H3 h3 (Keep.same s13)
              · rw [if_neg (by simpa using t3)] at k
                have hol : (ones p.signals).length = p.signals.length := by unfold ones; simp
                refine ⟨_, rfl, A.p, CP, A.dx, _, _, rfl, h3.obj, T.cP, T.nP_signals, pf_signals A, A.g, _, rfl, h3.sigs, rfl, _, rfl, ite2 (fun y => ?_) (fun y => ?_)⟩
                · have y' : decide (V.int (((ones p.signals).length : Nat) : Int) = V.int ((12 : Nat) : Int)) = true := y
                  rw [decI, hol] at y'
                  rw [if_pos (of_decide_eq_true y')] at k
                  exact k H3 h3 (Keep.same s13)
                · have y' : ¬ decide (V.int (((ones p.signals).length : Nat) : Int) = V.int ((12 : Nat) : Int)) = true := y
                  rw [decI, hol] at y'
                  rw [if_neg (fun q => y' (decide_eq_true q))] at k
                  have nb : xs ∉ p.signals := fun q => t1 (by simp [q])
                  refine ⟨_, rfl, A.p, A.dx, _, rfl, h3.obj, rfl, _, rfl, A, p, xs, q1, rfl, h3, hq1, nb, (by have := hz.g12; omega), fun H4 h4 k4 => ?_⟩
                  exact k H4 h4 ((Keep.same s13).trans (k4.mono (by simp [PA.muts])))
end
end YP
namespace YP
open PySem PySem.Spec PyProof.Rows L2
open Yh (Bytes Spot Sect Plan Step Route)
theorem for_enumT {K : PySem.W.Frag} {a : Addr} {xs : List V} {g : TG} {tb : TS} {D : Ends} {σ : L2.St} {H : Hp} (Pv : Nat → L2.St → Hp → Prop) (h0 : Pv 0 σ H) (hl : ∀ i σ H, i ≤ xs.length → Pv i σ H → SqT K H a xs)
    (hs : ∀ i x σ H t, xs[i]? = some x → Pv i σ H → H t = none → g (.ref t) σ (upd H t (.tup [.int (i : Nat), x])) fun σ2 H2 => tb { D with nx := Pv (i + 1), ct := Pv (i + 1), bk := D.nx } σ2 H2) (hd : ∀ σ H, Pv xs.length σ H → D.nx σ H) :
    ∃ W : Nat → Nat → L2.St → Hp → Prop, (∃ m, W 0 m σ H) ∧ ∀ i m σ H, W i m σ H →
      ((IteT K a).stop i H ∧ D.nx σ H) ∨ ((IteT K a).go i H ∧ ∃ N : L2.St → Hp → Prop, (∀ σ' H', N σ' H' → ∃ m', m' < m ∧ W (i + 1) m' σ' H') ∧ ∀ x H', (IteT K a).yld i H x H' → g x σ H' fun σ2 H2 => tb { D with nx := N, ct := N, bk := D.nx } σ2 H2) := by
  refine ⟨fun i m σ H => m = xs.length - i ∧ i ≤ xs.length ∧ Pv i σ H, ⟨xs.length, by simp, Nat.zero_le _, h0⟩, ?_⟩
  rintro i m σ H ⟨rfl, hi, p⟩
  have q := hl i σ H hi p
  by_cases hlt : i < xs.length
  · refine .inr ⟨⟨xs, xs[i], q, by simp [hlt]⟩, Pv (i + 1), fun σ' H' p' => ⟨xs.length - (i + 1), by omega, rfl, hlt, p'⟩, fun v H' y => ?_⟩
    obtain ⟨t, x, rfl, ht, rfl, hx⟩ := y
    exact hs i x σ _ t (hx xs q) p ht
  · have e : i = xs.length := by omega
    subst e
    exact .inl ⟨⟨xs, q, rfl⟩, hd σ H p⟩
theorem for_enum {K : PySem.W.Frag} {a : Addr} {xs : List V} {g : TG} {tb : TS} {D : Ends} {σ : L2.St} {H : Hp} (Pv : Nat → L2.St → Hp → Prop) (h0 : Pv 0 σ H) (hl : ∀ i σ H, i ≤ xs.length → Pv i σ H → SqL K H a xs)
    (hs : ∀ i x σ H t, xs[i]? = some x → Pv i σ H → H t = none → g (.ref t) σ (upd H t (.tup [.int (i : Nat), x])) fun σ2 H2 => tb { D with nx := Pv (i + 1), ct := Pv (i + 1), bk := D.nx } σ2 H2) (hd : ∀ σ H, Pv xs.length σ H → D.nx σ H) :
    ∃ W : Nat → Nat → L2.St → Hp → Prop, (∃ m, W 0 m σ H) ∧ ∀ i m σ H, W i m σ H →
      ((Ite K a).stop i H ∧ D.nx σ H) ∨ ((Ite K a).go i H ∧ ∃ N : L2.St → Hp → Prop, (∀ σ' H', N σ' H' → ∃ m', m' < m ∧ W (i + 1) m' σ' H') ∧ ∀ x H', (Ite K a).yld i H x H' → g x σ H' fun σ2 H2 => tb { D with nx := N, ct := N, bk := D.nx } σ2 H2) := by
  refine ⟨fun i m σ H => m = xs.length - i ∧ i ≤ xs.length ∧ Pv i σ H, ⟨xs.length, by simp, Nat.zero_le _, h0⟩, ?_⟩
  rintro i m σ H ⟨rfl, hi, p⟩
  have q := hl i σ H hi p
  by_cases hlt : i < xs.length
  · refine .inr ⟨⟨xs, xs[i], q, by simp [hlt]⟩, Pv (i + 1), fun σ' H' p' => ⟨xs.length - (i + 1), by omega, rfl, hlt, p'⟩, fun v H' y => ?_⟩
    obtain ⟨t, x, rfl, ht, rfl, hx⟩ := y
    exact hs i x σ _ t (hx xs q) p ht
  · have e : i = xs.length := by omega
    subst e
    exact .inl ⟨⟨xs, q, Nat.le_refl _⟩, hd σ H p⟩
theorem eqvAll_ints : ∀ a b : List Int, PyData.eqvAll (a.map PyData.int) (b.map PyData.int) = decide (a = b)
  | [], [] => rfl
  | [], _ :: _ => rfl
  | _ :: _, [] => rfl
  | x :: a, y :: b => by
    show ((x == y) && PyData.eqvAll (a.map PyData.int) (b.map PyData.int)) = _
    rw [eqvAll_ints a b]
    by_cases h1 : x = y
    · by_cases h2 : a = b
      · simp [h1, h2]
      · simp [h1, h2]
    · simp [h1]
theorem eqv_bytes (a b : Bytes) : PyData.eqv (.list ((bi a).map PyData.int)) (.list ((bi b).map PyData.int)) = decide (a = b) := by
  show PyData.eqvAll _ _ = _
  rw [eqvAll_ints]
  by_cases h : a = b
  · simp [h]
  · rw [decide_eq_false h]
    exact decide_eq_false fun z => h (bi_inj.mp z)
theorem dp_ints {K : PySem.W.Frag} {H : Hp} : ∀ l : List Int, DpAll K H (iV l) (l.map PyData.int)
  | [] => .nil
  | x :: l => .cons (.int x) (dp_ints l)
theorem dp_bytes {K : PySem.W.Frag} {H : Hp} {a : Addr} {b : Bytes} (h : H a = some (.lst (bV b))) : Dp K H (.ref a) (.list ((bi b).map PyData.int)) := .lst (SqL.of h) (dp_ints _)
def rdWords (p : Plan) (ws : List Bytes) : Nat × Plan := match ws with
  | [] => (1, p)
  | w :: r => if w = Yh.ascii "plain" then rdSect p 0 r else if w = Yh.ascii "point" then rdSect p 1 r else if w = Yh.ascii "cross" then rdSect p 2 r
    else if w = Yh.ascii "join" then rdJoin p r else if w = Yh.ascii "border" then rdBord p r else if w = Yh.ascii "signal" then rdSig p r else (1, p)
theorem code_plain : iV ((("plain" : Str).cps.toList).map fun (c : Nat) => (c : Int)) = bV (Yh.ascii "plain") := by decide +kernel
theorem code_point : iV ((("point" : Str).cps.toList).map fun (c : Nat) => (c : Int)) = bV (Yh.ascii "point") := by decide +kernel
theorem code_cross : iV ((("cross" : Str).cps.toList).map fun (c : Nat) => (c : Int)) = bV (Yh.ascii "cross") := by decide +kernel
theorem code_join : iV ((("join" : Str).cps.toList).map fun (c : Nat) => (c : Int)) = bV (Yh.ascii "join") := by decide +kernel
theorem code_border : iV ((("border" : Str).cps.toList).map fun (c : Nat) => (c : Int)) = bV (Yh.ascii "border") := by decide +kernel
theorem code_signal : iV ((("signal" : Str).cps.toList).map fun (c : Nat) => (c : Int)) = bV (Yh.ascii "signal") := by decide +kernel
def secWords : List (Str × Bytes) := [("plain", Yh.ascii "plain"), ("point", Yh.ascii "point"), ("cross", Yh.ascii "cross")]
theorem secWords_code {i : Nat} {x : Str} (h : [V.str "plain", V.str "point", V.str "cross"][i]? = some (.str x)) : ∃ b, (secWords.map (·.2))[i]? = some b ∧ x.cps.size ≤ 1000 ∧ iV ((x.cps.toList).map fun (c : Nat) => (c : Int)) = bV b := by
  match i, h with
  | 0, h =>
    have e : ("plain" : Str) = x := by have := Option.some.inj h; injection this
    subst e
    exact ⟨_, rfl, by decide +kernel, code_plain⟩
  | 1, h =>
    have e : ("point" : Str) = x := by have := Option.some.inj h; injection this
    subst e
    exact ⟨_, rfl, by decide +kernel, code_point⟩
  | 2, h =>
    have e : ("cross" : Str) = x := by have := Option.some.inj h; injection this
    subst e
    exact ⟨_, rfl, by decide +kernel, code_cross⟩
  | i + 3, h => simp at h
theorem rdWords_cons (p : Plan) (w : Bytes) (r : List Bytes) : rdWords p (w :: r) = if w = Yh.ascii "plain" then rdSect p 0 r else if w = Yh.ascii "point" then rdSect p 1 r else if w = Yh.ascii "cross" then rdSect p 2 r
    else if w = Yh.ascii "join" then rdJoin p r else if w = Yh.ascii "border" then rdBord p r else if w = Yh.ascii "signal" then rdSig p r else (1, p) := rfl
theorem rdWords_sect {p : Plan} {r : List Bytes} {i : Nat} {b : Bytes} (h : (secWords.map (·.2))[i]? = some b) : rdWords p (b :: r) = rdSect p i r := by
  rw [rdWords_cons]
  match i, h with
  | 0, h =>
    have e : Yh.ascii "plain" = b := Option.some.inj h
    rw [if_pos e.symm]
  | 1, h =>
    have e : Yh.ascii "point" = b := Option.some.inj h
    rw [if_neg (by rw [← e]; decide +kernel), if_pos e.symm]
  | 2, h =>
    have e : Yh.ascii "cross" = b := Option.some.inj h
    rw [if_neg (by rw [← e]; decide +kernel), if_neg (by rw [← e]; decide +kernel), if_pos e.symm]
  | i + 3, h => simp [secWords] at h
section
variable {P : Program} {w : World} {K : PySem.W.Frag} {mg : Str → Option Value} {base : Heap} {CP CB : Addr}
def spRdLine (CP : Addr) : Sp := fun vs H Q _ => ∃ (A : PA) (p : Plan) (a : Addr) (b : Bytes), vs = [.ref A.p, .ref a] ∧ PlanAt CP H A p ∧ Sz p ∧ H a = some (.lst (bV b)) ∧ b.length ≤ 20000 ∧ retRd CP H A Q (rdWords p (Yh.split 32 b))
theorem fn_read_line (T : Txt K mg CP CB) : Fn P w K mg base 6 "read_line" ["plan", "line"] (spRdLine CP) := by
  refine T.f_read_line.ok sc_read_line (fun vs H Q E h => ?_) (fun f cdv A' outer s H vs Q E hr h => ?_)
  · obtain ⟨A, p, a, b, rfl, _⟩ := h
    rfl
  · obtain ⟨A, p, a, b, rfl, h, hz, ha, hb, k⟩ := h
    have hsl := sizeLine_eq
    refine ⟨_, (pss_cons (ps_set (i := 2) sc_read_line.nd rfl (by first | exact Or.inl rfl | exact Or.inr rfl) (pe_fn (fn_parted T) (hr.mono (by decide)) rfl (pa_cons (pv 1) (pa_cons (pe_gint rfl T.c_BLANK) pa_nil))))
      (pss_cons (ps_set (i := 3) sc_read_line.nd rfl (by first | exact Or.inl rfl | exact Or.inr rfl) (pe_slice sl_list (pv 2) (po_some pe_int) po_none))
      (pss_cons (ps_for PassesOwn.never rfl (pi_enumT rfl T.b_enumerate (pa_cons (pe_gtup rfl T.t_SECTION_WORDS) pa_nil)) (pg_tup rfl (pgs_cons (pg_name (i := 4) sc_read_line.nd rfl (by first | exact Or.inl rfl | exact Or.inr rfl)) (pgs_cons (pg_name (i := 5) sc_read_line.nd rfl (by first | exact Or.inl rfl | exact Or.inr rfl)) pgs_nil))) (pss_one (ps_if (pt_cmpR (op_eqD hr.units) (pe_ix ix_list (pv 2) pe_int (fun _ _ => rfl)) (pe_fn (fn_codes T) (hr.mono (by decide)) rfl (pa_cons (pv 5) pa_nil)) (nomark _)) (pss_one (ps_ret (pe_fn (fn_read_section T) (hr.mono (by decide)) rfl (pa_cons (pv 0) (pa_cons (pv 4) (pa_cons (pv 3) pa_nil)))))) pss_nil)))
      (pss_cons (ps_if (pt_cmpR (op_eqD hr.units) (pe_ix ix_list (pv 2) pe_int (fun _ _ => rfl)) (pe_fn (fn_codes T) (hr.mono (by decide)) rfl (pa_cons pe_str pa_nil)) (nomark _)) (pss_one (ps_ret (pe_fn (fn_read_join T) (hr.mono (by decide)) rfl (pa_cons (pv 0) (pa_cons (pv 3) pa_nil))))) pss_nil)
      (pss_cons (ps_if (pt_cmpR (op_eqD hr.units) (pe_ix ix_list (pv 2) pe_int (fun _ _ => rfl)) (pe_fn (fn_codes T) (hr.mono (by decide)) rfl (pa_cons pe_str pa_nil)) (nomark _)) (pss_one (ps_ret (pe_fn (fn_read_border T) (hr.mono (by decide)) rfl (pa_cons (pv 0) (pa_cons (pv 3) pa_nil))))) pss_nil)
      (pss_cons (ps_if (pt_cmpR (op_eqD hr.units) (pe_ix ix_list (pv 2) pe_int (fun _ _ => rfl)) (pe_fn (fn_codes T) (hr.mono (by decide)) rfl (pa_cons pe_str pa_nil)) (nomark _)) (pss_one (ps_ret (pe_fn (fn_read_signal T) (hr.mono (by decide)) rfl (pa_cons (pv 0) (pa_cons (pv 3) pa_nil))))) pss_nil)
      (pss_one (ps_ret (pe_gint rfl T.c_NO_SUCH_LINE))))))))), ?_⟩
    refine ⟨_, rfl, a, b, 32, rfl, ha, (by omega), fun wa H1 hwa s1 hP => ?_⟩
    obtain ⟨ps, hp1, hp2, hp3, hp4⟩ := hP
    have hshort : Short (Yh.split 32 b) := ⟨by have := split_len 32 b; omega, fun x hx => Nat.le_trans (split_part 32 b x hx) (by omega)⟩
    obtain ⟨w0, wr, hsp⟩ : ∃ w0 wr, Yh.split 32 b = w0 :: wr := by
      cases hs : Yh.split 32 b with
      | nil => exact absurd hs (split_ne 32 b)
      | cons w0 wr => exact ⟨w0, wr, rfl⟩
    rw [hsp] at hp2 k hshort
    match ps, hp2, hp1 with
    | q0 :: qr, .cons hq0 hqr, hp1 =>
      refine ⟨_, rfl, _, rfl, wa, _, rfl, SqL.of hp1, fun be hbe => ?_⟩
      have ecut : cutV ((q0 :: qr).map V.ref) (some 1) none = qr.map V.ref := cut_from ((q0 :: qr).map V.ref) 1
      rw [ecut]
      have s2 : Same H1 (upd H1 be (.lst (qr.map V.ref))) := Same.new1 hbe
      have s12 := s1.trans s2
      have hsr : Short wr := ⟨by have := hshort.1; simp at this; omega, fun x hx => hshort.2 x (List.mem_cons_of_mem _ hx)⟩
      intro sw hsw
      refine ⟨sw, _, rfl, hsw _, for_enumT (K := K) (a := sw) (xs := [V.str "plain", V.str "point", V.str "cross"]) (fun i σ H' => ∃ v4 v5, σ = [some (.ref A.p), some (.ref a), some (.ref wa), some (.ref be), v4, v5] ∧ Same (upd H1 be (.lst (qr.map V.ref))) H' ∧ ∀ m c, m < i → (secWords.map (·.2))[m]? = some c → w0 ≠ c)
        ⟨none, none, rfl, Same.refl _, fun m c hm => by omega⟩ (fun i σ H' _ _ => hsw _) ?_ ?_⟩
      · rintro i x σ H' t hx ⟨v4, v5, rfl, hs, hne⟩ ht
        obtain ⟨str, rfl⟩ : ∃ str, x = V.str str := by
          match i, hx with
          | 0, hx => exact ⟨_, (Option.some.inj hx).symm⟩
          | 1, hx => exact ⟨_, (Option.some.inj hx).symm⟩
          | 2, hx => exact ⟨_, (Option.some.inj hx).symm⟩
          | i + 3, hx => simp at hx
        obtain ⟨c, hc, hsz, hcode⟩ := secWords_code hx
        refine ⟨t, _, rfl, SqT.of upd_same, rfl, _, _, rfl, _, _, rfl, rfl, ?_⟩
        have s3 := Same.new (o := .tup [.int (i : Nat), .str str]) hs ht
        have s13 := s12.trans s3
        refine ⟨_, rfl, wa, _, _, _, rfl, rfl, SqL.of (s3 _ _ (s2 _ _ hp1)), atI_nat (j := 0) rfl, _, rfl, str, rfl, hsz, fun r H4 hr4 s4 h4 => ?_⟩
        rw [hcode] at h4
        refine ⟨_, _, dp_bytes (s4 _ _ (s3 _ _ (s2 _ _ hq0))), dp_bytes h4, PySem.W.shaped_ints _, PySem.W.shaped_ints _, _, rfl, ?_⟩
        rw [eqv_bytes]
        have s14 := s13.trans s4
        refine ite2 (fun z => ?_) (fun z => ?_)
        · have e : w0 = c := of_decide_eq_true z
          subst e
          rw [rdWords_sect hc] at k
          exact ⟨_, rfl, _, rfl, _, rfl, A, p, i, be, qr, wr, rfl, h.same s14, hz, s4 _ _ (s3 _ _ upd_same), paired_imp hqr (fun _ _ _ e => s4 _ _ (s3 _ _ (s2 _ _ e))), hsr, fun H5 h5 k5 => k H5 h5 ((Keep.same s14).trans k5)⟩
        · refine ⟨_, _, rfl, s3.trans s4, fun m c' hm hc' => ?_⟩
          by_cases hmi : m = i
          · subst hmi
            rw [hc] at hc'
            cases hc'
            exact fun q => z (decide_eq_true q)
          · exact hne m c' (by omega) hc'
      · rintro σ H' ⟨v4, v5, rfl, hs, hne⟩
        have n0 : w0 ≠ Yh.ascii "plain" := hne 0 _ (by decide) rfl
        have n1 : w0 ≠ Yh.ascii "point" := hne 1 _ (by decide) rfl
        have n2 : w0 ≠ Yh.ascii "cross" := hne 2 _ (by decide) rfl
        have s13 := s12.trans hs
        have ek : rdWords p (w0 :: wr) = (if w0 = Yh.ascii "join" then rdJoin p wr else if w0 = Yh.ascii "border" then rdBord p wr else if w0 = Yh.ascii "signal" then rdSig p wr else (1, p)) := by
          rw [rdWords_cons, if_neg n0, if_neg n1, if_neg n2]
        rw [ek] at k
        refine ⟨_, rfl, wa, _, _, _, rfl, rfl, SqL.of (hs _ _ (s2 _ _ hp1)), atI_nat (j := 0) rfl, "join", rfl, (by decide +kernel), fun r H4 hr4 s4 h4 => ?_⟩
        rw [code_join] at h4
        refine ⟨_, _, dp_bytes (s4 _ _ (hs _ _ (s2 _ _ hq0))), dp_bytes h4, PySem.W.shaped_ints _, PySem.W.shaped_ints _, _, rfl, ?_⟩
        rw [eqv_bytes]
        have s14 := s13.trans s4
        refine ite2 (fun z => ?_) (fun z => ?_)
        · rw [if_pos (of_decide_eq_true z)] at k
          exact ⟨_, rfl, _, rfl, A, p, be, qr, wr, rfl, h.same s14, hz, s4 _ _ (hs _ _ upd_same), paired_imp hqr (fun _ _ _ e => s4 _ _ (hs _ _ (s2 _ _ e))), hsr, fun H5 h5 k5 => k H5 h5 ((Keep.same s14).trans k5)⟩
        · rw [if_neg (fun q => z (decide_eq_true q))] at k
          refine ⟨_, rfl, wa, _, _, _, rfl, rfl, SqL.of (s4 _ _ (hs _ _ (s2 _ _ hp1))), atI_nat (j := 0) rfl, "border", rfl, (by decide +kernel), fun r2 H5 hr5 s5 h5 => ?_⟩
          rw [code_border] at h5
          refine ⟨_, _, dp_bytes (s5 _ _ (s4 _ _ (hs _ _ (s2 _ _ hq0)))), dp_bytes h5, PySem.W.shaped_ints _, PySem.W.shaped_ints _, _, rfl, ?_⟩
          rw [eqv_bytes]
          have s15 := s14.trans s5
          refine ite2 (fun z => ?_) (fun z => ?_)
          · rw [if_pos (of_decide_eq_true z)] at k
            exact ⟨_, rfl, _, rfl, A, p, be, qr, wr, rfl, h.same s15, hz, s5 _ _ (s4 _ _ (hs _ _ upd_same)), paired_imp hqr (fun _ _ _ e => s5 _ _ (s4 _ _ (hs _ _ (s2 _ _ e)))), hsr, fun H6 h6 k6 => k H6 h6 ((Keep.same s15).trans k6)⟩
          · rw [if_neg (fun q => z (decide_eq_true q))] at k
            refine ⟨_, rfl, wa, _, _, _, rfl, rfl, SqL.of (s5 _ _ (s4 _ _ (hs _ _ (s2 _ _ hp1)))), atI_nat (j := 0) rfl, "signal", rfl, (by decide +kernel), fun r3 H6 hr6 s6 h6 => ?_⟩
            rw [code_signal] at h6
            refine ⟨_, _, dp_bytes (s6 _ _ (s5 _ _ (s4 _ _ (hs _ _ (s2 _ _ hq0))))), dp_bytes h6, PySem.W.shaped_ints _, PySem.W.shaped_ints _, _, rfl, ?_⟩
            rw [eqv_bytes]
            have s16 := s15.trans s6
            refine ite2 (fun z => ?_) (fun z => ?_)
            · rw [if_pos (of_decide_eq_true z)] at k
              exact ⟨_, rfl, _, rfl, A, p, be, qr, wr, rfl, h.same s16, hz, s6 _ _ (s5 _ _ (s4 _ _ (hs _ _ upd_same))), paired_imp hqr (fun _ _ _ e => s6 _ _ (s5 _ _ (s4 _ _ (hs _ _ (s2 _ _ e))))), hsr, fun H7 h7 k7 => k H7 h7 ((Keep.same s16).trans k7)⟩
            · rw [if_neg (fun q => z (decide_eq_true q))] at k
              exact k H6 (h.same s16) (Keep.same s16)
end
end YP
namespace YP
open Yh (Bytes Spot Sect Plan Step Route)
def lineRes (p : Plan) (l : Option Yh.Line) : Nat × Plan := match l with
  | none => (1, p)
  | some x => (match p.line x with
    | .error k => (k, p)
    | .ok q => (0, q))
theorem rdSect_line {p : Plan} (h : p.sects.length ≤ 16) (k : Nat) (n : Bytes) : rdSect p k [n] = lineRes p (if Yh.isName n = true then some (.sect k n) else none) := by
  show (if Yh.isName n = true then (if (p.find n).isSome = true then (2, p) else if p.sects.length = 16 then (7, p) else (0, { p with sects := p.sects ++ [⟨n, k⟩] })) else (1, p)) = _
  by_cases h1 : Yh.isName n = true
  · rw [if_pos h1, if_pos h1]
    show _ = (match (if (p.find n).isSome = true then .error 2 else if Yh.SECTIONS ≤ p.sects.length then .error 7 else .ok { p with sects := p.sects ++ [⟨n, k⟩] } : Except Nat Plan) with
      | .error k => (k, p)
      | .ok q => (0, q))
    by_cases h2 : (p.find n).isSome = true
    · rw [if_pos h2, if_pos h2]
    · rw [if_neg h2, if_neg h2]
      by_cases h3 : p.sects.length = 16
      · rw [if_pos h3, if_pos (by show 16 ≤ _; omega)]
      · rw [if_neg h3, if_neg (by show ¬ 16 ≤ _; omega)]
  · rw [if_neg h1, if_neg h1]
    rfl
theorem rdJoin_line (p : Plan) (a b : Bytes) : rdJoin p [a, b] = lineRes p (match Yh.endIn a, Yh.endIn b with
      | some x, some y => some (.join x y)
      | _, _ => none) := by
  unfold rdJoin
  simp only
  cases Yh.endIn a with
  | none => rfl
  | some x =>
    cases Yh.endIn b with
    | none => rfl
    | some y =>
      simp only
      unfold lineRes Plan.line
      simp only
      cases p.spot x with
      | none => rfl
      | some s =>
        cases p.spot y with
        | none => rfl
        | some t =>
          simp only
          by_cases h : p.taken s = true ∨ p.taken t = true ∨ s = t
          · rw [if_pos h, if_pos h]
          · rw [if_neg h, if_neg h]
theorem rdBord_line (p : Plan) (a : Bytes) : rdBord p [a] = lineRes p ((Yh.endIn a).map Yh.Line.border) := by
  unfold rdBord
  simp only
  cases Yh.endIn a with
  | none => rfl
  | some x =>
    simp only [Option.map_some]
    unfold lineRes Plan.line
    simp only
    cases p.spot x with
    | none => rfl
    | some s =>
      simp only
      by_cases h : p.taken s = true
      · rw [if_pos h, if_pos h]
      · rw [if_neg h, if_neg h]
        by_cases h2 : p.isPlain s.1 = false
        · rw [if_pos h2, if_pos h2]
        · rw [if_neg h2, if_neg h2]
theorem rdSig_line {p : Plan} (hg : p.signals.length ≤ 12) (a : Bytes) : rdSig p [a] = lineRes p ((Yh.endIn a).map Yh.Line.signal) := by
  unfold rdSig
  simp only
  cases Yh.endIn a with
  | none => rfl
  | some x =>
    simp only [Option.map_some]
    unfold lineRes Plan.line
    simp only
    cases p.spot x with
    | none => rfl
    | some s =>
      simp only
      by_cases h : (p.signalAt s).isSome = true
      · rw [if_pos h, if_pos h]
      · rw [if_neg h, if_neg h]
        by_cases h1 : (p.partner s).isNone = true
        · rw [if_pos h1, if_pos h1]
        · rw [if_neg h1, if_neg h1]
          by_cases h2 : p.isPlain s.1 = false
          · rw [if_pos h2, if_pos h2]
          · rw [if_neg h2, if_neg h2]
            by_cases h3 : p.signals.length = 12
            · rw [if_pos h3, if_pos (by show 12 ≤ _; omega)]
            · rw [if_neg h3, if_neg (by show ¬ 12 ≤ _; omega)]
theorem rdWords_spec {p : Plan} (h : p.sects.length ≤ 16) (hg : p.signals.length ≤ 12) (b : Bytes) : rdWords p (Yh.split 32 b) = lineRes p (Yh.lineIn b) := by
  unfold Yh.lineIn
  match hs : Yh.split 32 b with
  | [] => rfl
  | [w] =>
    rw [rdWords_cons]
    repeat (first | rfl | split)
  | [w, n] =>
    rw [rdWords_cons]
    simp only
    by_cases h1 : w = Yh.ascii "plain"
    · rw [if_pos h1, if_pos h1, rdSect_line h]
    · rw [if_neg h1, if_neg h1]
      by_cases h2 : w = Yh.ascii "point"
      · rw [if_pos h2, if_pos h2, rdSect_line h]
      · rw [if_neg h2, if_neg h2]
        by_cases h3 : w = Yh.ascii "cross"
        · rw [if_pos h3, if_pos h3, rdSect_line h]
        · rw [if_neg h3, if_neg h3]
          by_cases h4 : w = Yh.ascii "join"
          · rw [if_pos h4, if_neg (by rw [h4]; decide +kernel), if_neg (by rw [h4]; decide +kernel)]
            rfl
          · rw [if_neg h4]
            by_cases h5 : w = Yh.ascii "border"
            · rw [if_pos h5, if_pos h5, rdBord_line]
            · rw [if_neg h5, if_neg h5]
              by_cases h6 : w = Yh.ascii "signal"
              · rw [if_pos h6, if_pos h6, rdSig_line hg]
              · rw [if_neg h6, if_neg h6]
                rfl
  | [w, a, c] =>
    rw [rdWords_cons]
    simp only
    by_cases h4 : w = Yh.ascii "join"
    · rw [if_neg (by rw [h4]; decide +kernel), if_neg (by rw [h4]; decide +kernel), if_neg (by rw [h4]; decide +kernel), if_pos h4, if_pos h4, rdJoin_line]
      cases Yh.endIn a <;> cases Yh.endIn c <;> rfl
    · rw [if_neg h4, if_neg h4]
      repeat (first | rfl | split)
  | w :: a :: c :: d :: r =>
    rw [rdWords_cons]
    repeat (first | rfl | split)
structure Wf (p : Plan) : Prop where
  kinds : Kinds p
  names : ∀ x ∈ p.sects, Yh.isName x.name = true
  s16 : p.sects.length ≤ 16
  g12 : p.signals.length ≤ 12
  jnd : ((both p.joins).map (·.1)).Nodup
  bnd : p.borders.Nodup
  gnd : p.signals.Nodup
  jend : ∀ j ∈ both p.joins, p.isEnd j.1 = true
  bend : ∀ x ∈ p.borders, p.isEnd x = true ∧ p.isPlain x.1 = true ∧ p.partner x = none
  gend : ∀ x ∈ p.signals, p.isEnd x = true ∧ p.isPlain x.1 = true ∧ (p.partner x).isSome = true
theorem wf0 : Wf pl0 := ⟨fun x h => by simp [pl0] at h, fun x h => by simp [pl0] at h, by decide, by decide, .nil, .nil, .nil, fun x h => by simp [pl0, both] at h, fun x h => by simp [pl0] at h, fun x h => by simp [pl0] at h⟩
theorem isEnd_more {p : Plan} {x : Spot} (s : Sect) (h : p.isEnd x = true) : Plan.isEnd { p with sects := p.sects ++ [s] } x = true := by
  unfold Plan.isEnd Plan.kindAt at h ⊢
  simp only [Bool.and_eq_true, decide_eq_true_eq] at h ⊢
  refine ⟨by simp; omega, ?_⟩
  rw [List.getElem?_append_left h.1]
  exact h.2
theorem isPlain_more {p : Plan} {i : Nat} (s : Sect) (h : p.isPlain i = true) : Plan.isPlain { p with sects := p.sects ++ [s] } i = true := by
  unfold Plan.isPlain Plan.kindAt at h ⊢
  simp only [Bool.and_eq_true, decide_eq_true_eq] at h ⊢
  refine ⟨by simp; omega, ?_⟩
  rw [List.getElem?_append_left h.1]
  exact h.2
theorem lk_append (l m : List Jn) (x : Spot) : lk (l ++ m) x = (lk l x).or (lk m x) := by
  unfold lk
  rw [List.find?_append]
  cases l.find? _ <;> rfl
theorem lk_none {l : List Jn} {x : Spot} : lk l x = none ↔ x ∉ l.map (·.1) := by
  unfold lk
  rw [Option.map_eq_none_iff, List.find?_eq_none]
  constructor
  · intro h z
    obtain ⟨j, hj, e⟩ := List.mem_map.mp z
    exact h j hj (by simp [e])
  · intro h j hj e
    exact h (List.mem_map.mpr ⟨j, hj, by simpa using e⟩)
theorem taken_false {p : Plan} {x : Spot} (h : ¬ p.taken x = true) : p.partner x = none ∧ x ∉ p.borders := by
  unfold Plan.taken Plan.isBorder at h
  simp only [Bool.or_eq_true, not_or] at h
  constructor
  · cases e : p.partner x with
    | none => rfl
    | some y => rw [e] at h; simp at h
  · intro z
    exact h.2 (by simp [z])
theorem nodup_snoc {α : Type} [DecidableEq α] {l : List α} {x : α} (h : l.Nodup) (n : x ∉ l) : (l ++ [x]).Nodup := L2.nd_snoc h n
theorem sect_line {b n : Bytes} {k : Nat} (hb : Yh.lineIn b = some (.sect k n)) : k ≤ 2 ∧ Yh.isName n = true := by
  unfold Yh.lineIn at hb
  have fin : ∀ (k' : Nat) (n' : Bytes), k' ≤ 2 → (if Yh.isName n' = true then some (Yh.Line.sect k' n') else none) = some (.sect k n) → k ≤ 2 ∧ Yh.isName n = true := by
    intro k' n' hk h
    by_cases hn : Yh.isName n' = true
    · rw [if_pos hn] at h
      have h := Option.some.inj h
      injection h with h1 h2
      subst h1 h2
      exact ⟨hk, hn⟩
    · rw [if_neg hn] at h
      cases h
  match hs : Yh.split 32 b with
  | [] => rw [hs] at hb; cases hb
  | [w] => rw [hs] at hb; cases hb
  | [w, n'] =>
    rw [hs] at hb
    simp only at hb
    by_cases h1 : w = Yh.ascii "plain"
    · rw [if_pos h1] at hb; exact fin 0 n' (by decide) hb
    · rw [if_neg h1] at hb
      by_cases h2 : w = Yh.ascii "point"
      · rw [if_pos h2] at hb; exact fin 1 n' (by decide) hb
      · rw [if_neg h2] at hb
        by_cases h3 : w = Yh.ascii "cross"
        · rw [if_pos h3] at hb; exact fin 2 n' (by decide) hb
        · rw [if_neg h3] at hb
          by_cases h5 : w = Yh.ascii "border"
          · rw [if_pos h5] at hb
            cases e : Yh.endIn n' with
            | none => rw [e] at hb; cases hb
            | some x => rw [e] at hb; cases hb
          · rw [if_neg h5] at hb
            by_cases h6 : w = Yh.ascii "signal"
            · rw [if_pos h6] at hb
              cases e : Yh.endIn n' with
              | none => rw [e] at hb; cases hb
              | some x => rw [e] at hb; cases hb
            · rw [if_neg h6] at hb
              cases hb
  | [w, a, c] =>
    rw [hs] at hb
    simp only at hb
    by_cases h4 : w = Yh.ascii "join"
    · rw [if_pos h4] at hb
      cases e : Yh.endIn a with
      | none => rw [e] at hb; cases hb
      | some x =>
        cases e2 : Yh.endIn c with
        | none => rw [e, e2] at hb; cases hb
        | some y => rw [e, e2] at hb; cases hb
    · rw [if_neg h4] at hb
      cases hb
  | w :: a :: c :: d :: r => rw [hs] at hb; cases hb
theorem wf_line {p q : Plan} {b : Bytes} {x : Yh.Line} (w : Wf p) (hb : Yh.lineIn b = some x) (h : p.line x = .ok q) :
    Wf q ∧ q.joins.length ≤ p.joins.length + 1 ∧ q.borders.length ≤ p.borders.length + 1 := by
  cases x with
  | sect k n =>
    have hk : k ≤ 2 ∧ Yh.isName n = true := by
      exact sect_line hb
    unfold Plan.line at h
    simp only at h
    split at h
    · cases h
    · split at h
      · cases h
      · rename_i h1 h2
        cases h
        have h2' : ¬ 16 ≤ p.sects.length := h2
        refine ⟨⟨?_, ?_, ?_, w.g12, w.jnd, w.bnd, w.gnd, fun j hj => isEnd_more _ (w.jend j hj), fun y hy => ?_, fun y hy => ?_⟩, by simp, by simp⟩
        · intro y hy
          rcases List.mem_append.mp hy with z | z
          · exact w.kinds y z
          · rw [List.mem_singleton.mp z]; exact hk.1
        · intro y hy
          rcases List.mem_append.mp hy with z | z
          · exact w.names y z
          · rw [List.mem_singleton.mp z]; exact hk.2
        · simp; omega
        · obtain ⟨a1, a2, a3⟩ := w.bend y hy
          exact ⟨isEnd_more _ a1, isPlain_more _ a2, a3⟩
        · obtain ⟨a1, a2, a3⟩ := w.gend y hy
          exact ⟨isEnd_more _ a1, isPlain_more _ a2, a3⟩
  | join a c =>
    unfold Plan.line at h
    simp only at h
    cases hs : p.spot a with
    | none => rw [hs] at h; cases h
    | some s =>
      cases ht : p.spot c with
      | none => rw [hs, ht] at h; cases h
      | some t =>
        rw [hs, ht] at h
        simp only at h
        split at h
        · cases h
        · rename_i hn
          cases h
          simp only [not_or] at hn
          obtain ⟨n1, n2, n3⟩ := hn
          obtain ⟨s1, s2⟩ := taken_false n1
          obtain ⟨t1, t2⟩ := taken_false n2
          have es := (spot_get hs).1
          have et := (spot_get ht).1
          have hp : ∀ y, Plan.partner { p with joins := p.joins ++ [(s, t)] } y = (p.partner y).or (lk [(s, t), (t, s)] y) := by
            intro y
            rw [partner_lk, partner_lk, ← lk_append]
            show lk (both (p.joins ++ [(s, t)])) y = _
            rw [both_snoc]
            simp
          rw [partner_lk, lk_none] at s1 t1
          refine ⟨⟨w.kinds, w.names, w.s16, w.g12, ?_, w.bnd, w.gnd, ?_, ?_, ?_⟩, by simp, by simp⟩
          · show ((both (p.joins ++ [(s, t)])).map (·.1)).Nodup
            rw [both_snoc, List.map_append, List.map_append]
            refine nodup_snoc (nodup_snoc w.jnd s1) ?_
            intro z
            rcases List.mem_append.mp z with z | z
            · exact t1 z
            · exact n3 (List.mem_singleton.mp z).symm
          · intro j hj
            have hj : j ∈ both (p.joins ++ [(s, t)]) := hj
            rw [both_snoc] at hj
            rcases List.mem_append.mp hj with z | z
            · rcases List.mem_append.mp z with z | z
              · exact w.jend j z
              · rw [List.mem_singleton.mp z]; exact es
            · rw [List.mem_singleton.mp z]; exact et
          · intro y hy
            obtain ⟨a1, a2, a3⟩ := w.bend y hy
            refine ⟨a1, a2, ?_⟩
            rw [hp, a3]
            have : lk [(s, t), (t, s)] y = none := by
              rw [lk_none]
              intro z
              simp at z
              rcases z with z | z
              · exact s2 (z ▸ hy)
              · exact t2 (z ▸ hy)
            rw [this]
            rfl
          · intro y hy
            obtain ⟨a1, a2, a3⟩ := w.gend y hy
            refine ⟨a1, a2, ?_⟩
            rw [hp]
            cases e : p.partner y with
            | none => rw [e] at a3; cases a3
            | some z => rfl
  | border a =>
    unfold Plan.line at h
    simp only at h
    cases hs : p.spot a with
    | none => rw [hs] at h; cases h
    | some s =>
      rw [hs] at h
      simp only at h
      split at h
      · cases h
      · split at h
        · cases h
        · rename_i n1 n2
          cases h
          obtain ⟨s1, s2⟩ := taken_false n1
          have es := (spot_get hs).1
          refine ⟨⟨w.kinds, w.names, w.s16, w.g12, w.jnd, nodup_snoc w.bnd s2, w.gnd, w.jend, ?_, w.gend⟩, by simp, by simp⟩
          intro y hy
          rcases List.mem_append.mp hy with z | z
          · exact w.bend y z
          · rw [List.mem_singleton.mp z]
            have hpl : p.isPlain s.1 = true := by simpa using n2
            exact ⟨es, hpl, s1⟩
  | signal a =>
    unfold Plan.line at h
    simp only at h
    cases hs : p.spot a with
    | none => rw [hs] at h; cases h
    | some s =>
      rw [hs] at h
      simp only at h
      split at h
      · cases h
      · split at h
        · cases h
        · split at h
          · cases h
          · split at h
            · cases h
            · rename_i n1 n2 n3 n4
              cases h
              have n4' : ¬ 12 ≤ p.signals.length := n4
              have es := (spot_get hs).1
              have ns : s ∉ p.signals := fun z => n1 (by rw [signalAt_some]; simp [z])
              refine ⟨⟨w.kinds, w.names, w.s16, by simp; omega, w.jnd, w.bnd, nodup_snoc w.gnd ns, w.jend, w.bend, ?_⟩, by simp, by simp⟩
              intro y hy
              rcases List.mem_append.mp hy with z | z
              · exact w.gend y z
              · rw [List.mem_singleton.mp z]
                have hpl : p.isPlain s.1 = true := by simpa using n3
                refine ⟨es, hpl, ?_⟩
                show (p.partner s).isSome = true
                cases e : p.partner s with
                | none => rw [e] at n2; simp at n2
                | some z => rfl
end YP
namespace YP
open PySem PySem.Spec PyProof.Rows L2
open Yh (Bytes Spot Sect Plan Step Route)
theorem Wf.sz {p : Plan} {n : Nat} (w : Wf p) (h1 : p.joins.length ≤ n) (h2 : p.borders.length ≤ n) (hn : n ≤ 2000) : Sz p := ⟨w.kinds, w.s16, by omega, by omega, w.g12⟩
theorem PlanAt.notin {CP : Addr} {H : Hp} {A : PA} {p : Plan} (h : PlanAt CP H A p) {b : Addr} (n : H b = none) : b ∉ A.muts := by
  obtain ⟨vs, hs, _⟩ := h.sects
  obtain ⟨kvs, hj, _⟩ := h.joins
  simp only [PA.muts, List.mem_cons, List.not_mem_nil, or_false, not_or]
  exact ⟨Ne.symm (ne_of_none hs n), Ne.symm (ne_of_none h.nums n), Ne.symm (ne_of_none hj n), Ne.symm (ne_of_none h.bords n), Ne.symm (ne_of_none h.sigs n)⟩
theorem readFrom_cons (p : Plan) (n : Nat) (b c : Bytes) (r : List Bytes) : Yh.readFrom p n (b :: c :: r) = match Yh.lineIn b with
    | none => .error (n, 1)
    | some x => match p.line x with
      | .error k => .error (n, k)
      | .ok q => Yh.readFrom q (n + 1) (c :: r) := rfl
theorem line_err {p : Plan} {b : Bytes} {x : Yh.Line} {k : Nat} (h : p.line x = .error k) : k ≠ 0 := by
  cases x <;> unfold Plan.line at h <;> simp only at h
  · split at h
    · cases h; decide
    · split at h
      · cases h; decide
      · cases h
  · split at h
    · split at h
      · cases h; decide
      · cases h
    · cases h; decide
  · split at h
    · cases h; decide
    · split at h
      · cases h; decide
      · split at h
        · cases h; decide
        · cases h
  · split at h
    · cases h; decide
    · split at h
      · cases h; decide
      · split at h
        · cases h; decide
        · split at h
          · cases h; decide
          · split at h
            · cases h; decide
            · cases h
section
variable {P : Program} {w : World} {K : PySem.W.Frag} {mg : Str → Option Value} {base : Heap} {CP CB : Addr}
def RdRes (CP : Addr) (A : PA) (r : Except Yh.Fault Plan) (v : V) (H' : Hp) : Prop := match r with
  | .error e => ∃ q, v = .ref q ∧ H' q = some (.lst [.int (e.1 : Int), .int (e.2 : Int)])
  | .ok p => v = .non ∧ PlanAt CP H' A p ∧ Wf p ∧ p.joins.length ≤ 1100 ∧ p.borders.length ≤ 1100
def spRdText (CP : Addr) : Sp := fun vs H Q _ => ∃ (A : PA) (a : Addr) (t : Bytes), vs = [.ref A.p, .ref a] ∧ PlanAt CP H A pl0 ∧ H a = some (.lst (bV t)) ∧ t.length ≤ 1024 ∧
  ∀ (v : V) (H' : Hp), Keep A.muts H H' → RdRes CP A (Yh.readFrom pl0 0 (Yh.split 10 t)) v H' → Q v H'
theorem fn_read_text (T : Txt K mg CP CB) : Fn P w K mg base 7 "read_text" ["plan", "text"] (spRdText CP) := by
  refine T.f_read_text.ok sc_read_text (fun vs H Q E h => ?_) (fun f cdv A' outer s H vs Q E hr h => ?_)
  · obtain ⟨A, a, t, rfl, _⟩ := h
    rfl
  · obtain ⟨A, a, t, rfl, h, ha, ht, k⟩ := h
    have hsl := sizeLine_eq
    refine ⟨_, (pss_cons (ps_set (i := 2) sc_read_text.nd rfl (by first | exact Or.inl rfl | exact Or.inr rfl) (pe_fn (fn_parted T) (hr.mono (by decide)) rfl (pa_cons (pv 1) (pa_cons (pe_gint rfl T.c_LINE_END) pa_nil))))
      (pss_cons (ps_set (i := 3) sc_read_text.nd rfl (by first | exact Or.inl rfl | exact Or.inr rfl) (pe_slice sl_list (pv 2) po_none (po_some (pe_un un_neg pe_int))))
      (pss_cons (ps_for PassesOwn.never rfl (pi_enum rfl T.b_enumerate (pa_cons (pv 3) pa_nil)) (pg_tup rfl (pgs_cons (pg_name (i := 4) sc_read_text.nd rfl (by first | exact Or.inl rfl | exact Or.inr rfl)) (pgs_cons (pg_name (i := 5) sc_read_text.nd rfl (by first | exact Or.inl rfl | exact Or.inr rfl)) pgs_nil))) (pss_cons (ps_set (i := 6) sc_read_text.nd rfl (by first | exact Or.inl rfl | exact Or.inr rfl) (pe_fn (fn_read_line T) (hr.mono (by decide)) rfl (pa_cons (pv 0) (pa_cons (pv 5) pa_nil))))
      (pss_one (ps_if (pt_cmpR op_ne (pv 6) (pe_gint rfl T.c_NO_FAULT) (nomark _)) (pss_one (ps_ret (pe_lst (pa_cons (pv 4) (pa_cons (pv 6) pa_nil))))) pss_nil))))
      (pss_cons (ps_if (pt_cmpR op_gt (pe_callB call_len_seq rfl T.b_len PySem.boot_len (pa_cons (pe_ix ix_list (pv 2) (pe_un un_neg pe_int) (fun _ _ => rfl)) pa_nil)) pe_int (nomark _)) (pss_one (ps_ret (pe_lst (pa_cons (pe_callB call_len_seq rfl T.b_len PySem.boot_len (pa_cons (pv 3) pa_nil)) (pa_cons (pe_gint rfl T.c_NO_SUCH_LINE) pa_nil))))) pss_nil)
      (pss_one (ps_ret pe_non)))))), ?_⟩
    refine ⟨_, rfl, a, t, 10, rfl, ha, (by omega), fun wa H1 hwa s1 hP => ?_⟩
    obtain ⟨ps, hp1, hp2, hp3, hp4⟩ := hP
    have hlen := split_len 10 t
    have hpl : ps.length = (Yh.split 10 t).length := Paired.length hp2
    have hne := split_ne 10 t
    have hpos : 0 < (Yh.split 10 t).length := List.length_pos_iff.mpr hne
    refine ⟨_, rfl, _, rfl, _, rfl, wa, _, rfl, SqL.of hp1, fun la hla => ?_⟩
    have ecut : cutV (ps.map V.ref) none (some (-1)) = (ps.take (ps.length - 1)).map V.ref := by
      have := cut_back (ps.map V.ref) 1 (by decide)
      rw [List.length_map, ← List.map_take] at this
      exact this
    have eneg : (fun i => V.int (-i)) 1 = V.int (-1) := rfl
    rw [show (-1 : Int) = -1 from rfl] at *
    rw [ecut]
    have s2 : Same H1 (upd H1 la (.lst ((ps.take (ps.length - 1)).map V.ref))) := Same.new1 hla
    have s12 := s1.trans s2
    have hla0 : H la = none := s1.free hla
    have nla : la ∉ A.muts := h.notin hla0
    have nwa : wa ∉ A.muts := h.notin hwa
    have nq : ∀ q ∈ ps, q ∉ A.muts := fun q hq => h.notin (hp4 q hq)
    refine ⟨_, rfl, la, _, rfl, SqL.of upd_same, for_enum (K := K) (a := la) (xs := (ps.take (ps.length - 1)).map V.ref) (fun i σ H' => ∃ v4 v5 v6 p, σ = [some (.ref A.p), some (.ref a), some (.ref wa), some (.ref la), v4, v5, v6] ∧ Keep A.muts (upd H1 la (.lst ((ps.take (ps.length - 1)).map V.ref))) H' ∧ PlanAt CP H' A p ∧ Wf p ∧ p.joins.length ≤ i ∧ p.borders.length ≤ i ∧ Yh.readFrom pl0 0 (Yh.split 10 t) = Yh.readFrom p i ((Yh.split 10 t).drop i))
      ⟨none, none, none, pl0, rfl, Keep.same (Same.refl _), h.same s12, wf0, Nat.le_refl _, Nat.le_refl _, rfl⟩ (fun i σ H' _ ⟨_, _, _, _, _, kp, _⟩ => SqL.of (kp _ _ upd_same nla)) ?_ ?_⟩
    · rintro i x σ H' tt hx ⟨v4, v5, v6, p, rfl, kp, hp, wf, hj, hbo, hrd⟩ htt
      obtain ⟨q, hq, rfl⟩ := getm hx
      have hil : i < ps.length - 1 := by have := (List.getElem?_eq_some_iff.mp hq).1; simp at this; omega
      rw [List.getElem?_take_of_lt hil] at hq
      obtain ⟨b, hb, hbq⟩ := paired_get hp2 hq
      have hqm : q ∈ ps := List.mem_of_getElem? hq
      have hb1 : H' q = some (.lst (bV b)) := kp _ _ (s2 _ _ hbq) (nq q hqm)
      have hbl : b.length ≤ t.length := split_part 10 t b (List.mem_of_getElem? hb)
      have s3 : Same H' (upd H' tt (.tup [.int (i : Nat), .ref q])) := Same.new1 htt
      have hil2 : i + 1 < (Yh.split 10 t).length := by omega
      have edrop : (Yh.split 10 t).drop i = b :: (Yh.split 10 t)[i + 1] :: (Yh.split 10 t).drop (i + 2) := by
        rw [List.drop_eq_getElem_cons (by omega : i < (Yh.split 10 t).length), List.drop_eq_getElem_cons hil2]
        congr 1
        have := List.getElem?_eq_getElem (show i < (Yh.split 10 t).length by omega)
        rw [hb] at this
        exact (Option.some.inj this).symm
      refine ⟨tt, _, rfl, SqT.of upd_same, rfl, _, _, rfl, _, _, rfl, rfl, ?_⟩
      refine ⟨_, rfl, _, rfl, A, p, q, b, rfl, hp.same s3, wf.sz hj hbo (by omega), s3 _ _ hb1, (by omega), fun H4 hp4 k4 => ?_⟩
      rw [rdWords_spec wf.s16 wf.g12] at hp4 ⊢
      refine ⟨_, rfl, rfl, _, rfl, ?_⟩
      show if (!decide (V.int ((lineRes p (Yh.lineIn b)).1 : Int) = V.int ((0 : Nat) : Int))) = true then _ else _
      rw [decI]
      have kk : Keep A.muts (upd H1 la (.lst ((ps.take (ps.length - 1)).map V.ref))) H4 := (kp.trans (Keep.same s3)).trans k4
      rw [edrop, readFrom_cons] at hrd
      have errcase : ∀ e2 : Nat, (lineRes p (Yh.lineIn b)).1 = e2 → Yh.readFrom pl0 0 (Yh.split 10 t) = .error (i, e2) → ∀ r, H4 r = none → Q (.ref r) (upd H4 r (.lst [.int (i : Nat), .int ((lineRes p (Yh.lineIn b)).1 : Int)])) := by
        intro e2 he2 hr r hr4
        refine k (.ref r) _ ?_ ?_
        · refine ((Keep.same s12).trans kk).trans (Keep.same (Same.new1 hr4))
        · rw [hr]
          exact ⟨r, rfl, by rw [upd_same, he2]⟩
      cases hl : Yh.lineIn b with
      | none =>
        rw [hl] at hrd errcase
        refine iteT ?_
        refine ⟨_, rfl, _, rfl, (by show 2 ≤ sizeLine; decide), fun r hr4 => errcase 1 rfl hrd r hr4⟩
      | some x =>
        rw [hl] at hrd errcase hp4
        simp only at hrd
        cases hx : p.line x with
        | error e2 =>
          rw [hx] at hrd
          have e1 : (lineRes p (some x)).1 = e2 := by unfold lineRes; simp only [hx]
          have ne := line_err (b := b) hx
          rw [e1] at errcase ⊢
          rw [decide_eq_false ne]
          refine iteT ?_
          exact ⟨_, rfl, _, rfl, (by show 2 ≤ sizeLine; decide), fun r hr4 => errcase e2 rfl hrd r hr4⟩
        | ok q' =>
          rw [hx] at hrd
          have e1 : lineRes p (some x) = (0, q') := by unfold lineRes; simp only [hx]
          rw [e1] at hp4 ⊢
          refine iteF ?_
          obtain ⟨wf', hj', hb'⟩ := wf_line wf hl hx
          refine ⟨_, _, _, q', rfl, kk, hp4, wf', by omega, by omega, ?_⟩
          rw [hrd, List.drop_eq_getElem_cons hil2]
    · rintro σ H' ⟨v4, v5, v6, p, rfl, kp, hp, wf, hj, hbo, hrd⟩
      have en : ((ps.take (ps.length - 1)).map V.ref).length = (Yh.split 10 t).length - 1 := by simp; omega
      rw [en] at hj hbo hrd
      obtain ⟨ps', q, eps, _, hql⟩ := paired_last hp2 hne
      have hlast : (Yh.split 10 t).drop ((Yh.split 10 t).length - 1) = [(Yh.split 10 t).getLast hne] := by
        rw [List.drop_eq_getElem_cons (by omega : (Yh.split 10 t).length - 1 < (Yh.split 10 t).length), List.getLast_eq_getElem]
        congr 1
        exact List.drop_of_length_le (by omega)
      rw [hlast] at hrd
      have hq' : H' q = some (.lst (bV ((Yh.split 10 t).getLast hne))) := kp _ _ (s2 _ _ hql) (nq q (by rw [eps]; simp))
      have hwa' : H' wa = some (.lst (ps.map V.ref)) := kp _ _ (s2 _ _ hp1) nwa
      have hat : atI (ps.map V.ref) (-1) = some (.ref q) := by
        rw [eps, List.map_append]
        exact atI_last _ _
      have kk : Keep A.muts H H' := (Keep.same s12).trans kp
      refine ⟨_, rfl, _, rfl, wa, _, _, .ref q, rfl, rfl, SqL.of hwa', hat, q, _, rfl, .inl (SqL.of hq'), _, _, rfl, rfl, _, rfl, ite2 (fun z => ?_) (fun z => ?_)⟩
      · have hnil : ¬ (Yh.split 10 t).getLast hne = [] := fun y => by
          rw [y] at z
          exact absurd z (by decide)
        have hr : Yh.readFrom pl0 0 (Yh.split 10 t) = .error ((Yh.split 10 t).length - 1, 1) := by
          rw [hrd]
          show (if _ = [] then _ else _) = _
          rw [if_neg hnil]
        refine ⟨_, rfl, la, _, rfl, .inl (SqL.of (kp _ _ upd_same nla)), (by show 2 ≤ sizeLine; decide), fun r hr4 => ?_⟩
        refine k (.ref r) _ (kk.trans (Keep.same (Same.new1 hr4))) ?_
        rw [hr]
        refine ⟨r, rfl, ?_⟩
        rw [upd_same, en]
        rfl
      · have hnil : (Yh.split 10 t).getLast hne = [] := by
          cases e : (Yh.split 10 t).getLast hne with
          | nil => rfl
          | cons c r =>
            rw [e] at z
            exact absurd (decide_eq_true (by rw [bV_length]; simp)) z
        have hr : Yh.readFrom pl0 0 (Yh.split 10 t) = .ok p := by
          rw [hrd]
          show (if _ = [] then _ else _) = _
          rw [if_pos hnil]
        refine k .non H' kk ?_
        rw [hr]
        exact ⟨rfl, hp, wf, by omega, by omega⟩
end
end YP
namespace YP
open PySem PySem.Spec PyProof.Rows L2
open Yh (Bytes Spot Sect Plan Step Route)
def wordR (H : Hp) (u : Addr) (w : Bytes) : Prop := H u = some (.lst (bV w)) ∨ H u = some (.tup (bV w))
def lineB (fx : Bytes) (ws : List Bytes) : Bytes := fx ++ ws.flatMap (fun w => 32 :: w) ++ [10]
section
variable {P : Program} {w : World} {K : PySem.W.Frag} {mg : Str → Option Value} {base : Heap} {CP CB : Addr}
def spLineOf : Sp := fun vs H Q _ => ∃ (x : Str) (fx : Bytes) (a : Addr) (us : List Addr) (ws : List Bytes), vs = [.str x, .ref a] ∧ x.cps.size ≤ 1000 ∧ iV (x.cps.toList.map fun (c : Nat) => (c : Int)) = bV fx ∧ H a = some (.lst (us.map V.ref)) ∧ Paired (wordR H) us ws ∧
  (lineB fx ws).length ≤ 100000 ∧ retL H Q (bV (lineB fx ws))
theorem fn_line_of (T : Txt K mg CP CB) : Fn P w K mg base 2 "line_of" ["first", "words"] spLineOf := by
  refine T.f_line_of.ok sc_line_of (fun vs H Q E h => ?_) (fun f cdv A outer s H vs Q E hr h => ?_)
  · obtain ⟨x, fx, a, us, ws, rfl, _⟩ := h
    rfl
  · obtain ⟨x, fx, a, us, ws, rfl, hx, hcode, ha, hw, hz, k⟩ := h
    have hsl := sizeLine_eq
    have hul : us.length = ws.length := Paired.length hw
    refine ⟨_, (pss_cons (ps_set (i := 2) sc_line_of.nd rfl (by first | exact Or.inl rfl | exact Or.inr rfl) (pe_fn (fn_codes T) (hr.mono (by decide)) rfl (pa_cons (pv 0) pa_nil)))
      (pss_cons (ps_for PassesOwn.never rfl (pi_list (pv 1)) (pg_name (i := 3) sc_line_of.nd rfl (by first | exact Or.inl rfl | exact Or.inr rfl)) (pss_cons (ps_expr (pe_bm PySem.F.plainAttrs_list PySem.F.slot_list_append PySem.F.type_list_append mt_append (pv 2) (pa_cons (pe_gint rfl T.c_BLANK) pa_nil)))
      (pss_one (ps_expr (pe_bm PySem.F.plainAttrs_list PySem.F.slot_list_extend PySem.F.type_list_extend (MtR.or mt_extend mt_extendT) (pv 2) (pa_cons (pv 3) pa_nil))))))
      (pss_cons (ps_expr (pe_bm PySem.F.plainAttrs_list PySem.F.slot_list_append PySem.F.type_list_append mt_append (pv 2) (pa_cons (pe_gint rfl T.c_LINE_END) pa_nil)))
      (pss_one (ps_ret (pv 2)))))), ?_⟩
    refine ⟨_, rfl, x, rfl, hx, fun l H1 hl s1 h1 => ?_⟩
    rw [hcode] at h1
    have hlen : ∀ i, (fx ++ (ws.take i).flatMap (fun w => 32 :: w)).length + 1 ≤ 100000 := by
      intro i
      have e : ws.flatMap (fun w => (32 : UInt8) :: w) = (ws.take i).flatMap (fun w => 32 :: w) ++ (ws.drop i).flatMap (fun w => 32 :: w) := by
        rw [← List.flatMap_append, List.take_append_drop]
      unfold lineB at hz
      rw [e] at hz
      simp only [List.length_append, List.length_cons, List.length_nil] at hz ⊢
      omega
    refine ⟨_, rfl, a, rfl, ⟨_, SqL.of (s1 _ _ ha)⟩, for_list (K := K) (a := a) (xs := us.map V.ref) (fun i σ H' => ∃ v, σ = [some (.str x), some (.ref a), some (.ref l), v] ∧ Same H H' ∧ H' l = some (.lst (bV (fx ++ (ws.take i).flatMap fun w => 32 :: w))))
      ⟨none, rfl, s1, by rw [h1]; simp⟩ (fun i σ H' _ ⟨_, _, hs, _⟩ => SqL.of (hs _ _ ha)) ?_ ?_⟩
    · rintro i y σ H' hi ⟨v, rfl, hs, hl'⟩
      obtain ⟨u, hu, rfl⟩ := getm hi
      obtain ⟨wd, hwd, hr⟩ := paired_get hw hu
      have hl1 := hlen i
      have hl2 := hlen (i + 1)
      rw [take_snoc hwd, List.flatMap_append] at hl2
      simp only [List.length_append, List.flatMap_cons, List.flatMap_nil, List.append_nil, List.length_cons] at hl1 hl2
      refine ⟨_, rfl, .inl ⟨rfl, _, SqL.of hl'⟩, l, _, _, rfl, rfl, hl', (by rw [bV_length, List.length_append]; omega), ?_⟩
      have s2 := Same.wr (o := .lst (bV (fx ++ (ws.take i).flatMap fun w => 32 :: w) ++ [.int 32])) hs hl
      have fin : Same H (upd (upd H' l (.lst (bV (fx ++ (ws.take i).flatMap fun w => 32 :: w) ++ [.int 32]))) l (.lst (bV (fx ++ (ws.take i).flatMap fun w => 32 :: w) ++ [.int 32] ++ bV wd))) ∧ (upd (upd H' l (.lst (bV (fx ++ (ws.take i).flatMap fun w => 32 :: w) ++ [.int 32]))) l (.lst (bV (fx ++ (ws.take i).flatMap fun w => 32 :: w) ++ [.int 32] ++ bV wd))) l = some (.lst (bV (fx ++ (ws.take (i + 1)).flatMap fun w => 32 :: w))) := by
        refine ⟨Same.wr s2 hl, ?_⟩
        rw [upd_same, take_snoc hwd, List.flatMap_append]
        simp only [List.flatMap_cons, List.flatMap_nil, List.append_nil]
        rw [show fx ++ ((ws.take i).flatMap (fun w => (32 : UInt8) :: w) ++ 32 :: wd) = (fx ++ (ws.take i).flatMap (fun w => (32 : UInt8) :: w)) ++ [32] ++ wd by simp, bV_append (fx ++ (ws.take i).flatMap (fun w => (32 : UInt8) :: w) ++ [32]) wd, bV_append (fx ++ (ws.take i).flatMap (fun w => (32 : UInt8) :: w)) [32]]
        rfl
      refine ⟨_, rfl, .inl ⟨rfl, _, SqL.of upd_same⟩, _, rfl, ?_⟩
      rcases hr with hr | hr
      · refine .inl ⟨l, u, _, _, rfl, rfl, upd_same, s2 _ _ hr, ?_, _, rfl, fin⟩
        rw [List.length_append, bV_length, bV_length, List.length_append]
        simp only [List.length_cons, List.length_nil]
        omega
      · refine .inr ⟨l, u, _, _, rfl, rfl, upd_same, SqT.of (s2 _ _ hr), ?_, _, rfl, fin⟩
        rw [List.length_append, bV_length, bV_length, List.length_append]
        simp only [List.length_cons, List.length_nil]
        omega
    · rintro σ H' ⟨v, rfl, hs, hl'⟩
      rw [List.length_map, hul, List.take_length] at hl'
      have hl1 := hlen ws.length
      rw [List.take_length] at hl1
      refine ⟨_, rfl, .inl ⟨rfl, _, SqL.of hl'⟩, l, _, _, rfl, rfl, hl', (by rw [bV_length]; omega), ?_⟩
      refine ⟨_, rfl, k l _ hl (Same.wr hs hl) ?_⟩
      rw [upd_same]
      unfold lineB
      rw [bV_append (fx ++ ws.flatMap fun w => 32 :: w) [10]]
      rfl
def spEndWord (CP : Addr) : Sp := fun vs H Q _ => ∃ (A : PA) (p : Plan) (x : Spot) (a : Addr), vs = [.ref A.p, .ref a] ∧ PlanAt CP H A p ∧ H a = some (.tup (spV x)) ∧ p.isEnd x = true ∧ Wf p ∧ retL H Q (bV (p.spotText x))
theorem isEnd_lt {p : Plan} {x : Spot} (h : p.isEnd x = true) : x.1 < p.sects.length ∧ x.2 < 4 := by
  unfold Plan.isEnd at h
  simp only [Bool.and_eq_true, decide_eq_true_eq] at h
  refine ⟨h.1, Nat.lt_of_lt_of_le h.2 ?_⟩
  unfold Yh.endsOf
  split
  · decide
  · split <;> decide
theorem name_len {n : Bytes} (h : Yh.isName n = true) : n.length ≤ 4 := by
  cases n with
  | nil => cases h
  | cons c r =>
    have h : (Yh.isBig c && (decide (r.length ≤ 3) && r.all fun x => Yh.isBig x || Yh.isDigit x)) = true := h
    simp only [Bool.and_eq_true, decide_eq_true_eq] at h
    simp
    omega
theorem fn_end_word (T : Txt K mg CP CB) : Fn P w K mg base 2 "end_word" ["plan", "end"] (spEndWord CP) := by
  refine T.f_end_word.ok sc_end_word (fun vs H Q E h => ?_) (fun f cdv A' outer s H vs Q E hr h => ?_)
  · obtain ⟨A, p, x, a, rfl, _⟩ := h
    rfl
  · obtain ⟨A, p, x, a, rfl, h, ha, he, wf, k⟩ := h
    have hsl := sizeLine_eq
    obtain ⟨h1, h2⟩ := isEnd_lt he
    obtain ⟨y, hy⟩ : ∃ y, p.sects[x.1]? = some y := ⟨_, List.getElem?_eq_getElem h1⟩
    have hn := name_len (wf.names y (List.mem_of_getElem? hy))
    refine ⟨_, (pss_one (ps_ret (pe_op op_cat (pe_callTy call_list_of rfl T.b_list PyProof.Rows.boot_list (pa_cons (pe_mt (pv 0) (mt_Plan_section_name T) (hr.mono (by decide)) (pa_cons (pe_ix ix_tup (pv 1) pe_int (fun _ _ => rfl)) pa_nil)) pa_nil)) (pe_lst (pa_cons (pe_gint rfl T.c_DOT) (pa_cons (pe_op op_add (pe_gint rfl T.c_DIGIT_ZERO) (pe_ix ix_tup (pv 1) pe_int (fun _ _ => rfl))) pa_nil)))))), ?_⟩
    refine ⟨_, rfl, A.p, A.dx, _, rfl, h.obj, rfl, _, rfl, a, _, _, _, rfl, rfl, SqT.of ha, atI_nat (j := 0) rfl, A, p, x.1, y, rfl, h, hy, fun t ht => ⟨t, _, rfl, .inr (SqT.of ht), fun l hl => ?_⟩⟩
    have s1 : Same H (upd H l (.lst (bV y.name))) := Same.new1 hl
    refine ⟨_, rfl, a, _, _, _, rfl, rfl, SqT.of (s1 _ _ ha), atI_nat (j := 1) rfl, _, _, rfl, rfl, (by show 2 ≤ sizeLine; decide), fun q hq => ?_⟩
    have s2 := Same.new (o := .lst [.int 46, .int (48 + (x.2 : Int))]) s1 hq
    refine ⟨l, q, _, _, rfl, rfl, (by rw [upd_ne (ne_of_none upd_same hq)]; exact upd_same), upd_same, (by rw [bV_length]; simp; omega), fun r hr => ?_⟩
    refine k r _ (s2.free hr) (Same.new s2 hr) ?_
    rw [upd_same]
    unfold Plan.spotText Plan.nameOf
    rw [hy]
    simp only
    rw [bV_append]
    have e : (UInt8.ofNat (48 + x.2)).toNat = 48 + x.2 := by
      rw [UInt8.toNat_ofNat']
      omega
    show some (HO.lst (bV y.name ++ [V.int 46, V.int (48 + (x.2 : Int))])) = some (HO.lst (bV y.name ++ [V.int ((46 : UInt8).toNat : Int), V.int ((UInt8.ofNat (48 + x.2)).toNat : Int)]))
    rw [e]
    congr 4
end
end YP
namespace YP
open PySem PySem.Spec PyProof.Rows L2
open Yh (Bytes Spot Sect Plan Step Route)
theorem flat_len {α : Type} {g : α → Bytes} {c : Nat} : ∀ {l : List α}, (∀ x ∈ l, (g x).length ≤ c) → (l.flatMap g).length ≤ c * l.length
  | [], _ => by simp
  | x :: l, h => by
    have ih := flat_len (l := l) fun y hy => h y (List.mem_cons_of_mem _ hy)
    have h1 := h x (List.mem_cons_self ..)
    rw [List.flatMap_cons, List.length_append, List.length_cons, Nat.mul_add]
    omega
def secW (k : Nat) : Bytes := if k = 0 then Yh.ascii "plain" else if k = 1 then Yh.ascii "point" else Yh.ascii "cross"
theorem kw_eq (k : Nat) : Yh.kindWord k = secW k ++ [32] := by
  unfold Yh.kindWord secW
  split
  · decide +kernel
  · split <;> decide +kernel
def secL (x : Sect) : Bytes := Yh.kindWord x.kind ++ (x.name ++ [10])
def jnL (p : Plan) (j : Jn) : Bytes := Yh.ascii "join " ++ (p.spotText j.1 ++ (32 :: (p.spotText j.2 ++ [10])))
def boL (p : Plan) (x : Spot) : Bytes := Yh.ascii "border " ++ (p.spotText x ++ [10])
def siL (p : Plan) (x : Spot) : Bytes := Yh.ascii "signal " ++ (p.spotText x ++ [10])
theorem form_text (p : Plan) : p.form.text = p.sects.flatMap secL ++ ((sortJ p.joins).flatMap (jnL p) ++ ((sortS p.borders).flatMap (boL p) ++ (sortS p.signals).flatMap (siL p))) := rfl
theorem secL_line (x : Sect) : secL x = lineB (secW x.kind) [x.name] := by
  unfold secL lineB
  rw [kw_eq]
  simp
theorem jnL_line (p : Plan) (j : Jn) : jnL p j = lineB (Yh.ascii "join") [p.spotText j.1, p.spotText j.2] := by
  unfold jnL lineB
  rw [show Yh.ascii "join " = Yh.ascii "join" ++ [32] by decide +kernel]
  simp
theorem boL_line (p : Plan) (x : Spot) : boL p x = lineB (Yh.ascii "border") [p.spotText x] := by
  unfold boL lineB
  rw [show Yh.ascii "border " = Yh.ascii "border" ++ [32] by decide +kernel]
  simp
theorem siL_line (p : Plan) (x : Spot) : siL p x = lineB (Yh.ascii "signal") [p.spotText x] := by
  unfold siL lineB
  rw [show Yh.ascii "signal " = Yh.ascii "signal" ++ [32] by decide +kernel]
  simp
theorem secW_len (k : Nat) : (secW k).length = 5 := by
  unfold secW
  split
  · decide +kernel
  · split <;> decide +kernel
theorem st_len {p : Plan} (w : Wf p) (x : Spot) : (p.spotText x).length ≤ 6 := by
  unfold Plan.spotText Plan.nameOf
  split
  · rename_i y hy
    have := name_len (w.names y (List.mem_of_getElem? hy))
    simp
    omega
  · simp
theorem secL_len {p : Plan} (w : Wf p) {x : Sect} (h : x ∈ p.sects) : (secL x).length ≤ 20 := by
  have := name_len (w.names x h)
  rw [secL_line]
  unfold lineB
  simp [secW_len]
  omega
theorem jnL_len {p : Plan} (w : Wf p) (j : Jn) : (jnL p j).length ≤ 20 := by
  have h1 := st_len w j.1
  have h2 := st_len w j.2
  have e : (Yh.ascii "join ").length = 5 := by decide +kernel
  unfold jnL
  simp [e]
  omega
theorem boL_len {p : Plan} (w : Wf p) (x : Spot) : (boL p x).length ≤ 20 := by
  have h1 := st_len w x
  have e : (Yh.ascii "border ").length = 7 := by decide +kernel
  unfold boL
  simp [e]
  omega
theorem siL_len {p : Plan} (w : Wf p) (x : Spot) : (siL p x).length ≤ 20 := by
  have h1 := st_len w x
  have e : (Yh.ascii "signal ").length = 7 := by decide +kernel
  unfold siL
  simp [e]
  omega
theorem secW_code {k : Nat} (h : k ≤ 2) : ∃ x : Str, [V.str "plain", V.str "point", V.str "cross"][k]? = some (.str x) ∧ x.cps.size ≤ 1000 ∧ iV (x.cps.toList.map fun (c : Nat) => (c : Int)) = bV (secW k) := by
  have : k = 0 ∨ k = 1 ∨ k = 2 := by omega
  rcases this with rfl | rfl | rfl
  · exact ⟨_, rfl, by decide +kernel, code_plain⟩
  · exact ⟨_, rfl, by decide +kernel, code_point⟩
  · exact ⟨_, rfl, by decide +kernel, code_cross⟩
theorem mem_sortJ {p : Plan} (w : Wf p) {j : Jn} (h : j ∈ sortJ p.joins) : p.isEnd j.1 = true ∧ p.isEnd j.2 = true := by
  have h1 := (sortJ_perm p.joins).mem_iff.mp h
  obtain ⟨i, hi, rfl⟩ := List.mem_map.mp h1
  have b1 : p.isEnd i.1 = true := w.jend (i.1, i.2) (List.mem_flatMap.mpr ⟨i, hi, by simp⟩)
  have b2 : p.isEnd i.2 = true := w.jend (i.2, i.1) (List.mem_flatMap.mpr ⟨i, hi, by simp⟩)
  unfold ori
  split
  · exact ⟨b1, b2⟩
  · exact ⟨b2, b1⟩
section
variable {P : Program} {w : World} {K : PySem.W.Frag} {mg : Str → Option Value} {base : Heap} {CP CB : Addr}
def spPrint (CP : Addr) : Sp := fun vs H Q _ => ∃ (A : PA) (p : Plan), vs = [.ref A.p] ∧ PlanAt CP H A p ∧ Wf p ∧ p.joins.length ≤ 1100 ∧ p.borders.length ≤ 1100 ∧ retL H Q (bV p.form.text)
theorem fn_print_plan (T : Txt K mg CP CB) : Fn P w K mg base 3 "print_plan" ["plan"] (spPrint CP) := by
  refine T.f_print_plan.ok sc_print_plan (fun vs H Q E h => ?_) (fun f cdv A' outer s H vs Q E hr h => ?_)
  · obtain ⟨A, p, rfl, _⟩ := h
    rfl
  · obtain ⟨A, p, rfl, h, wf, hj, hb, k⟩ := h
    have hsl := sizeLine_eq
    rw [form_text] at k
    refine ⟨_, (pss_cons (ps_set (i := 1) sc_print_plan.nd rfl (by first | exact Or.inl rfl | exact Or.inr rfl) (pe_lst pa_nil))
      (pss_cons (ps_for PassesOwn.never rfl (pi_list (pe_fld (pv 0) rfl)) (pg_tup rfl (pgs_cons (pg_name (i := 2) sc_print_plan.nd rfl (by first | exact Or.inl rfl | exact Or.inr rfl)) (pgs_cons (pg_name (i := 3) sc_print_plan.nd rfl (by first | exact Or.inl rfl | exact Or.inr rfl)) pgs_nil))) (pss_one (ps_expr (pe_bm PySem.F.plainAttrs_list PySem.F.slot_list_extend PySem.F.type_list_extend mt_extend (pv 1) (pa_cons (pe_fn (fn_line_of T) (hr.mono (by decide)) rfl (pa_cons (pe_ix ix_tup (pe_gtup rfl T.t_SECTION_WORDS) (pv 2) (fun _ _ => rfl)) (pa_cons (pe_lst (pa_cons (pv 3) pa_nil)) pa_nil))) pa_nil)))))
      (pss_cons (ps_for PassesOwn.never rfl (pi_list (pe_mt0 (pv 0) (mt_Plan_join_ends T) (hr.mono (by decide)))) (pg_tup rfl (pgs_cons (pg_name (i := 4) sc_print_plan.nd rfl (by first | exact Or.inl rfl | exact Or.inr rfl)) (pgs_cons (pg_name (i := 5) sc_print_plan.nd rfl (by first | exact Or.inl rfl | exact Or.inr rfl)) pgs_nil))) (pss_one (ps_expr (pe_bm PySem.F.plainAttrs_list PySem.F.slot_list_extend PySem.F.type_list_extend mt_extend (pv 1) (pa_cons (pe_fn (fn_line_of T) (hr.mono (by decide)) rfl (pa_cons pe_str (pa_cons (pe_lst (pa_cons (pe_fn (fn_end_word T) (hr.mono (by decide)) rfl (pa_cons (pv 0) (pa_cons (pv 4) pa_nil))) (pa_cons (pe_fn (fn_end_word T) (hr.mono (by decide)) rfl (pa_cons (pv 0) (pa_cons (pv 5) pa_nil))) pa_nil))) pa_nil))) pa_nil)))))
      (pss_cons (ps_for PassesOwn.never rfl (pi_list (pe_mt0 (pv 0) (mt_Plan_border_ends T) (hr.mono (by decide)))) (pg_name (i := 6) sc_print_plan.nd rfl (by first | exact Or.inl rfl | exact Or.inr rfl)) (pss_one (ps_expr (pe_bm PySem.F.plainAttrs_list PySem.F.slot_list_extend PySem.F.type_list_extend mt_extend (pv 1) (pa_cons (pe_fn (fn_line_of T) (hr.mono (by decide)) rfl (pa_cons pe_str (pa_cons (pe_lst (pa_cons (pe_fn (fn_end_word T) (hr.mono (by decide)) rfl (pa_cons (pv 0) (pa_cons (pv 6) pa_nil))) pa_nil)) pa_nil))) pa_nil)))))
      (pss_cons (ps_for PassesOwn.never rfl (pi_list (pe_mt0 (pv 0) (mt_Plan_signal_ends T) (hr.mono (by decide)))) (pg_name (i := 6) sc_print_plan.nd rfl (by first | exact Or.inl rfl | exact Or.inr rfl)) (pss_one (ps_expr (pe_bm PySem.F.plainAttrs_list PySem.F.slot_list_extend PySem.F.type_list_extend mt_extend (pv 1) (pa_cons (pe_fn (fn_line_of T) (hr.mono (by decide)) rfl (pa_cons pe_str (pa_cons (pe_lst (pa_cons (pe_fn (fn_end_word T) (hr.mono (by decide)) rfl (pa_cons (pv 0) (pa_cons (pv 6) pa_nil))) pa_nil)) pa_nil))) pa_nil)))))
      (pss_one (ps_ret (pv 1)))))))), ?_⟩
    refine ⟨Nat.zero_le _, fun tx htx => ?_⟩
    have s0 : Same H (upd H tx (.lst [])) := Same.new1 htx
    have h0 := h.same s0
    obtain ⟨vs, hs, hps⟩ := h.sects
    have hvl : vs.length = p.sects.length := Paired.length hps
    refine ⟨_, rfl, A.p, CP, A.dx, _, _, rfl, h0.obj, T.cP, T.nP_sections, pf_sections A, A.s, rfl, ⟨_, SqL.of (s0 _ _ hs)⟩, for_list (K := K) (a := A.s) (xs := vs) (fun i σ H' => ∃ v2 v3, σ = [some (.ref A.p), some (.ref tx), v2, v3, none, none, none] ∧ Same H H' ∧ H' tx = some (.lst (bV ((p.sects.take i).flatMap secL))))
      ⟨none, none, rfl, s0, upd_same⟩ (fun i σ H' _ ⟨_, _, _, hs', _⟩ => SqL.of (hs' _ _ hs)) ?_ ?_⟩
    · rintro i y σ H' hi ⟨v2, v3, rfl, hs', ht⟩
      obtain ⟨x, hx, q, t, rfl, hq, hnm⟩ := paired_get hps hi
      have hxm : x ∈ p.sects := List.mem_of_getElem? hx
      have hil : i < p.sects.length := (List.getElem?_eq_some_iff.mp hx).1
      obtain ⟨str, e1, e2, e3⟩ := secW_code (wf.kinds x hxm)
      have hl := flat_len (l := p.sects.take i) (g := secL) (c := 20) fun y hy => secL_len wf (List.mem_of_mem_take hy)
      have hl2 := secL_len wf hxm
      have h16 := wf.s16
      simp only [List.length_take] at hl
      refine ⟨q, _, rfl, SqT.of (hs' _ _ hq), rfl, _, _, rfl, _, _, rfl, rfl, ?_⟩
      refine ⟨_, rfl, .inl ⟨rfl, _, SqL.of ht⟩, fun b hb => ⟨_, rfl, b, _, _, _, rfl, rfl, hb _, atI_nat e1, _, rfl, (by show 1 ≤ sizeLine; decide), fun wl hwl => ⟨str, secW x.kind, wl, [t], [x.name], rfl, e2, e3, upd_same, .cons (.inr (by rw [upd_ne (ne_of_none (hs' _ _ hnm) hwl)]; exact hs' _ _ hnm)) .nil, (by rw [← secL_line]; omega), fun l H2 hl' s2 h2 => ?_⟩⟩⟩
      have s3 : Same H' H2 := (Same.new1 hwl).trans s2
      refine ⟨tx, l, _, _, rfl, rfl, s3 _ _ ht, h2, (by rw [bV_length, bV_length, ← secL_line]; omega), _, _, rfl, Same.wr (hs'.trans s3) htx, ?_⟩
      rw [upd_same, take_snoc hx, List.flatMap_append, ← secL_line, ← bV_append]
      simp
    rintro σ H1 ⟨v2, v3, rfl, s1, ht⟩
    rw [hvl, List.take_length] at ht
    have h1 := h.same s1
    have hl1 := flat_len (l := p.sects) (g := secL) (c := 20) fun y hy => secL_len wf hy
    have h16 := wf.s16
    generalize hT1 : p.sects.flatMap secL = t1 at ht k hl1
    have hlt1 : t1.length ≤ 320 := by omega
    refine ⟨_, rfl, A.p, A.dx, _, rfl, h1.obj, rfl, A, p, rfl, h1, wf.jnd, (by omega), fun ja js H2 hja s2 hj1 hjp => ?_⟩
    have s12 := s1.trans s2
    have hjl : js.length = p.joins.length := by rw [Paired.length hjp, (sortJ_perm p.joins).length_eq, List.length_map]
    have hjla : (sortJ p.joins).length = p.joins.length := by rw [(sortJ_perm p.joins).length_eq, List.length_map]
    refine ⟨ja, rfl, ⟨_, SqL.of hj1⟩, for_list (K := K) (a := ja) (xs := js) (fun i σ H' => ∃ v4 v5, σ = [some (.ref A.p), some (.ref tx), v2, v3, v4, v5, none] ∧ Same H H' ∧ Keep [tx] H2 H' ∧ H' tx = some (.lst (bV (t1 ++ ((sortJ p.joins).take i).flatMap (jnL p)))))
      ⟨none, none, rfl, s12, Keep.same (Same.refl _), by rw [s2 _ _ ht]; simp⟩ (fun i σ H' _ ⟨_, _, _, _, kp, _⟩ => SqL.of (kp _ _ hj1 (by simp only [List.mem_singleton]; exact Ne.symm (ne_of_none ht hja)))) ?_ ?_⟩
    · rintro i y σ H' hi ⟨v4, v5, rfl, hs', kp, ht'⟩
      obtain ⟨x, hx, q, qa, qb, rfl, hq, hqa, hqb⟩ := paired_get hjp hi
      obtain ⟨ea, eb⟩ := mem_sortJ wf (List.mem_of_getElem? hx)
      have hil : i < (sortJ p.joins).length := (List.getElem?_eq_some_iff.mp hx).1
      have tp : ∀ {b : Addr} {xs : List V}, H2 b = some (.tup xs) → H' b = some (.tup xs) := fun {b xs} e => kp _ _ e (by simp only [List.mem_singleton]; exact ne_of e (s2 _ _ ht) (by intro z; cases z))
      have hl := flat_len (l := (sortJ p.joins).take i) (g := jnL p) (c := 20) fun y hy => jnL_len wf y
      have hl2 := jnL_len wf x
      simp only [List.length_take] at hl
      have h' := h.same hs'
      refine ⟨q, _, rfl, SqT.of (tp hq), rfl, _, _, rfl, _, _, rfl, rfl, ?_⟩
      refine ⟨_, rfl, .inl ⟨rfl, _, SqL.of ht'⟩, _, rfl, _, rfl, A, p, x.1, qa, rfl, h', tp hqa, ea, wf, fun l1 H3 hl1 s3 h3 => ?_⟩
      refine ⟨_, rfl, _, rfl, A, p, x.2, qb, rfl, h'.same s3, s3 _ _ (tp hqb), eb, wf, fun l2 H4 hl2 s4 h4 => ?_⟩
      refine ⟨(by show 2 ≤ sizeLine; decide), fun wl hwl => ⟨"join", Yh.ascii "join", wl, [l1, l2], [p.spotText x.1, p.spotText x.2], rfl, (by decide +kernel), code_join, upd_same, .cons (.inl (by rw [upd_ne (ne_of_none (s4 _ _ h3) hwl)]; exact s4 _ _ h3)) (.cons (.inl (by rw [upd_ne (ne_of_none h4 hwl)]; exact h4)) .nil), (by rw [← jnL_line]; omega), fun l H5 hl' s5 h5 => ?_⟩⟩
      have s6 : Same H' H5 := ((s3.trans s4).trans (Same.new1 hwl)).trans s5
      refine ⟨tx, l, _, _, rfl, rfl, s6 _ _ ht', h5, (by rw [bV_length, bV_length, ← jnL_line, List.length_append]; omega), _, _, rfl, Same.wr (hs'.trans s6) htx, (kp.trans (Keep.same s6)).trans (Keep.upd (by simp)), ?_⟩
      rw [upd_same, take_snoc hx, List.flatMap_append, ← jnL_line, ← bV_append]
      simp
    rintro σ H3 ⟨v4, v5, rfl, s3, _, ht⟩
    rw [hjl, ← hjla, List.take_length] at ht
    have h3 := h.same s3
    have hl2 := flat_len (l := sortJ p.joins) (g := jnL p) (c := 20) fun y hy => jnL_len wf y
    rw [← List.append_assoc] at k
    generalize hT2 : t1 ++ (sortJ p.joins).flatMap (jnL p) = t2 at ht k
    have hlt2 : t2.length ≤ 30000 := by rw [← hT2, List.length_append]; omega
    refine ⟨_, rfl, A.p, A.dx, _, rfl, h3.obj, rfl, A, p, rfl, h3, fun ba bs H4 hba s4 hb1 hbp => ?_⟩
    have s34 := s3.trans s4
    have hbl : bs.length = (sortS p.borders).length := Paired.length hbp
    have hbla : (sortS p.borders).length = p.borders.length := (sortS_perm p.borders).length_eq
    refine ⟨ba, rfl, ⟨_, SqL.of hb1⟩, for_list (K := K) (a := ba) (xs := bs.map V.ref) (fun i σ H' => ∃ v6, σ = [some (.ref A.p), some (.ref tx), v2, v3, v4, v5, v6] ∧ Same H H' ∧ Keep [tx] H4 H' ∧ H' tx = some (.lst (bV (t2 ++ ((sortS p.borders).take i).flatMap (boL p)))))
      ⟨none, rfl, s34, Keep.same (Same.refl _), by rw [s4 _ _ ht]; simp⟩ (fun i σ H' _ ⟨_, _, _, kp, _⟩ => SqL.of (kp _ _ hb1 (by simp only [List.mem_singleton]; exact Ne.symm (ne_of_none ht hba)))) ?_ ?_⟩
    · rintro i y σ H' hi ⟨v6, rfl, hs', kp, ht'⟩
      obtain ⟨q, hq, rfl⟩ := getm hi
      obtain ⟨x, hx, hqx⟩ := paired_get hbp hq
      have hxm : x ∈ p.borders := (sortS_perm p.borders).mem_iff.mp (List.mem_of_getElem? hx)
      have hil : i < (sortS p.borders).length := (List.getElem?_eq_some_iff.mp hx).1
      have tp : ∀ {b : Addr} {xs : List V}, H4 b = some (.tup xs) → H' b = some (.tup xs) := fun {b xs} e => kp _ _ e (by simp only [List.mem_singleton]; exact ne_of e (s4 _ _ ht) (by intro z; cases z))
      have hl := flat_len (l := (sortS p.borders).take i) (g := boL p) (c := 20) fun y hy => boL_len wf y
      have hl2 := boL_len wf x
      simp only [List.length_take] at hl
      have h' := h.same hs'
      refine ⟨_, rfl, .inl ⟨rfl, _, SqL.of ht'⟩, _, rfl, _, rfl, A, p, x, q, rfl, h', tp hqx, (wf.bend x hxm).1, wf, fun l1 H5 hl1 s5 h5 => ?_⟩
      refine ⟨(by show 1 ≤ sizeLine; decide), fun wl hwl => ⟨"border", Yh.ascii "border", wl, [l1], [p.spotText x], rfl, (by decide +kernel), code_border, upd_same, .cons (.inl (by rw [upd_ne (ne_of_none h5 hwl)]; exact h5)) .nil, (by rw [← boL_line]; omega), fun l H6 hl' s6 h6 => ?_⟩⟩
      have s7 : Same H' H6 := (s5.trans (Same.new1 hwl)).trans s6
      refine ⟨tx, l, _, _, rfl, rfl, s7 _ _ ht', h6, (by rw [bV_length, bV_length, ← boL_line, List.length_append]; omega), _, rfl, Same.wr (hs'.trans s7) htx, (kp.trans (Keep.same s7)).trans (Keep.upd (by simp)), ?_⟩
      rw [upd_same, take_snoc hx, List.flatMap_append, ← boL_line, ← bV_append]
      simp
    rintro σ H5 ⟨v6, rfl, s5, _, ht⟩
    rw [List.length_map, hbl, List.take_length] at ht
    have h5 := h.same s5
    have hl3 := flat_len (l := sortS p.borders) (g := boL p) (c := 20) fun y hy => boL_len wf y
    rw [← List.append_assoc] at k
    generalize hT3 : t2 ++ (sortS p.borders).flatMap (boL p) = t3 at ht k
    have hlt3 : t3.length ≤ 60000 := by rw [← hT3, List.length_append]; omega
    refine ⟨_, rfl, A.p, A.dx, _, rfl, h5.obj, rfl, A, p, rfl, h5, fun ga gs H6 hga s6 hg1 hgp => ?_⟩
    have s56 := s5.trans s6
    have hgl : gs.length = (sortS p.signals).length := Paired.length hgp
    have hgla : (sortS p.signals).length = p.signals.length := (sortS_perm p.signals).length_eq
    have hg12 := wf.g12
    refine ⟨ga, rfl, ⟨_, SqL.of hg1⟩, for_list (K := K) (a := ga) (xs := gs.map V.ref) (fun i σ H' => ∃ v6, σ = [some (.ref A.p), some (.ref tx), v2, v3, v4, v5, v6] ∧ Same H H' ∧ Keep [tx] H6 H' ∧ H' tx = some (.lst (bV (t3 ++ ((sortS p.signals).take i).flatMap (siL p)))))
      ⟨v6, rfl, s56, Keep.same (Same.refl _), by rw [s6 _ _ ht]; simp⟩ (fun i σ H' _ ⟨_, _, _, kp, _⟩ => SqL.of (kp _ _ hg1 (by simp only [List.mem_singleton]; exact Ne.symm (ne_of_none ht hga)))) ?_ ?_⟩
    · rintro i y σ H' hi ⟨v6, rfl, hs', kp, ht'⟩
      obtain ⟨q, hq, rfl⟩ := getm hi
      obtain ⟨x, hx, hqx⟩ := paired_get hgp hq
      have hxm : x ∈ p.signals := (sortS_perm p.signals).mem_iff.mp (List.mem_of_getElem? hx)
      have hil : i < (sortS p.signals).length := (List.getElem?_eq_some_iff.mp hx).1
      have tp : ∀ {b : Addr} {xs : List V}, H6 b = some (.tup xs) → H' b = some (.tup xs) := fun {b xs} e => kp _ _ e (by simp only [List.mem_singleton]; exact ne_of e (s6 _ _ ht) (by intro z; cases z))
      have hl := flat_len (l := (sortS p.signals).take i) (g := siL p) (c := 20) fun y hy => siL_len wf y
      have hl2 := siL_len wf x
      simp only [List.length_take] at hl
      have h' := h.same hs'
      refine ⟨_, rfl, .inl ⟨rfl, _, SqL.of ht'⟩, _, rfl, _, rfl, A, p, x, q, rfl, h', tp hqx, (wf.gend x hxm).1, wf, fun l1 H7 hl1 s7 h7 => ?_⟩
      refine ⟨(by show 1 ≤ sizeLine; decide), fun wl hwl => ⟨"signal", Yh.ascii "signal", wl, [l1], [p.spotText x], rfl, (by decide +kernel), code_signal, upd_same, .cons (.inl (by rw [upd_ne (ne_of_none h7 hwl)]; exact h7)) .nil, (by rw [← siL_line]; omega), fun l H8 hl' s8 h8 => ?_⟩⟩
      have s9 : Same H' H8 := (s7.trans (Same.new1 hwl)).trans s8
      refine ⟨tx, l, _, _, rfl, rfl, s9 _ _ ht', h8, (by rw [bV_length, bV_length, ← siL_line, List.length_append]; omega), _, rfl, Same.wr (hs'.trans s9) htx, (kp.trans (Keep.same s9)).trans (Keep.upd (by simp)), ?_⟩
      rw [upd_same, take_snoc hx, List.flatMap_append, ← siL_line, ← bV_append]
      simp
    rintro σ H7 ⟨v6, rfl, s7, _, ht⟩
    rw [List.length_map, hgl, List.take_length] at ht
    exact ⟨_, rfl, k tx H7 htx s7 ht⟩
end
end YP
namespace YP
open Yh (Bytes Spot Sect Plan Step Route)
theorem lk_iff {l : List Jn} (h : (l.map (·.1)).Nodup) (x y : Spot) : lk l x = some y ↔ (x, y) ∈ l := by
  constructor
  · intro e
    unfold lk at e
    cases f : l.find? fun j => decide (j.1 = x) with
    | none => rw [f] at e; cases e
    | some j =>
      rw [f] at e
      have e2 : j.2 = y := Option.some.inj e
      have h1 := List.find?_some f
      have h2 := List.mem_of_find?_eq_some f
      have e1 : j.1 = x := by simpa using h1
      rw [← e1, ← e2]
      exact h2
  · intro m
    exact lk_nodup h (x, y) m
theorem both_perm {l m : List Jn} (h : l.Perm m) : (both l).Perm (both m) := h.flatMap_right _
theorem both_ori_perm : ∀ l : List Jn, (both (l.map ori)).Perm (both l)
  | [] => .refl _
  | j :: l => by
    have ih := both_ori_perm l
    have e : both (ori j :: l.map ori) = [((ori j).1, (ori j).2), ((ori j).2, (ori j).1)] ++ both (l.map ori) := rfl
    have e2 : both (j :: l) = [(j.1, j.2), (j.2, j.1)] ++ both l := rfl
    show (both (ori j :: l.map ori)).Perm _
    rw [e, e2]
    refine List.Perm.append ?_ ih
    unfold ori
    split
    · exact .refl _
    · exact .swap _ _ _
theorem form_both (p : Plan) : (both p.form.joins).Perm (both p.joins) := by
  rw [form_joins]
  exact (both_perm (sortJ_perm p.joins)).trans (both_ori_perm p.joins)
theorem form_partner {p : Plan} (w : Wf p) (x : Spot) : p.form.partner x = p.partner x := by
  rw [partner_lk, partner_lk]
  have hp := form_both p
  have n1 := w.jnd
  have n2 : ((both p.form.joins).map (·.1)).Nodup := ((hp.map (·.1)).nodup_iff).mpr n1
  cases e : lk (both p.joins) x with
  | none =>
    cases e2 : lk (both p.form.joins) x with
    | none => rfl
    | some y =>
      have := hp.mem_iff.mp ((lk_iff n2 x y).mp e2)
      rw [(lk_iff n1 x y).mpr this] at e
      cases e
  | some y => exact (lk_iff n2 x y).mpr (hp.mem_iff.mpr ((lk_iff n1 x y).mp e))
theorem form_kindAt (p : Plan) (i : Nat) : p.form.kindAt i = p.kindAt i := rfl
theorem form_isPlain (p : Plan) (i : Nat) : p.form.isPlain i = p.isPlain i := rfl
def mayS (p : Plan) (x : Spot) : Bool := p.isPlain x.1 && (p.signals.contains x || (p.partner x).isNone)
theorem stops_eq {p : Plan} (w : Wf p) (x : Spot) : p.form.stops x = mayS p x := by
  unfold Plan.stops mayS
  rw [form_isPlain, form_partner w, signalAt_some]
  have e1 : p.form.signals.contains x = p.signals.contains x := by
    rw [form_signals, Bool.eq_iff_iff]
    simp [(sortS_perm p.signals).mem_iff]
  have e2 : p.form.isBorder x = p.borders.contains x := by
    unfold Plan.isBorder
    rw [form_borders, Bool.eq_iff_iff]
    simp [(sortS_perm p.borders).mem_iff]
  rw [e1, e2]
  congr 1
  congr 1
  by_cases h : x ∈ p.borders
  · rw [(w.bend x h).2.2]
    simp
  · simp [h]
def nextW (p : Plan) (l : List Step) : List (List Step) := match l.getLast? with
  | none => []
  | some st => match p.partner (st.sect, st.out) with
    | none => []
    | some y => if (l.map (·.sect)).contains y.1 = true then [] else (Yh.outsOf (p.kindAt y.1) y.2).reverse.map fun o => l ++ [⟨y.1, y.2, o⟩]
def comp (p : Plan) : Nat → List Step → List (List Step)
  | 0, _ => []
  | f + 1, l => match l.getLast? with
    | none => []
    | some st => if mayS p (st.sect, st.out) = true then [l.tail] else (nextW p l).reverse.flatMap (comp p f)
def nextU (p : Plan) (l : List Step) (y : Spot) : List (List Step) := if (l.map (·.sect)).contains y.1 = true then [] else (Yh.outsOf (p.kindAt y.1) y.2).map fun o => l ++ [⟨y.1, y.2, o⟩]
theorem nextW_some {p : Plan} {l : List Step} {st : Step} {y : Spot} (h : l.getLast? = some st) (h2 : p.partner (st.sect, st.out) = some y) : (nextW p l).reverse = nextU p l y := by
  unfold nextW nextU
  rw [h]
  simp only
  rw [h2]
  simp only
  split
  · rfl
  · rw [← List.map_reverse, List.reverse_reverse]
theorem nextW_none {p : Plan} {l : List Step} {st : Step} (h : l.getLast? = some st) (h2 : p.partner (st.sect, st.out) = none) : nextW p l = [] := by
  unfold nextW
  rw [h]
  simp only
  rw [h2]
theorem comp_ways {p : Plan} (w : Wf p) : ∀ (f : Nat) (l : List Step) (had : List Nat) (y : Spot), l ≠ [] → (∀ s, s ∈ had ↔ s ∈ l.map (·.sect)) → (nextU p l y).flatMap (comp p f) = (p.form.ways f had y).map fun s => l.tail ++ s
  | 0, l, had, y, _, _ => by
    have e : ∀ L : List (List Step), L.flatMap (comp p 0) = [] := by
      intro L
      induction L with
      | nil => rfl
      | cons a L ih => rw [List.flatMap_cons, ih]; rfl
    rw [e]
    rfl
  | f + 1, l, had, y, hl, hh => by
    unfold Plan.ways nextU
    have hc : had.contains y.1 = (l.map (·.sect)).contains y.1 := by
      rw [Bool.eq_iff_iff]
      simp only [List.contains_iff_mem]
      exact hh y.1
    rw [hc, form_kindAt]
    split
    · rfl
    · rw [List.flatMap_map, List.map_flatMap]
      congr 1
      funext o
      have hlast : (l ++ [(⟨y.1, y.2, o⟩ : Step)]).getLast? = some ⟨y.1, y.2, o⟩ := by simp
      have ht : (l ++ [(⟨y.1, y.2, o⟩ : Step)]).tail = l.tail ++ [⟨y.1, y.2, o⟩] := by
        cases l with
        | nil => exact absurd rfl hl
        | cons a l => rfl
      show (match (l ++ [(⟨y.1, y.2, o⟩ : Step)]).getLast? with
        | none => []
        | some st => if mayS p (st.sect, st.out) = true then [(l ++ [(⟨y.1, y.2, o⟩ : Step)]).tail] else (nextW p (l ++ [(⟨y.1, y.2, o⟩ : Step)])).reverse.flatMap (comp p f)) = _
      rw [hlast]
      simp only
      rw [stops_eq w, form_partner w]
      by_cases hm : mayS p (y.1, o) = true
      · rw [if_pos hm, if_pos hm, ht]
        rfl
      · rw [if_neg hm, if_neg hm]
        cases hp : p.partner (y.1, o) with
        | none =>
          rw [nextW_none hlast hp]
          rfl
        | some z =>
          have hh' : ∀ s, s ∈ y.1 :: had ↔ s ∈ (l ++ [(⟨y.1, y.2, o⟩ : Step)]).map (·.sect) := by
            intro s
            simp only [List.mem_cons, List.map_append, List.mem_append, List.map_cons, List.map_nil, List.not_mem_nil, or_false]
            rw [hh s]
            exact Or.comm
          have e := comp_ways w f (l ++ [(⟨y.1, y.2, o⟩ : Step)]) (y.1 :: had) z (by simp) hh'
          rw [nextW_some hlast hp, e, ht]
          simp only [List.map_map]
          congr 1
          funext s
          simp only [Function.comp]
          simp
theorem ph : ∀ (n : Nat) (l : List Nat), l.Nodup → (∀ x ∈ l, x < n) → l.length ≤ n
  | 0, l, _, h => by
    cases l with
    | nil => simp
    | cons a l => exact absurd (h a (List.mem_cons_self ..)) (by omega)
  | n + 1, l, hn, h => by
    have ih := ph n (l.erase n) (hn.erase n) fun x hx => by
      have h1 := (List.Nodup.mem_erase_iff hn).mp hx
      have := h x h1.2
      have := h1.1
      omega
    by_cases hm : n ∈ l
    · rw [List.length_erase_of_mem hm] at ih
      omega
    · rw [List.erase_of_not_mem hm] at ih
      omega
structure GoodW (p : Plan) (l : List Step) : Prop where
  ne : l ≠ []
  nd : (l.map (·.sect)).Nodup
  lt : ∀ st ∈ l, st.sect < p.sects.length
theorem GoodW.len {p : Plan} (w : Wf p) {l : List Step} (g : GoodW p l) : 1 ≤ l.length ∧ l.length ≤ 16 := by
  refine ⟨List.length_pos_iff.mpr g.ne, ?_⟩
  have := ph p.sects.length (l.map (·.sect)) g.nd (fun x hx => by
    obtain ⟨st, h1, rfl⟩ := List.mem_map.mp hx
    exact g.lt st h1)
  rw [List.length_map] at this
  have := w.s16
  omega
theorem partner_end {p : Plan} (w : Wf p) {x y : Spot} (h : p.partner x = some y) : p.isEnd y = true := by
  rw [partner_lk] at h
  have h1 := (lk_iff w.jnd x y).mp h
  obtain ⟨j, hj, e⟩ := List.mem_flatMap.mp h1
  simp only [List.mem_cons, List.not_mem_nil, or_false, Prod.mk.injEq] at e
  rcases e with ⟨_, e2⟩ | ⟨_, e2⟩
  · rw [e2]
    exact w.jend (j.2, j.1) (List.mem_flatMap.mpr ⟨j, hj, by simp⟩)
  · rw [e2]
    exact w.jend (j.1, j.2) (List.mem_flatMap.mpr ⟨j, hj, by simp⟩)
theorem outs_len (k e : Nat) : (Yh.outsOf k e).length ≤ 2 := by
  unfold Yh.outsOf
  split
  · simp
  · split
    · split <;> simp
    · split
      · simp
      · split
        · simp
        · split <;> simp
theorem nextW_good {p : Plan} (w : Wf p) {l : List Step} (g : GoodW p l) : (nextW p l).length ≤ 2 ∧ ∀ m ∈ nextW p l, GoodW p m ∧ m.length = l.length + 1 := by
  cases hl : l.getLast? with
  | none => unfold nextW; rw [hl]; exact ⟨by simp, fun m hm => by simp at hm⟩
  | some st =>
    cases hp : p.partner (st.sect, st.out) with
    | none => rw [nextW_none hl hp]; exact ⟨by simp, fun m hm => by simp at hm⟩
    | some y =>
      unfold nextW
      rw [hl]
      simp only
      rw [hp]
      simp only
      split
      · exact ⟨by simp, fun m hm => by simp at hm⟩
      · rename_i hc
        refine ⟨by rw [List.length_map, List.length_reverse]; exact outs_len _ _, fun m hm => ?_⟩
        obtain ⟨o, _, rfl⟩ := List.mem_map.mp hm
        have hy := partner_end w hp
        unfold Plan.isEnd at hy
        simp only [Bool.and_eq_true, decide_eq_true_eq] at hy
        refine ⟨⟨by simp, ?_, ?_⟩, by simp⟩
        · rw [List.map_append]
          refine L2.nd_snoc g.nd ?_
          simpa using hc
        · intro s hs
          rcases List.mem_append.mp hs with z | z
          · exact g.lt s z
          · rw [List.mem_singleton.mp z]
            exact hy.1
def pot (b : Nat) (ws : List (List Step)) : Nat := (ws.map fun l => b ^ (19 - l.length)).sum
theorem pot_append (b : Nat) (l m : List (List Step)) : pot b (l ++ m) = pot b l + pot b m := by
  unfold pot
  rw [List.map_append, List.sum_append]
theorem pot_one (b : Nat) (l : List Step) : pot b [l] = b ^ (19 - l.length) := by simp [pot]
theorem pot_const {b n : Nat} : ∀ {ws : List (List Step)}, (∀ m ∈ ws, m.length = n) → pot b ws = ws.length * b ^ (19 - n)
  | [], _ => by simp [pot]
  | a :: ws, h => by
    have ih := pot_const (b := b) (n := n) (ws := ws) fun m hm => h m (List.mem_cons_of_mem _ hm)
    have ha := h a (List.mem_cons_self ..)
    rw [show a :: ws = [a] ++ ws from rfl, pot_append, pot_one, ih, ha, List.length_append, Nat.add_mul]
    simp
theorem comp_unf {p : Plan} {l : List Step} {st : Step} (h : l.getLast? = some st) (hl : l.length ≤ 16) : comp p (19 - l.length) l = if mayS p (st.sect, st.out) = true then [l.tail] else (nextW p l).reverse.flatMap (comp p (19 - (l.length + 1))) := by
  have e : 19 - l.length = (19 - (l.length + 1)) + 1 := by omega
  rw [e]
  show (match l.getLast? with
    | none => []
    | some st => if mayS p (st.sect, st.out) = true then [l.tail] else (nextW p l).reverse.flatMap (comp p (19 - (l.length + 1)))) = _
  rw [h]
def todo (p : Plan) (ws : List (List Step)) : List (List Step) := ws.reverse.flatMap fun l => comp p (19 - l.length) l
theorem todo_append (p : Plan) (a b : List (List Step)) : todo p (a ++ b) = todo p b ++ todo p a := by
  unfold todo
  rw [List.reverse_append, List.flatMap_append]
theorem todo_const {p : Plan} {ws : List (List Step)} {n : Nat} (h : ∀ m ∈ ws, m.length = n) : todo p ws = ws.reverse.flatMap (comp p (19 - n)) := by
  unfold todo
  have : ∀ (L : List (List Step)), (∀ m ∈ L, m.length = n) → (L.flatMap fun l => comp p (19 - l.length) l) = L.flatMap (comp p (19 - n)) := by
    intro L
    induction L with
    | nil => intro _; rfl
    | cons a L ih =>
      intro hL
      rw [List.flatMap_cons, List.flatMap_cons, ih fun m hm => hL m (List.mem_cons_of_mem _ hm), hL a (List.mem_cons_self ..)]
  exact this _ fun m hm => h m (by simpa using hm)
theorem todo_snoc {p : Plan} (w : Wf p) {ws : List (List Step)} {l : List Step} {st : Step} (g : GoodW p l) (h : l.getLast? = some st) :
    todo p (ws ++ [l]) = if mayS p (st.sect, st.out) = true then l.tail :: todo p ws else todo p (ws ++ nextW p l) := by
  rw [todo_append, todo_append]
  have e : todo p [l] = comp p (19 - l.length) l := by simp [todo]
  rw [e, comp_unf h (g.len w).2]
  split
  · rfl
  · rw [todo_const (fun m hm => ((nextW_good w g).2 m hm).2)]
end YP
namespace YP
open PySem PySem.Spec PyProof.Rows L2
open Yh (Bytes Spot Sect Plan Route)
theorem lc_revT {K : PySem.W.Frag} {a : Addr} {xs : List V} {g : TG} {tt : TT} {te : TE} {vs : List Nat} {σ : L2.St} {H1 : Hp} {D : Addr} {Qd : Hp → Prop} (Pv : Nat → Hp → Prop) (h0 : Pv 0 (upd H1 D (.lst []))) (hl : ∀ i H, i ≤ xs.length → Pv i H → SqT K H a xs)
    (hs : ∀ i x H, xs.reverse[i]? = some x → Pv i H → g x (wipe σ vs) H fun σ2 H2 => wipe σ2 vs = wipe σ vs ∧ tt σ2 H2 fun b H3 =>
      if b = true then te σ2 H3 fun y H4 => ∃ acc, H4 D = some (.lst acc) ∧ acc.length < sizeLine ∧ Pv (i + 1) (upd H4 D (.lst (acc ++ [y]))) else Pv (i + 1) H3) (hd : ∀ H, Pv xs.length H → Qd H) :
    ∃ W : Nat → Nat → Hp → Prop, (∃ m, W 0 m (upd H1 D (.lst []))) ∧ ∀ i m H, W i m H →
      ((ItvT K a xs.length).stop i H ∧ Qd H) ∨ ((ItvT K a xs.length).go i H ∧ ∃ Nx : Hp → Prop, (∀ H', Nx H' → ∃ m', m' < m ∧ W (i + 1) m' H') ∧ ∀ x H', (ItvT K a xs.length).yld i H x H' → g x (wipe σ vs) H' fun σ2 H2 => wipe σ2 vs = wipe σ vs ∧ tt σ2 H2 fun b H3 =>
        if b = true then te σ2 H3 fun y H4 => ∃ acc, H4 D = some (.lst acc) ∧ acc.length < sizeLine ∧ Nx (upd H4 D (.lst (acc ++ [y]))) else Nx H3) := by
  refine ⟨fun i m H => m = xs.length - i ∧ i ≤ xs.length ∧ Pv i H, ⟨xs.length, by simp, Nat.zero_le _, h0⟩, ?_⟩
  rintro i m H ⟨rfl, hi, p⟩
  have q := hl i H hi p
  by_cases hlt : i < xs.length
  · refine .inr ⟨⟨hlt, xs, xs[xs.length - 1 - i]'(by omega), q, List.getElem?_eq_getElem (by omega)⟩, Pv (i + 1), fun H' p' => ⟨xs.length - (i + 1), by omega, rfl, hlt, p'⟩, fun x H' y => ?_⟩
    obtain ⟨e, y⟩ := y
    subst e
    refine hs i x _ ?_ p
    rw [List.getElem?_reverse hlt]
    exact y xs q
  · have e : i = xs.length := by omega
    subst e
    exact .inl ⟨Nat.le_refl _, hd H p⟩
abbrev stV (st : Yh.Step) : List V := [.int (st.sect : Int), .int (st.inn : Int), .int (st.out : Int)]
abbrev StepsAt (H : Hp) (ts : List Addr) (l : List Yh.Step) : Prop := Paired (fun t st => H t = some (.tup (stV st))) ts l
def wayR (H : Hp) (a : Addr) (l : List Yh.Step) : Prop := ∃ ts, H a = some (.tup (ts.map V.ref)) ∧ StepsAt H ts l
theorem wayR.keep {H H' : Hp} (h : Tups H H') {a : Addr} {l : List Yh.Step} (r : wayR H a l) : wayR H' a l := by
  obtain ⟨ts, h1, h2⟩ := r
  exact ⟨ts, h _ _ h1, paired_imp h2 fun _ _ _ e => h _ _ e⟩
theorem inV_nat (s : Nat) : ∀ l : List Nat, inV (.int (s : Int)) (l.map fun (x : Nat) => V.int (x : Int)) = l.contains s
  | [] => rfl
  | x :: l => by
    have ih := inV_nat s l
    unfold inV at ih ⊢
    rw [List.map_cons, List.any_cons, ih, List.contains_cons]
    congr 1
    show (((x : Int) == (s : Int)) : Bool) = (s == x)
    rw [Bool.eq_iff_iff]
    simp
    constructor
    · intro h; omega
    · intro h; omega
theorem flat_nat (l : List Nat) : (l.map fun (x : Nat) => V.int (x : Int)).all flatV = true := by
  induction l with
  | nil => rfl
  | cons x l ih => rw [List.map_cons, List.all_cons, ih]; rfl
theorem ThR_get {K : PySem.W.Frag} {a : Addr} (h : ThR K a) {k e : Nat} (hk : k ≤ 2) (he : e < Yh.endsOf k) : ∃ xs r ys b, MT K a xs ∧ xs[k]? = some (.ref r) ∧ MT K r ys ∧ ys[e]? = some (.ref b) ∧ MT K b ((Yh.outsOf k e).map fun (o : Nat) => V.int (o : Int)) := by
  obtain ⟨a0, a1, a2, b00, b01, b10, b11, b12, b20, b21, b22, b23, h1, h2, h3, h4, c1, c2, c3, c4, c5, c6, c7, c8, c9⟩ := h
  have : k = 0 ∨ k = 1 ∨ k = 2 := by omega
  rcases this with rfl | rfl | rfl
  · have he : e < 2 := he
    have : e = 0 ∨ e = 1 := by omega
    rcases this with rfl | rfl
    · exact ⟨_, a0, _, b00, h1, rfl, h2, rfl, c1⟩
    · exact ⟨_, a0, _, b01, h1, rfl, h2, rfl, c2⟩
  · have he : e < 3 := he
    have : e = 0 ∨ e = 1 ∨ e = 2 := by omega
    rcases this with rfl | rfl | rfl
    · exact ⟨_, a1, _, b10, h1, rfl, h3, rfl, c3⟩
    · exact ⟨_, a1, _, b11, h1, rfl, h3, rfl, c4⟩
    · exact ⟨_, a1, _, b12, h1, rfl, h3, rfl, c5⟩
  · have he : e < 4 := he
    have : e = 0 ∨ e = 1 ∨ e = 2 ∨ e = 3 := by omega
    rcases this with rfl | rfl | rfl | rfl
    · exact ⟨_, a2, _, b20, h1, rfl, h4, rfl, c6⟩
    · exact ⟨_, a2, _, b21, h1, rfl, h4, rfl, c7⟩
    · exact ⟨_, a2, _, b22, h1, rfl, h4, rfl, c8⟩
    · exact ⟨_, a2, _, b23, h1, rfl, h4, rfl, c9⟩
section
variable {P : Program} {w : World} {K : PySem.W.Frag} {mg : Str → Option Value} {base : Heap} {CP CB : Addr}
def spMayStop (CP : Addr) : Sp := fun vs H Q _ => ∃ (A : PA) (p : Plan) (a : Addr) (st : Yh.Step) (y : Sect), vs = [.ref A.p, .ref a] ∧ PlanAt CP H A p ∧ H a = some (.tup (stV st)) ∧ p.sects[st.sect]? = some y ∧ retV H Q (.bl (mayS p (st.sect, st.out)))
theorem fn_may_stop (T : Txt K mg CP CB) : Fn P w K mg base 2 "may_stop" ["plan", "step"] (spMayStop CP) := by
  refine T.f_may_stop.ok sc_may_stop (fun vs H Q E h => ?_) (fun f cdv A' outer s H vs Q E hr h => ?_)
  · obtain ⟨A, p, a, st, y, rfl, _⟩ := h
    rfl
  · obtain ⟨A, p, a, st, y, rfl, h, ha, hy, k⟩ := h
    have hsl := sizeLine_eq
    refine ⟨_, (pss_cons (ps_set (i := 2) sc_may_stop.nd rfl (by first | exact Or.inl rfl | exact Or.inr rfl) (pe_tup (pa_cons (pe_ix ix_tup (pv 1) pe_int (fun _ _ => rfl)) (pa_cons (pe_ix ix_tup (pv 1) pe_int (fun _ _ => rfl)) pa_nil))))
      (pss_cons (ps_if (pt_cmpR op_ne (pe_mt (pv 0) (mt_Plan_section_kind T) (hr.mono (by decide)) (pa_cons (pe_ix ix_tup (pv 1) pe_int (fun _ _ => rfl)) pa_nil)) (pe_gint rfl T.c_PLAIN) (nomark _)) (pss_one (ps_ret pe_bl)) pss_nil)
      (pss_one (ps_ret (pe_or (pe_cmp (pc_din (hu_of hr) (pv 2) (pe_fld (pv 0) rfl))) (pe_one (pe_cmp (pc_dnotin (hu_of hr) (pv 2) (pe_fld (pv 0) rfl))))))))), ?_⟩
    refine ⟨_, rfl, a, _, _, _, rfl, rfl, SqT.of ha, atI_nat (j := 0) rfl, _, rfl, a, _, _, _, rfl, rfl, SqT.of ha, atI_nat (j := 2) rfl, (by show 2 ≤ sizeLine; decide), fun e he => ?_⟩
    have s1 : Same H (upd H e (.tup (spV (st.sect, st.out)))) := Same.new1 he
    have h1 := h.same s1
    have hpl := plain_eq hy
    obtain ⟨kvs, hj1, hj2, _⟩ := h1.joined (st.sect, st.out)
    refine ⟨_, rfl, A.p, A.dx, _, rfl, h1.obj, rfl, _, rfl, a, _, _, _, rfl, rfl, SqT.of (s1 _ _ ha), atI_nat (j := 0) rfl, A, p, st.sect, y, rfl, h1, hy, rfl, _, rfl, ?_⟩
    show if (!decide (V.int (y.kind : Int) = V.int ((0 : Nat) : Int))) = true then _ else _
    rw [decI]
    unfold mayS at k
    simp only at k
    rw [hpl] at k
    refine ite2 (fun z => ?_) (fun z => ?_)
    · have z' : decide (y.kind = 0) = false := by simpa using z
      rw [z', Bool.false_and] at k
      exact k _ s1
    · rw [nn z, Bool.true_and] at k
      refine ⟨_, rfl, _, rfl, A.p, CP, A.dx, _, _, rfl, h1.obj, T.cP, T.nP_signals, pf_signals A, A.g, _, rfl, DGet.t (k := spK (st.sect, st.out)) h1.sigs upd_same, _, rfl, ?_⟩
      rw [ones_some]
      refine ite2 (fun z => ?_) (fun z => ?_)
      · rw [z, Bool.true_or] at k
        exact k _ s1
      · rw [bfalse z, Bool.false_or] at k
        refine ⟨_, rfl, _, rfl, A.p, CP, A.dx, _, _, rfl, h1.obj, T.cP, T.nP_joined, pf_joined A, A.j, _, rfl, DGet.t (k := spK (st.sect, st.out)) hj1 upd_same, ?_⟩
        rw [hj2]
        have e : (!(p.partner (st.sect, st.out)).isSome) = (p.partner (st.sect, st.out)).isNone := by cases p.partner (st.sect, st.out) <;> rfl
        rw [e]
        exact k _ s1
abbrev WaysAt (H : Hp) (ws : List Addr) (ls : List (List Yh.Step)) : Prop := Paired (wayR H) ws ls
abbrev retW (H : Hp) (Q : VK) (ls : List (List Yh.Step)) : Prop := ∀ (q : Addr) (ws : List Addr) (H' : Hp), H q = none → Same H H' → H' q = some (.lst (ws.map V.ref)) → WaysAt H' ws ls → Q (.ref q) H'
def spWaysOn (CP : Addr) : Sp := fun vs H Q _ => ∃ (A : PA) (p : Plan) (a : Addr) (l : List Yh.Step), vs = [.ref A.p, .ref a] ∧ PlanAt CP H A p ∧ Wf p ∧ wayR H a l ∧ GoodW p l ∧ retW H Q (nextW p l)
theorem fn_ways_on (T : Txt K mg CP CB) : Fn P w K mg base 2 "ways_on" ["plan", "way"] (spWaysOn CP) := by
  refine T.f_ways_on.ok sc_ways_on (fun vs H Q E h => ?_) (fun f cdv A' outer s H vs Q E hr h => ?_)
  · obtain ⟨A, p, a, l, rfl, _⟩ := h
    rfl
  · obtain ⟨A, p, a, l, rfl, h, wf, ⟨ts, hts, hst⟩, g, k⟩ := h
    have hsl := sizeLine_eq
    have hlen := g.len wf
    obtain ⟨ts', t, ets, hst', ht⟩ := paired_last hst g.ne
    have hlast : l.getLast? = some (l.getLast g.ne) := List.getLast?_eq_some_getLast g.ne
    generalize l.getLast g.ne = st at ht hlast
    have htl : ts.length = l.length := Paired.length hst
    have hat : atI (ts.map V.ref) (-1) = some (.ref t) := by
      rw [ets, List.map_append]
      exact atI_last _ _
    refine ⟨_, (pss_cons (ps_set (i := 2) sc_ways_on.nd rfl (by first | exact Or.inl rfl | exact Or.inr rfl) (pe_tup (pa_cons (pe_ix ix_tup (pe_ix ix_tup (pv 1) (pe_un un_neg pe_int) (fun _ _ => rfl)) pe_int (fun _ _ => rfl)) (pa_cons (pe_ix ix_tup (pe_ix ix_tup (pv 1) (pe_un un_neg pe_int) (fun _ _ => rfl)) pe_int (fun _ _ => rfl)) pa_nil))))
      (pss_cons (ps_if (pt_cmp (pc_dnotin (hu_of hr) (pv 2) (pe_fld (pv 0) rfl))) (pss_one (ps_ret (pe_lst pa_nil))) pss_nil)
      (pss_cons (ps_set (i := 3) sc_ways_on.nd rfl (by first | exact Or.inl rfl | exact Or.inr rfl) (pe_dget (hu_of hr) (pe_fld (pv 0) rfl) (pv 2) (fun _ _ => rfl)))
      (pss_cons (ps_set (i := 4) sc_ways_on.nd rfl (by first | exact Or.inl rfl | exact Or.inr rfl) (pe_ix ix_tup (pv 3) pe_int (fun _ _ => rfl)))
      (pss_cons (ps_if (pt_cmpR op_in_seq (pv 4) (pe_lc (own := [("step", 5)]) rfl sc_ways_on.nd (pi_tup (pv 1)) (blkOk_by (N := ["plan", "way", "left", "entered", "section", "step", "exits", "end"]) (sc := defScope s_ways_on) (by decide +kernel)) (fun _ _ _ _ _ => (pg_name (i := 5) sc_ways_on.nd rfl (by first | exact Or.inl rfl | exact Or.inr rfl))) (fun _ _ _ _ _ => pts_nil) (fun _ _ _ _ _ => (pe_ix (ix_tupK (K := K) rfl) (pv 5) pe_int (fun _ _ => rfl)))) rfl) (pss_one (ps_ret (pe_lst pa_nil))) pss_nil)
      (pss_cons (ps_set (i := 6) sc_ways_on.nd rfl (by first | exact Or.inl rfl | exact Or.inr rfl) (pe_ix ix_tup (pe_ix ix_tup (pe_gtup rfl T.t_THROUGH) (pe_mt (pv 0) (mt_Plan_section_kind T) (hr.mono (by decide)) (pa_cons (pv 4) pa_nil)) (fun _ _ => rfl)) (pe_ix ix_tup (pv 3) pe_int (fun _ _ => rfl)) (fun _ _ => rfl)))
      (pss_one (ps_ret (pe_lc (own := [("end", 7)]) rfl sc_ways_on.nd (pi_revT rfl T.b_reversed (pa_cons (pv 6) pa_nil)) (blkOk_by (N := ["plan", "way", "left", "entered", "section", "step", "exits", "end"]) (sc := defScope s_ways_on) (by decide +kernel)) (fun _ _ _ _ _ => (pg_name (i := 7) sc_ways_on.nd rfl (by first | exact Or.inl rfl | exact Or.inr rfl))) (fun _ _ _ _ _ => pts_nil) (fun _ _ _ _ _ => (pe_op (op_catTK (K := K) rfl) (pv 1) (pe_tup (pa_cons (pe_tup (pa_cons (pv 4) (pa_cons (pe_ix (ix_tupK (K := K) rfl) (pv 3) pe_int (fun _ _ => rfl)) (pa_cons (pv 7) pa_nil)))) pa_nil))))))))))))), ?_⟩
    refine ⟨_, rfl, _, rfl, a, _, _, .ref t, rfl, rfl, SqT.of hts, hat, t, _, _, _, rfl, rfl, SqT.of ht, atI_nat (j := 0) rfl, _, rfl, _, rfl, a, _, _, .ref t, rfl, rfl, SqT.of hts, hat, t, _, _, _, rfl, rfl, SqT.of ht, atI_nat (j := 2) rfl, (by show 2 ≤ sizeLine; decide), fun le hle => ?_⟩
    have s1 : Same H (upd H le (.tup (spV (st.sect, st.out)))) := Same.new1 hle
    have h1 := h.same s1
    obtain ⟨kvs, hj1, hj2, hj3⟩ := h1.joined (st.sect, st.out)
    refine ⟨_, rfl, _, rfl, A.p, CP, A.dx, _, _, rfl, h1.obj, T.cP, T.nP_joined, pf_joined A, A.j, _, rfl, DGet.t (k := spK (st.sect, st.out)) hj1 upd_same, _, rfl, ?_⟩
    rw [hj2]
    cases hp : p.partner (st.sect, st.out) with
    | none =>
      rw [nextW_none hlast hp] at k
      exact iteT ⟨Nat.zero_le _, fun q hq => k q [] _ (s1.free hq) (Same.new s1 hq) upd_same .nil⟩
    | some y =>
      refine iteF ?_
      obtain ⟨c, hc, hc2⟩ := hj3 y hp
      have dg : DGet (upd H le (.tup (spV (st.sect, st.out)))) A.j (.ref le) (some (.ref c)) := by rw [← hc]; exact DGet.t (k := spK (st.sect, st.out)) hj1 upd_same
      have hy := partner_end wf hp
      obtain ⟨hy1, hy2⟩ := isEnd_lt hy
      obtain ⟨z, hz⟩ : ∃ z, p.sects[y.1]? = some z := ⟨_, List.getElem?_eq_getElem hy1⟩
      have hkz := wf.kinds z (List.mem_of_getElem? hz)
      have hkat : p.kindAt y.1 = z.kind := by unfold Plan.kindAt; rw [hz]
      have hye : y.2 < Yh.endsOf z.kind := by
        unfold Plan.isEnd at hy
        simp only [Bool.and_eq_true, decide_eq_true_eq] at hy
        rw [hkat] at hy
        exact hy.2
      have ek : nextW p l = if (l.map (·.sect)).contains y.1 = true then [] else (Yh.outsOf (p.kindAt y.1) y.2).reverse.map fun o => l ++ [⟨y.1, y.2, o⟩] := by
        unfold nextW
        rw [hlast]
        simp only
        rw [hp]
      rw [ek] at k
      refine ⟨_, rfl, A.p, CP, A.dx, _, _, rfl, h1.obj, T.cP, T.nP_joined, pf_joined A, _, rfl, A.j, .ref c, rfl, dg, ?_⟩
      refine ⟨_, rfl, c, _, _, _, rfl, rfl, SqT.of hc2, atI_nat (j := 0) rfl, ?_⟩
      refine ⟨_, rfl, _, rfl, a, rfl, ⟨_, SqT.of (s1 _ _ hts)⟩, fun D hD => lc_tup (K := K) (a := a) (xs := ts.map V.ref) (fun i H' => Same (upd H le (.tup (spV (st.sect, st.out)))) H' ∧ H' D = some (.lst ((((l.take i).map (·.sect)).map fun (x : Nat) => V.int (x : Int)))))
        ⟨Same.new1 hD, upd_same⟩ (fun i H' _ q => SqT.of (q.1 _ _ (s1 _ _ hts))) ?_ ?_⟩
      · rintro i v H' hi ⟨hs, hd⟩
        obtain ⟨t', ht', rfl⟩ := getm hi
        obtain ⟨st', hst1, hst2⟩ := paired_get hst ht'
        have hil : i < l.length := (List.getElem?_eq_some_iff.mp hst1).1
        refine ⟨rfl, yes_of ⟨_, rfl, t', _, _, _, rfl, rfl, SqT.of (hs _ _ (s1 _ _ hst2)), atI_nat (j := 0) rfl, _, hd, ?_, Same.wr hs hD, ?_⟩⟩
        · simp
          omega
        · rw [upd_same, take_snoc hst1, List.map_append, List.map_append]
          rfl
      · rintro H2 ⟨s2, hd⟩
        rw [List.length_map, htl, List.take_length] at hd
        refine ⟨D, _, rfl, .inl (SqL.of hd), rfl, flat_nat _, _, rfl, ?_⟩
        have s12 := s1.trans s2
        show if inV (V.int (y.1 : Int)) _ = true then _ else _
        rw [inV_nat]
        refine ite2 (fun q => ?_) (fun q => ?_)
        · rw [if_pos q] at k
          exact ⟨Nat.zero_le _, fun q' hq' => k q' [] _ (s12.free hq') (Same.new s12 hq') upd_same .nil⟩
        · rw [if_neg q, hkat] at k
          have h2 := h.same s12
          intro th hth
          obtain ⟨xs, r, ys, b, m1, m2, m3, m4, m5⟩ := ThR_get hth hkz hye
          refine ⟨_, rfl, A.p, A.dx, _, rfl, h2.obj, rfl, _, rfl, A, p, y.1, z, rfl, h2, hz, th, _, _, _, rfl, rfl, m1 _, atI_nat m2, _, rfl, c, _, _, _, rfl, rfl, SqT.of (s2 _ _ hc2), atI_nat (j := 1) rfl, r, _, _, _, rfl, rfl, m3 _, atI_nat m4, ?_⟩
          refine ⟨_, rfl, b, _, rfl, m5 _, fun D2 hD2 => ?_⟩
          have s12D : H D2 = none := s12.free hD2
          refine lc_revT (K := K) (a := b) (xs := (Yh.outsOf z.kind y.2).map fun (o : Nat) => V.int (o : Int)) (fun i H' => Same H2 H' ∧ ∃ ws, H' D2 = some (.lst (ws.map V.ref)) ∧ ws.length = i ∧ WaysAt H' ws ((((Yh.outsOf z.kind y.2).reverse.map fun o => l ++ [(⟨y.1, y.2, o⟩ : Yh.Step)])).take i))
            ⟨Same.new1 hD2, [], upd_same, rfl, .nil⟩ (fun i H' _ _ => m5 _) ?_ ?_
          · rintro i v H' hi ⟨hs, ws, hw1, hw2, hw3⟩
            rw [← List.map_reverse] at hi
            obtain ⟨o, ho, rfl⟩ := getm hi
            have hil : i < (Yh.outsOf z.kind y.2).length := by have := (List.getElem?_eq_some_iff.mp ho).1; simpa using this
            have hol := outs_len z.kind y.2
            have sH : Same H H' := s12.trans hs
            refine ⟨rfl, yes_of ⟨_, rfl, _, rfl, _, rfl, c, _, _, _, rfl, rfl, SqT.of (hs _ _ (s2 _ _ hc2)), atI_nat (j := 1) rfl, _, rfl, (by show 3 ≤ sizeLine; decide), fun t1 ht1 => ⟨(by show 1 ≤ sizeLine; decide), fun t2 ht2 => ?_⟩⟩⟩
            have s3 : Same H' (upd H' t1 (.tup (stV ⟨y.1, y.2, o⟩))) := Same.new1 ht1
            have s4 : Same H' (upd (upd H' t1 (.tup (stV ⟨y.1, y.2, o⟩))) t2 (.tup [.ref t1])) := Same.new s3 ht2
            refine ⟨a, t2, _, _, rfl, rfl, SqT.of (s4 _ _ (sH _ _ hts)), SqT.of upd_same, ?_, ?_, ?_, ?_⟩
            · rw [ets]; simp
            · simp; omega
            · exact fun q => by cases q
            intro _ r' hr'
            · have s5 := Same.new (o := .tup (ts.map V.ref ++ [.ref t1])) s4 hr'
              refine ⟨_, s5 _ _ hw1, (by rw [List.length_map]; omega), Same.wr (hs.trans s5) hD2, ws ++ [r'], ?_, (by simp; omega), ?_⟩
              · rw [upd_same]; simp
              · have hgm : ((Yh.outsOf z.kind y.2).reverse.map fun o => l ++ [(⟨y.1, y.2, o⟩ : Yh.Step)])[i]? = some (l ++ [⟨y.1, y.2, o⟩]) := by rw [List.getElem?_map, ho]; rfl
                rw [take_snoc hgm]
                have tups : Tups H' (upd (upd (upd (upd H' t1 (.tup (stV ⟨y.1, y.2, o⟩))) t2 (.tup [.ref t1])) r' (.tup (ts.map V.ref ++ [.ref t1]))) D2 (.lst (ws.map V.ref ++ [.ref r']))) := fun b xs e => by
                  rw [upd_ne (ne_of e hw1 (by intro z; cases z))]
                  exact s5 _ _ e
                have nr : r' ≠ D2 := fun q => by rw [q, s4 _ _ hw1] at hr'; cases hr'
                have nt : t1 ≠ D2 := fun q => by rw [q, hw1] at ht1; cases ht1
                have nt2 : t1 ≠ t2 := ne_of_none upd_same ht2
                have ntr : t1 ≠ r' := ne_of_none (by rw [upd_ne nt2]; exact upd_same) hr'
                refine paired_snoc (paired_imp hw3 fun _ _ _ q => q.keep tups) ⟨ts ++ [t1], ?_, paired_snoc (paired_imp hst fun _ _ _ e => tups _ _ (sH _ _ e)) ?_⟩
                · rw [upd_ne nr, upd_same]; simp
                · rw [upd_ne nt, upd_ne ntr, upd_ne nt2, upd_same]
          · rintro H3 ⟨s3, ws, hw1, hw2, hw3⟩
            rw [List.take_of_length_le (by simp)] at hw3
            exact k D2 ws H3 s12D (s12.trans s3) hw1 hw3
end
end YP
namespace YP
open PySem PySem.Spec PyProof.Rows L2
open Yh (Bytes Spot Sect Plan Route)
theorem len_pot {p : Plan} : ∀ {ws : List (List Yh.Step)}, (∀ l ∈ ws, l.length ≤ 16) → ws.length ≤ pot 2 ws
  | [], _ => by simp [pot]
  | a :: ws, h => by
    have ih := len_pot (p := p) (ws := ws) fun l hl => h l (List.mem_cons_of_mem _ hl)
    rw [show a :: ws = [a] ++ ws from rfl, pot_append, pot_one, List.length_append]
    have : 0 < 2 ^ (19 - a.length) := Nat.pow_pos (by decide)
    simp only [List.length_cons, List.length_nil]
    omega
theorem pot_next {p : Plan} (w : Wf p) {l : List Yh.Step} (g : GoodW p l) : pot 2 (nextW p l) ≤ 2 ^ (19 - l.length) ∧ pot 3 (nextW p l) < 3 ^ (19 - l.length) := by
  obtain ⟨h1, h2⟩ := nextW_good w g
  have hl := g.len w
  rw [pot_const (fun m hm => (h2 m hm).2), pot_const (fun m hm => (h2 m hm).2)]
  obtain ⟨e, he⟩ : ∃ e, 19 - l.length = e + 1 := ⟨18 - l.length, by omega⟩
  have he2 : 19 - (l.length + 1) = e := by omega
  rw [he, he2, Nat.pow_succ, Nat.pow_succ]
  have p2 : 0 < 2 ^ e := Nat.pow_pos (by decide)
  have p3 : 0 < 3 ^ e := Nat.pow_pos (by decide)
  have c : (nextW p l).length = 0 ∨ (nextW p l).length = 1 ∨ (nextW p l).length = 2 := by omega
  rcases c with c | c | c <;> rw [c] <;> omega
theorem paired_append {α β : Type} {G : α → β → Prop} : ∀ {l l' : List α} {m m' : List β}, Paired G l m → Paired G l' m' → Paired G (l ++ l') (m ++ m')
  | _, _, _, _, .nil, h => h
  | _, _, _, _, .cons g t, h => .cons g (paired_append t h)
abbrev retWb (H : Hp) (Q : VK) (ls : List (List Yh.Step)) : Prop := ∀ (q : Addr) (ws : List Addr) (H' : Hp), H q = none → Same H H' → H' q = some (.lst (ws.map V.ref)) → WaysAt H' ws ls → ls.length ≤ 300000 → Q (.ref q) H'
section
variable {P : Program} {w : World} {K : PySem.W.Frag} {mg : Str → Option Value} {base : Heap} {CP CB : Addr}
def spRoutesFrom (CP : Addr) : Sp := fun vs H Q _ => ∃ (A : PA) (p : Plan) (sg : Addr) (x y : Spot), vs = [.ref A.p, .ref sg] ∧ PlanAt CP H A p ∧ Wf p ∧ H sg = some (.tup (spV x)) ∧ x ∈ p.signals ∧ p.partner x = some y ∧ retWb H Q (p.form.ways 17 [x.1] y)
theorem fn_routes_from (T : Txt K mg CP CB) : Fn P w K mg base 3 "routes_from" ["plan", "signal"] (spRoutesFrom CP) := by
  refine T.f_routes_from.ok sc_routes_from (fun vs H Q E h => ?_) (fun f cdv A' outer s H vs Q E hr h => ?_)
  · obtain ⟨A, p, sg, x, y, rfl, _⟩ := h
    rfl
  · obtain ⟨A, p, sg, x, y, rfl, h, wf, hsg, hx, hp, k⟩ := h
    have hsl := sizeLine_eq
    obtain ⟨gx1, gx2, _⟩ := wf.gend x hx
    obtain ⟨hx1, _⟩ := isEnd_lt gx1
    have hx2 : x.2 < 2 := by
      unfold Plan.isEnd at gx1
      unfold Plan.isPlain at gx2
      simp only [Bool.and_eq_true, decide_eq_true_eq, beq_iff_eq] at gx1 gx2
      rw [gx2.2] at gx1
      exact gx1.2
    have g0 : GoodW p [(⟨x.1, 1 - x.2, x.2⟩ : Yh.Step)] := ⟨by simp, by simp, fun st hst => by rw [List.mem_singleton.mp hst]; exact hx1⟩
    have etot : todo p (nextW p [(⟨x.1, 1 - x.2, x.2⟩ : Yh.Step)]) = p.form.ways 17 [x.1] y := by
      rw [todo_const (n := 2) (fun m hm => ((nextW_good wf g0).2 m hm).2)]
      have e1 := nextW_some (p := p) (l := [(⟨x.1, 1 - x.2, x.2⟩ : Yh.Step)]) (st := ⟨x.1, 1 - x.2, x.2⟩) (y := y) rfl hp
      rw [e1, comp_ways wf 17 [⟨x.1, 1 - x.2, x.2⟩] [x.1] y (by simp) (by simp)]
      simp
    have ex : ([.int (x.1 : Int), .int ((1 : Int) - (x.2 : Int)), .int (x.2 : Int)] : List V) = stV ⟨x.1, 1 - x.2, x.2⟩ := by
      show _ = [V.int (x.1 : Int), V.int ((1 - x.2 : Nat) : Int), V.int (x.2 : Int)]
      rw [show ((1 - x.2 : Nat) : Int) = 1 - (x.2 : Int) by omega]
    refine ⟨_, (pss_cons (ps_set (i := 2) sc_routes_from.nd rfl (by first | exact Or.inl rfl | exact Or.inr rfl) (pe_lst pa_nil))
      (pss_cons (ps_set (i := 3) sc_routes_from.nd rfl (by first | exact Or.inl rfl | exact Or.inr rfl) (pe_fn (fn_ways_on T) (hr.mono (by decide)) rfl (pa_cons (pv 0) (pa_cons (pe_tup (pa_cons (pe_tup (pa_cons (pe_ix ix_tup (pv 1) pe_int (fun _ _ => rfl)) (pa_cons (pe_op op_sub pe_int (pe_ix ix_tup (pv 1) pe_int (fun _ _ => rfl))) (pa_cons (pe_ix ix_tup (pv 1) pe_int (fun _ _ => rfl)) pa_nil)))) pa_nil)) pa_nil))))
      (pss_cons (ps_while PassesOwn.never (pt_cmpR op_gt (pe_callB call_len_seq rfl T.b_len PySem.boot_len (pa_cons (pv 3) pa_nil)) pe_int (nomark _)) (pss_cons (ps_set (i := 4) sc_routes_from.nd rfl (by first | exact Or.inl rfl | exact Or.inr rfl) (pe_bm0 PySem.F.plainAttrs_list PySem.F.slot_list_pop PySem.F.type_list_pop mt_pop (pv 3)))
      (pss_one (ps_if (pt_val (pe_fn (fn_may_stop T) (hr.mono (by decide)) rfl (pa_cons (pv 0) (pa_cons (pe_ix ix_tup (pv 4) (pe_un un_neg pe_int) (fun _ _ => rfl)) pa_nil)))) (pss_one (ps_expr (pe_bm PySem.F.plainAttrs_list PySem.F.slot_list_append PySem.F.type_list_append mt_append (pv 2) (pa_cons (pe_slice sl_tup (pv 4) (po_some pe_int) po_none) pa_nil)))) (pss_one (ps_expr (pe_bm PySem.F.plainAttrs_list PySem.F.slot_list_extend PySem.F.type_list_extend mt_extend (pv 3) (pa_cons (pe_fn (fn_ways_on T) (hr.mono (by decide)) rfl (pa_cons (pv 0) (pa_cons (pv 4) pa_nil))) pa_nil))))))))
      (pss_one (ps_ret (pv 2)))))), ?_⟩
    refine ⟨Nat.zero_le _, fun fa hfa => ?_⟩
    have s0 : Same H (upd H fa (.lst [])) := Same.new1 hfa
    refine ⟨_, rfl, _, rfl, sg, _, _, _, rfl, rfl, SqT.of (s0 _ _ hsg), atI_nat (j := 0) rfl, _, rfl, sg, _, _, _, rfl, rfl, SqT.of (s0 _ _ hsg), atI_nat (j := 1) rfl, _, _, rfl, rfl, _, rfl, sg, _, _, _, rfl, rfl, SqT.of (s0 _ _ hsg), atI_nat (j := 1) rfl, (by show 3 ≤ sizeLine; decide), fun t1 ht1 => ⟨(by show 1 ≤ sizeLine; decide), fun t2 ht2 => ?_⟩⟩
    have s1 := Same.new (o := .tup [.int (x.1 : Int), .int ((1 : Int) - (x.2 : Int)), .int (x.2 : Int)]) s0 ht1
    have s2 := Same.new (o := .tup [.ref t1]) s1 ht2
    have nt : t1 ≠ t2 := ne_of_none upd_same ht2
    refine ⟨A, p, t2, [⟨x.1, 1 - x.2, x.2⟩], rfl, h.same s2, wf, ⟨[t1], upd_same, .cons (by rw [upd_ne nt, ← ex]; exact upd_same) .nil⟩, g0, fun wa ws H1 hwa s3 hw1 hw2 => ?_⟩
    have sf : Same (upd H fa (.lst [])) H1 := ((Same.new1 ht1).trans (Same.new1 ht2)).trans s3
    have sH : Same H H1 := s2.trans s3
    have hfa1 : H1 fa = some (.lst []) := sf _ _ upd_same
    have hwaH : H wa = none := s2.free hwa
    have nfw : fa ≠ wa := by
      have e : (upd (upd (upd H fa (.lst [])) t1 (.tup [.int (x.1 : Int), .int ((1 : Int) - (x.2 : Int)), .int (x.2 : Int)])) t2 (.tup [.ref t1])) fa = some (.lst []) := ((Same.new1 ht1).trans (Same.new1 ht2)) _ _ upd_same
      exact ne_of_none e hwa
    refine ⟨fun m σ H' => ∃ v4 fs Fs ws Ls, σ = [some (.ref A.p), some (.ref sg), some (.ref fa), some (.ref wa), v4] ∧ Same H H' ∧ H' fa = some (.lst (fs.map V.ref)) ∧ WaysAt H' fs Fs ∧ H' wa = some (.lst (ws.map V.ref)) ∧ WaysAt H' ws Ls ∧ (∀ l ∈ Ls, GoodW p l) ∧ Fs ++ todo p Ls = p.form.ways 17 [x.1] y ∧ Fs.length + pot 2 Ls ≤ 262144 ∧ m = pot 3 Ls,
      ⟨_, none, [], [], ws, nextW p [⟨x.1, 1 - x.2, x.2⟩], rfl, sH, hfa1, .nil, hw1, hw2, fun l hl => ((nextW_good wf g0).2 l hl).1, etot, ?_, rfl⟩, ?_⟩
    · have := (pot_next wf g0).1
      simp at this ⊢
      omega
    · rintro m σ H' ⟨v4, fs, Fs, ws, Ls, rfl, hs, hf1, hf2, hw1, hw2, hgood, htot, hpot, rfl⟩
      have hwl : ws.length = Ls.length := Paired.length hw2
      have hfl : fs.length = Fs.length := Paired.length hf2
      refine ⟨_, rfl, wa, _, rfl, .inl (SqL.of hw1), _, _, rfl, rfl, _, rfl, ite2 (fun z => ?_) (fun z => ?_)⟩
      · have hne : Ls ≠ [] := fun q => by
          have z' : decide ((0 : Int) < (((ws.map V.ref).length : Nat) : Int)) = true := z
          rw [List.length_map, hwl, q] at z'
          exact absurd z' (by decide)
        obtain ⟨ws', a, ews, hw2', hal⟩ := paired_last hw2 hne
        obtain ⟨Ls', l, eLs⟩ : ∃ Ls' l, Ls = Ls' ++ [l] := ⟨Ls.dropLast, Ls.getLast hne, (List.dropLast_concat_getLast hne).symm⟩
        have elast : Ls.getLast hne = l := by subst eLs; simp
        have edrop : Ls.dropLast = Ls' := by subst eLs; simp
        rw [elast] at hal
        rw [edrop] at hw2'
        have gl : GoodW p l := hgood l (by rw [eLs]; simp)
        have hll := gl.len wf
        have hgood' : ∀ m ∈ Ls', GoodW p m := fun m hm => hgood m (by rw [eLs]; simp [hm])
        obtain ⟨ts, hts, hst⟩ := hal
        obtain ⟨ts', t, ets, _, ht⟩ := paired_last hst gl.ne
        have hlast : l.getLast? = some (l.getLast gl.ne) := List.getLast?_eq_some_getLast gl.ne
        have hstl : (l.getLast gl.ne).sect < p.sects.length := gl.lt _ (List.getLast_mem gl.ne)
        generalize l.getLast gl.ne = st at ht hlast hstl
        obtain ⟨yy, hyy⟩ : ∃ yy, p.sects[st.sect]? = some yy := ⟨_, List.getElem?_eq_getElem hstl⟩
        have hat : atI (ts.map V.ref) (-1) = some (.ref t) := by
          rw [ets, List.map_append]
          exact atI_last _ _
        have htl : ts.length = l.length := Paired.length hst
        have todoE := todo_snoc wf (ws := Ls') gl hlast
        have potE2 : pot 2 Ls = pot 2 Ls' + 2 ^ (19 - l.length) := by rw [eLs, pot_append, pot_one]
        have potE3 : pot 3 Ls = pot 3 Ls' + 3 ^ (19 - l.length) := by rw [eLs, pot_append, pot_one]
        have p2 : 0 < 2 ^ (19 - l.length) := Nat.pow_pos (by decide)
        have p3 : 0 < 3 ^ (19 - l.length) := Nat.pow_pos (by decide)
        rw [eLs] at htot
        refine ⟨fun σ' H'' => ∃ v4 fs Fs ws Ls2, σ' = [some (.ref A.p), some (.ref sg), some (.ref fa), some (.ref wa), v4] ∧ Same H H'' ∧ H'' fa = some (.lst (fs.map V.ref)) ∧ WaysAt H'' fs Fs ∧ H'' wa = some (.lst (ws.map V.ref)) ∧ WaysAt H'' ws Ls2 ∧ (∀ l ∈ Ls2, GoodW p l) ∧ Fs ++ todo p Ls2 = p.form.ways 17 [x.1] y ∧ Fs.length + pot 2 Ls2 ≤ 262144 ∧ pot 3 Ls2 < pot 3 Ls,
          fun σ' H'' ⟨v, a1, a2, a3, a4, b1, b2, b3, b4, b5, b6, b7, b8, b9, b10⟩ => ⟨_, b10, v, a1, a2, a3, a4, b1, b2, b3, b4, b5, b6, b7, b8, b9, rfl⟩, ?_⟩
        refine ⟨_, rfl, .inl ⟨rfl, _, SqL.of hw1⟩, wa, _, .ref a, rfl, rfl, hw1, ?_, ?_⟩
        · rw [ews]; simp
        have edl : (ws.map V.ref).dropLast = ws'.map V.ref := by rw [ews]; simp
        rw [edl]
        have hsP := Same.wr (o := .lst (ws'.map V.ref)) hs hwaH
        have tP : Tups H' (upd H' wa (.lst (ws'.map V.ref))) := fun b xs e => by rw [upd_ne (ne_of e hw1 (by intro z; cases z))]; exact e
        have hP := h.same hsP
        refine ⟨_, rfl, _, rfl, _, rfl, a, _, _, .ref t, rfl, rfl, SqT.of (tP _ _ hts), hat, A, p, t, st, yy, rfl, hP, tP _ _ ht, hyy, fun H2 s4 => ⟨_, rfl, ite2 (fun z => ?_) (fun z => ?_)⟩⟩
        · rw [if_pos z] at todoE
          have hf2' : H2 fa = some (.lst (fs.map V.ref)) := s4 _ _ (by rw [upd_ne nfw]; exact hf1)
          have t2' : Tups H' H2 := fun b xs e => s4 _ _ (tP _ _ e)
          refine ⟨_, rfl, .inl ⟨rfl, _, SqL.of hf2'⟩, _, rfl, _, rfl, a, _, rfl, SqT.of (t2' _ _ hts), ?_, fun q hq => ⟨fa, _, _, rfl, rfl, (by rw [upd_ne (ne_of_none hf2' hq)]; exact hf2'), (by rw [List.length_map]; omega), ?_⟩⟩
          · rintro ⟨z1, _⟩
            have : HT.sIx (ts.map V.ref).length 0 (some ((1 : Nat) : Int)) = 0 := z1
            rw [HT.sIx_nat, List.length_map, htl] at this
            omega
          · have ecut : cutV (ts.map V.ref) (some 1) none = (ts.drop 1).map V.ref := by
              have := cut_from (ts.map V.ref) 1
              rw [← List.map_drop] at this
              exact this
            rw [ecut]
            have nq : q ≠ fa := fun zz => by rw [zz, hf2'] at hq; cases hq
            have sQ := Same.new (o := .tup ((ts.drop 1).map V.ref)) (hsP.trans s4) hq
            have tF : Tups H2 (upd (upd H2 q (.tup ((ts.drop 1).map V.ref))) fa (.lst (fs.map V.ref ++ [.ref q]))) := fun b xs e => by
              rw [upd_ne (ne_of e hf2' (by intro z; cases z)), upd_ne (ne_of_none e hq)]
              exact e
            refine ⟨_, fs ++ [q], Fs ++ [l.tail], ws', Ls', rfl, Same.wr sQ hfa, ?_, paired_snoc (paired_imp hf2 fun _ _ _ r => (r.keep t2').keep tF) ?_, ?_, paired_imp hw2' (fun _ _ _ r => (r.keep t2').keep tF), hgood', ?_, ?_, ?_⟩
            · rw [upd_same]; simp
            · refine ⟨ts.drop 1, ?_, ?_⟩
              · rw [upd_ne nq, upd_same]
              · have : StepsAt H' (ts.drop 1) (l.drop 1) := by
                  cases hst with
                  | nil => exact .nil
                  | cons g t => exact t
                rw [← List.drop_one]
                exact paired_imp this fun _ _ _ e => tF _ _ (t2' _ _ e)
            · rw [upd_ne (Ne.symm nfw), upd_ne (ne_of_none (s4 _ _ upd_same) hq)]
              exact s4 _ _ upd_same
            · rw [← htot, todoE]; simp
            · rw [List.length_append, List.length_singleton]; omega
            · omega
        · rw [if_neg z] at todoE
          have t2' : Tups H' H2 := fun b xs e => s4 _ _ (tP _ _ e)
          have s5 := hsP.trans s4
          have hwa2 : H2 wa = some (.lst (ws'.map V.ref)) := s4 _ _ upd_same
          have pn := pot_next wf gl
          refine ⟨_, rfl, .inl ⟨rfl, _, SqL.of hwa2⟩, _, rfl, _, rfl, A, p, a, l, rfl, h.same s5, wf, ⟨ts, t2' _ _ hts, paired_imp hst fun _ _ _ e => t2' _ _ e⟩, gl, fun q ws2 H3 hq s6 hq3 hw3 => ?_⟩
          have s56 := s5.trans s6
          have hwl' : ws'.length = Ls'.length := Paired.length hw2'
          have hw3l : ws2.length = (nextW p l).length := Paired.length hw3
          have hg2 : ∀ m ∈ Ls' ++ nextW p l, GoodW p m := fun m hm => by
            rcases List.mem_append.mp hm with z | z
            · exact hgood' m z
            · exact ((nextW_good wf gl).2 m z).1
          have hpl := len_pot (p := p) (ws := Ls' ++ nextW p l) fun m hm => ((hg2 m hm).len wf).2
          rw [pot_append, List.length_append] at hpl
          have tF : Tups H3 (upd H3 wa (.lst (ws'.map V.ref ++ ws2.map V.ref))) := fun b xs e => by
            rw [upd_ne (ne_of e (s6 _ _ hwa2) (by intro z; cases z))]
            exact e
          have t3 : Tups H' H3 := fun b xs e => s6 _ _ (t2' _ _ e)
          refine ⟨wa, q, _, _, rfl, rfl, s6 _ _ hwa2, hq3, (by rw [List.length_map, List.length_map]; omega), _, fs, Fs, ws' ++ ws2, Ls' ++ nextW p l, rfl, Same.wr s56 hwaH, ?_, paired_imp hf2 (fun _ _ _ r => (r.keep t3).keep tF), ?_, ?_, hg2, ?_, ?_, ?_⟩
          · rw [upd_ne nfw]
            exact s6 _ _ (s4 _ _ (by rw [upd_ne nfw]; exact hf1))
          · rw [upd_same, List.map_append]
          · have e1 : WaysAt (upd H3 wa (.lst (ws'.map V.ref ++ ws2.map V.ref))) ws' Ls' := paired_imp hw2' fun _ _ _ r => (r.keep t3).keep tF
            have e2 : WaysAt (upd H3 wa (.lst (ws'.map V.ref ++ ws2.map V.ref))) ws2 (nextW p l) := paired_imp hw3 fun _ _ _ r => r.keep tF
            exact paired_append e1 e2
          · rw [← htot, todoE]
          · rw [pot_append]; omega
          · rw [pot_append]; omega
      · have hnil : Ls = [] := by
          cases Ls with
          | nil => rfl
          | cons l Ls => exact absurd (decide_eq_true (by rw [List.length_map, hwl]; simp)) z
        subst hnil
        have htot' : Fs = p.form.ways 17 [x.1] y := by rw [← htot]; simp [todo]
        subst htot'
        exact ⟨_, rfl, k fa fs H' hfa hs hf1 hf2 (by omega)⟩
end
end YP
namespace YP
open PySem PySem.Spec PyProof.Rows L2
open Yh (Bytes Spot Sect Plan Route)
def StepOk (p : Plan) (st : Yh.Step) : Prop := st.sect < p.sects.length ∧ st.out ∈ Yh.outsOf (p.kindAt st.sect) st.inn ∧ p.isEnd (st.sect, st.inn) = true
theorem ways_ok {p : Plan} (w : Wf p) : ∀ (f : Nat) (had : List Nat) (y : Spot), p.isEnd y = true → ∀ l ∈ p.form.ways f had y, l.length ≤ f ∧ ∀ st ∈ l, StepOk p st
  | 0, had, y, _, l, h => by unfold Plan.ways at h; cases h
  | f + 1, had, y, hy, l, h => by
    unfold Plan.ways at h
    split at h
    · cases h
    · obtain ⟨o, ho, h⟩ := List.mem_flatMap.mp h
      rw [form_kindAt] at ho
      have ok : StepOk p ⟨y.1, y.2, o⟩ := ⟨(isEnd_lt hy).1, ho, hy⟩
      split at h
      · rw [List.mem_singleton.mp h]
        exact ⟨by simp, fun st hst => by rw [List.mem_singleton.mp hst]; exact ok⟩
      · rw [form_partner w] at h
        cases hp : p.partner (y.1, o) with
        | none => rw [hp] at h; cases h
        | some z =>
          rw [hp] at h
          obtain ⟨m, hm, rfl⟩ := List.mem_map.mp h
          obtain ⟨h1, h2⟩ := ways_ok w f (y.1 :: had) z (partner_end w hp) m hm
          refine ⟨by simp; omega, fun st hst => ?_⟩
          rcases List.mem_cons.mp hst with rfl | hst
          · exact ok
          · exact h2 st hst
def RouteOk (p : Plan) (r : Route) : Prop := r.steps.length ≤ 17 ∧ ∀ st ∈ r.steps, StepOk p st
theorem routesFrom_eq {p : Plan} (w : Wf p) {i : Nat} {x y : Spot} (h : (sortS p.signals)[i]? = some x) (hp : p.partner x = some y) : p.form.routesFrom i = (p.form.ways 17 [x.1] y).map fun l => (⟨i, l⟩ : Route) := by
  unfold Plan.routesFrom
  rw [form_signals, h]
  simp only
  rw [form_partner w, hp]
  rfl
theorem sig_partner {p : Plan} (w : Wf p) {x : Spot} (h : x ∈ p.signals) : ∃ y, p.partner x = some y := Option.isSome_iff_exists.mp (w.gend x h).2.2
theorem routes_ok {p : Plan} (w : Wf p) : ∀ r ∈ p.form.routes, RouteOk p r := by
  intro r hr
  unfold Plan.routes at hr
  obtain ⟨i, hi, h⟩ := List.mem_flatMap.mp hr
  have hi : i < (sortS p.signals).length := by simpa [form_signals] using hi
  have hx := List.getElem?_eq_getElem hi
  have hm : (sortS p.signals)[i] ∈ p.signals := (sortS_perm p.signals).mem_iff.mp (List.getElem_mem hi)
  obtain ⟨y, hy⟩ := sig_partner w hm
  rw [routesFrom_eq w hx hy] at h
  obtain ⟨l, hl, rfl⟩ := List.mem_map.mp h
  exact ways_ok w 17 _ y (partner_end w hy) l hl
def routeR (H : Hp) (v : V) (r : Route) : Prop := ∃ q t, v = .ref q ∧ H q = some (.tup [.int (r.signal : Int), .ref t]) ∧ wayR H t r.steps
theorem routeR.keep {H H' : Hp} (h : Tups H H') {v : V} {r : Route} (x : routeR H v r) : routeR H' v r := by
  obtain ⟨q, t, e, h1, h2⟩ := x
  exact ⟨q, t, e, h _ _ h1, h2.keep h⟩
section
variable {P : Program} {w : World} {K : PySem.W.Frag} {mg : Str → Option Value} {base : Heap} {CP CB : Addr}
abbrev retR (H : Hp) (Q : VK) (rs : List Route) : Prop := ∀ (q : Addr) (vs : List V) (H' : Hp), H q = none → Same H H' → H' q = some (.lst vs) → Paired (routeR H') vs rs → Q (.ref q) H'
def spFindRoutes (CP : Addr) : Sp := fun vs H Q _ => ∃ (A : PA) (p : Plan), vs = [.ref A.p] ∧ PlanAt CP H A p ∧ Wf p ∧ retR H Q p.form.routes
theorem fn_find_routes (T : Txt K mg CP CB) : Fn P w K mg base 4 "find_routes" ["plan"] (spFindRoutes CP) := by
  refine T.f_find_routes.ok sc_find_routes (fun vs H Q E h => ?_) (fun f cdv A' outer s H vs Q E hr h => ?_)
  · obtain ⟨A, p, rfl, _⟩ := h
    rfl
  · obtain ⟨A, p, rfl, h, wf, k⟩ := h
    have hsl := sizeLine_eq
    refine ⟨_, (pss_cons (ps_set (i := 1) sc_find_routes.nd rfl (by first | exact Or.inl rfl | exact Or.inr rfl) (pe_lst pa_nil))
      (pss_cons (ps_for PassesOwn.never rfl (pi_enum rfl T.b_enumerate (pa_cons (pe_mt0 (pv 0) (mt_Plan_signal_ends T) (hr.mono (by decide))) pa_nil)) (pg_tup rfl (pgs_cons (pg_name (i := 2) sc_find_routes.nd rfl (by first | exact Or.inl rfl | exact Or.inr rfl)) (pgs_cons (pg_name (i := 3) sc_find_routes.nd rfl (by first | exact Or.inl rfl | exact Or.inr rfl)) pgs_nil))) (pss_one (ps_for PassesOwn.never rfl (pi_list (pe_fn (fn_routes_from T) (hr.mono (by decide)) rfl (pa_cons (pv 0) (pa_cons (pv 3) pa_nil)))) (pg_name (i := 4) sc_find_routes.nd rfl (by first | exact Or.inl rfl | exact Or.inr rfl)) (pss_one (ps_expr (pe_bm PySem.F.plainAttrs_list PySem.F.slot_list_append PySem.F.type_list_append mt_append (pv 1) (pa_cons (pe_tup (pa_cons (pv 2) (pa_cons (pv 4) pa_nil))) pa_nil)))))))
      (pss_one (ps_ret (pv 1))))), ?_⟩
    refine ⟨Nat.zero_le _, fun ra hra => ?_⟩
    have s0 : Same H (upd H ra (.lst [])) := Same.new1 hra
    have h0 := h.same s0
    refine ⟨_, rfl, A.p, A.dx, _, rfl, h0.obj, rfl, A, p, rfl, h0, fun ga gs H1 hga s1 hg1 hg2 => ?_⟩
    have s01 := s0.trans s1
    have hra1 : H1 ra = some (.lst []) := s1 _ _ upd_same
    have nga : ga ≠ ra := Ne.symm (ne_of_none upd_same hga)
    have hgl : gs.length = (sortS p.signals).length := Paired.length hg2
    have hg12 : (sortS p.signals).length ≤ 12 := by rw [(sortS_perm p.signals).length_eq]; exact wf.g12
    refine ⟨ga, _, rfl, SqL.of hg1, for_enum (K := K) (a := ga) (xs := gs.map V.ref) (fun i σ H' => ∃ v2 v3 v4 vs, σ = [some (.ref A.p), some (.ref ra), v2, v3, v4] ∧ Same H H' ∧ Keep [ra] H1 H' ∧ H' ra = some (.lst vs) ∧ Paired (routeR H') vs ((List.range i).flatMap p.form.routesFrom) ∧ vs.length ≤ 300000 * i)
      ⟨none, none, none, [], rfl, s01, Keep.same (Same.refl _), hra1, .nil, by simp⟩ (fun i σ H' _ ⟨_, _, _, _, _, _, kp, _⟩ => SqL.of (kp _ _ hg1 (by simpa using nga))) ?_ ?_⟩
    · rintro i xv σ H' tt hx ⟨v2, v3, v4, vs, rfl, hs, kp, hv1, hv2, hv3⟩ htt
      obtain ⟨q, hq, rfl⟩ := getm hx
      obtain ⟨x, hxs, hqx⟩ := paired_get hg2 hq
      have hil : i < (sortS p.signals).length := (List.getElem?_eq_some_iff.mp hxs).1
      have hxm : x ∈ p.signals := (sortS_perm p.signals).mem_iff.mp (List.mem_of_getElem? hxs)
      obtain ⟨y, hy⟩ := sig_partner wf hxm
      have s2 : Same H' (upd H' tt (.tup [.int (i : Nat), .ref q])) := Same.new1 htt
      have hq' : H' q = some (.tup (spV x)) := kp _ _ hqx (by simp only [List.mem_singleton]; exact ne_of hqx hra1 (by intro z; cases z))
      refine ⟨tt, _, rfl, SqT.of upd_same, rfl, _, _, rfl, _, _, rfl, rfl, ?_⟩
      refine ⟨_, rfl, _, rfl, A, p, q, x, y, rfl, h.same (hs.trans s2), wf, s2 _ _ hq', hxm, hy, fun wa ws H2 hwa s3 hw1 hw2 hwl => ?_⟩
      have s23 := s2.trans s3
      have hra2 : H2 ra = some (.lst vs) := s23 _ _ hv1
      have nwa : wa ≠ ra := Ne.symm (ne_of_none (s2 _ _ hv1) hwa)
      have hwsl : ws.length = (p.form.ways 17 [x.1] y).length := Paired.length hw2
      refine ⟨wa, rfl, ⟨_, SqL.of hw1⟩, for_list (K := K) (a := wa) (xs := ws.map V.ref) (fun j σ H'' => ∃ v4 vs', σ = [some (.ref A.p), some (.ref ra), some (.int (i : Nat)), some (.ref q), v4] ∧ Same H H'' ∧ Keep [ra] H2 H'' ∧ H'' ra = some (.lst vs') ∧ Paired (routeR H'') vs' ((List.range i).flatMap p.form.routesFrom ++ ((p.form.ways 17 [x.1] y).take j).map fun l => (⟨i, l⟩ : Route)) ∧ vs'.length ≤ 300000 * i + j)
        ⟨_, vs, rfl, hs.trans s23, Keep.same (Same.refl _), hra2, ?_, by omega⟩ (fun j σ H'' _ ⟨_, _, _, _, kp2, _⟩ => SqL.of (kp2 _ _ hw1 (by simpa using nwa))) ?_ ?_⟩
      · rw [List.take_zero, List.map_nil, List.append_nil]
        exact paired_imp hv2 fun _ _ _ r => r.keep (Same.tups s23)
      · rintro j yv σ H'' hj ⟨v4', vs', rfl, hs', kp2, hu1, hu2, hu3⟩
        obtain ⟨a, ha, rfl⟩ := getm hj
        obtain ⟨l, hl, hal⟩ := paired_get hw2 ha
        have hjl : j < ws.length := (List.getElem?_eq_some_iff.mp ha).1
        have tp : Tups H2 H'' := fun b xs e => kp2 _ _ e (by simp only [List.mem_singleton]; exact ne_of e hra2 (by intro z; cases z))
        refine ⟨_, rfl, .inl ⟨rfl, _, SqL.of hu1⟩, _, rfl, _, rfl, (by show 2 ≤ sizeLine; decide), fun r hr' => ⟨ra, _, _, rfl, rfl, (by rw [upd_ne (ne_of_none hu1 hr')]; exact hu1), (by omega), ?_⟩⟩
        have nr : r ≠ ra := fun z => by rw [z, hu1] at hr'; cases hr'
        have tF : Tups H'' (upd (upd H'' r (.tup [.int (i : Nat), .ref a])) ra (.lst (vs' ++ [.ref r]))) := fun b xs e => by
          rw [upd_ne (ne_of e hu1 (by intro z; cases z)), upd_ne (ne_of_none e hr')]
          exact e
        refine ⟨_, vs' ++ [.ref r], rfl, Same.wr (Same.new hs' hr') hra, (kp2.trans (Keep.same (Same.new1 hr'))).trans (Keep.upd (by simp)), upd_same, ?_, by simp; omega⟩
        rw [take_snoc hl, List.map_append, ← List.append_assoc]
        exact paired_snoc (paired_imp hu2 fun _ _ _ x => x.keep tF) ⟨r, a, rfl, by rw [upd_ne nr, upd_same], (hal.keep tp).keep tF⟩
      · rintro σ H'' ⟨v4', vs', rfl, hs', kp2, hu1, hu2, hu3⟩
        rw [List.length_map, hwsl, List.take_length] at hu2
        rw [List.length_map] at hu3
        refine ⟨_, _, _, vs', rfl, hs', (kp.trans (Keep.same s23)).trans kp2, hu1, ?_, by omega⟩
        rw [List.range_succ, List.flatMap_append, List.flatMap_cons, List.flatMap_nil, List.append_nil, routesFrom_eq wf hxs hy]
        exact hu2
    · rintro σ H' ⟨v2, v3, v4, vs, rfl, hs, kp, hv1, hv2, hv3⟩
      rw [List.length_map, hgl] at hv2
      exact ⟨_, rfl, k ra vs H' hra hs hv1 hv2⟩
abbrev nV (l : List Nat) : List V := l.map fun (x : Nat) => V.int (x : Int)
theorem nV_append (a b : List Nat) : nV (a ++ b) = nV a ++ nV b := List.map_append
def spSectsOf : Sp := fun vs H Q _ => ∃ (v : V) (r : Route), vs = [v] ∧ routeR H v r ∧ r.steps.length ≤ 17 ∧ retL H Q (nV r.sects)
theorem fn_sections_of (T : Txt K mg CP CB) : Fn P w K mg base 1 "sections_of" ["route"] spSectsOf := by
  refine T.f_sections_of.ok sc_sections_of (fun vs H Q E h => ?_) (fun f cdv A' outer s H vs Q E hr h => ?_)
  · obtain ⟨v, r, rfl, _⟩ := h
    rfl
  · obtain ⟨v, r, rfl, ⟨q, t, rfl, hq, ts, hts, hst⟩, hl, k⟩ := h
    have hsl := sizeLine_eq
    have htl : ts.length = r.steps.length := Paired.length hst
    refine ⟨_, (pss_one (ps_ret (pe_lc (own := [("step", 1)]) rfl sc_sections_of.nd (pi_tup (pe_ix ix_tup (pv 0) pe_int (fun _ _ => rfl))) (blkOk_by (N := ["route", "step"]) (sc := defScope s_sections_of) (by decide +kernel)) (fun _ _ _ _ _ => (pg_name (i := 1) sc_sections_of.nd rfl (by first | exact Or.inl rfl | exact Or.inr rfl))) (fun _ _ _ _ _ => pts_nil) (fun _ _ _ _ _ => (pe_ix (ix_tupK (K := K) rfl) (pv 1) pe_int (fun _ _ => rfl)))))), ?_⟩
    refine ⟨_, rfl, q, _, _, _, rfl, rfl, SqT.of hq, atI_nat (j := 1) rfl, t, rfl, ⟨_, SqT.of hts⟩, fun D hD => lc_tup (K := K) (a := t) (xs := ts.map V.ref) (fun i H' => Same H H' ∧ H' D = some (.lst (nV ((r.steps.take i).map (·.sect)))))
      ⟨Same.new1 hD, upd_same⟩ (fun i H' _ q => SqT.of (q.1 _ _ hts)) ?_ ?_⟩
    · rintro i v H' hi ⟨hs, hd⟩
      obtain ⟨t', ht', rfl⟩ := getm hi
      obtain ⟨st', hst1, hst2⟩ := paired_get hst ht'
      have hil : i < r.steps.length := (List.getElem?_eq_some_iff.mp hst1).1
      refine ⟨rfl, yes_of ⟨_, rfl, t', _, _, _, rfl, rfl, SqT.of (hs _ _ hst2), atI_nat (j := 0) rfl, _, hd, ?_, Same.wr hs hD, ?_⟩⟩
      · simp
        omega
      · rw [upd_same, take_snoc hst1, List.map_append, nV_append]
        rfl
    · rintro H' ⟨hs, hd⟩
      rw [List.length_map, htl, List.take_length] at hd
      exact k D H' hD hs hd
def spPoints (CP : Addr) : Sp := fun vs H Q _ => ∃ (A : PA) (p : Plan) (v : V) (r : Route), vs = [.ref A.p, v] ∧ PlanAt CP H A p ∧ routeR H v r ∧ RouteOk p r ∧
  ∀ (q : Addr) (ps : List Addr) (H' : Hp), H q = none → Same H H' → H' q = some (.lst (ps.map V.ref)) → SpotsAt H' ps (p.form.points r) → Q (.ref q) H'
theorem lies_eq {p : Plan} {st : Yh.Step} (h : StepOk p st) (hk : p.kindAt st.sect = 1) : (if (st.out : Int) > (st.inn : Int) then (st.out : Int) else (st.inn : Int)) = (st.lies : Int) := by
  obtain ⟨_, h2, h3⟩ := h
  rw [hk] at h2
  unfold Plan.isEnd at h3
  simp only [Bool.and_eq_true, decide_eq_true_eq] at h3
  rw [hk] at h3
  have h3 : st.inn < 3 := h3.2
  have h2 : st.out ∈ (if st.inn = 0 then [1, 2] else [0]) := h2
  unfold Yh.Step.lies
  by_cases hi : st.inn = 0
  · rw [if_pos hi] at h2
    simp at h2
    rcases h2 with h2 | h2
    · rw [hi, h2]; decide
    · rw [hi, h2]; decide
  · rw [if_neg hi] at h2
    simp at h2
    have : st.inn = 1 ∨ st.inn = 2 := by omega
    rcases this with q | q
    · rw [q, h2]; decide
    · rw [q, h2]; decide
theorem fn_needed_points (T : Txt K mg CP CB) : Fn P w K mg base 2 "needed_points" ["plan", "route"] (spPoints CP) := by
  refine T.f_needed_points.ok sc_needed_points (fun vs H Q E h => ?_) (fun f cdv A' outer s H vs Q E hr h => ?_)
  · obtain ⟨A, p, v, r, rfl, _⟩ := h
    rfl
  · obtain ⟨A, p, v, r, rfl, h, ⟨q, t, rfl, hq, ts, hts, hst⟩, ⟨hl, hok⟩, k⟩ := h
    have hsl := sizeLine_eq
    have htl : ts.length = r.steps.length := Paired.length hst
    refine ⟨_, (pss_one (ps_ret (pe_lc (own := [("step", 2)]) rfl sc_needed_points.nd (pi_tup (pe_ix ix_tup (pv 1) pe_int (fun _ _ => rfl))) (blkOk_by (N := ["plan", "route", "step"]) (sc := defScope s_needed_points) (by decide +kernel)) (fun _ _ _ _ _ => (pg_name (i := 2) sc_needed_points.nd rfl (by first | exact Or.inl rfl | exact Or.inr rfl))) (fun _ _ _ _ _ => (pts_one (pt_cmpR op_eq (pe_mt (pv 0) (mt_Plan_section_kind T) (hr.mono (by decide)) (pa_cons (pe_ix (ix_tupK (K := K) rfl) (pv 2) pe_int (fun _ _ => rfl)) pa_nil)) (pe_gint rfl T.c_POINT) (nomark _)))) (fun _ _ _ _ _ => (pe_tup (pa_cons (pe_ix (ix_tupK (K := K) rfl) (pv 2) pe_int (fun _ _ => rfl)) (pa_cons (pe_callB (call_max2 rfl) rfl T.b_max PyProof.Rows.boot_max (pa_cons (pe_ix (ix_tupK (K := K) rfl) (pv 2) pe_int (fun _ _ => rfl)) (pa_cons (pe_ix (ix_tupK (K := K) rfl) (pv 2) pe_int (fun _ _ => rfl)) pa_nil))) pa_nil))))))), ?_⟩
    refine ⟨_, rfl, q, _, _, _, rfl, rfl, SqT.of hq, atI_nat (j := 1) rfl, t, rfl, ⟨_, SqT.of hts⟩, fun D hD => lc_tup (K := K) (a := t) (xs := ts.map V.ref) (fun i H' => Same H H' ∧ ∃ ps, H' D = some (.lst (ps.map V.ref)) ∧ ps.length ≤ i ∧ SpotsAt H' ps (((r.steps.take i).filter fun (x : Yh.Step) => p.kindAt x.sect == 1).map fun (x : Yh.Step) => (x.sect, x.lies)))
      ⟨Same.new1 hD, [], upd_same, Nat.le_refl _, .nil⟩ (fun i H' _ q => SqT.of (q.1 _ _ hts)) ?_ ?_⟩
    · rintro i v H' hi ⟨hs, ps, hd, hpl, hps⟩
      obtain ⟨t', ht', rfl⟩ := getm hi
      obtain ⟨st, hst1, hst2⟩ := paired_get hst ht'
      have hil : i < r.steps.length := (List.getElem?_eq_some_iff.mp hst1).1
      have ok := hok st (List.mem_of_getElem? hst1)
      obtain ⟨y, hy⟩ : ∃ y, p.sects[st.sect]? = some y := ⟨_, List.getElem?_eq_getElem ok.1⟩
      have hkat : p.kindAt st.sect = y.kind := by unfold Plan.kindAt; rw [hy]
      have h' := h.same hs
      have hst' := hs _ _ hst2
      have eF : ((r.steps.take (i + 1)).filter fun (x : Yh.Step) => p.kindAt x.sect == 1).map (fun (x : Yh.Step) => (x.sect, x.lies)) = ((r.steps.take i).filter fun (x : Yh.Step) => p.kindAt x.sect == 1).map (fun (x : Yh.Step) => (x.sect, x.lies)) ++ (if p.kindAt st.sect = 1 then [(st.sect, st.lies)] else []) := by
        rw [take_snoc hst1, List.filter_append, List.map_append]
        congr 1
        by_cases z : p.kindAt st.sect = 1
        · rw [if_pos z, List.filter_cons, if_pos (by simp [z])]
          rfl
        · rw [if_neg z, List.filter_cons, if_neg (by simp [z])]
          rfl
      refine ⟨rfl, _, rfl, A.p, A.dx, _, rfl, h'.obj, rfl, _, rfl, t', _, _, _, rfl, rfl, SqT.of hst', atI_nat (j := 0) rfl, A, p, st.sect, y, rfl, h', hy, rfl, _, rfl, ?_⟩
      show if decide (V.int (y.kind : Int) = V.int ((1 : Nat) : Int)) = true then _ else _
      rw [decI]
      refine ite2 (fun z => ?_) (fun z => ?_)
      · have hk1 : p.kindAt st.sect = 1 := by rw [hkat]; exact of_decide_eq_true z
        refine ⟨_, rfl, t', _, _, _, rfl, rfl, SqT.of hst', atI_nat (j := 0) rfl, _, rfl, t', _, _, _, rfl, rfl, SqT.of hst', atI_nat (j := 1) rfl, _, rfl, t', _, _, _, rfl, rfl, SqT.of hst', atI_nat (j := 2) rfl, _, _, rfl, (by show 2 ≤ sizeLine; decide), fun b hb => ?_⟩
        rw [lies_eq ok hk1]
        have nb : b ≠ D := fun zz => by rw [zz, hd] at hb; cases hb
        have tF : Tups H' (upd (upd H' b (.tup (spV (st.sect, st.lies)))) D (.lst (ps.map V.ref ++ [.ref b]))) := fun c xs e => by
          rw [upd_ne (ne_of e hd (by intro z; cases z)), upd_ne (ne_of_none e hb)]
          exact e
        refine ⟨_, (by rw [upd_ne (Ne.symm nb)]; exact hd), (by rw [List.length_map]; omega), Same.wr (Same.new hs hb) hD, ps ++ [b], ?_, by simp; omega, ?_⟩
        · rw [upd_same]; simp
        · rw [eF, if_pos hk1]
          exact paired_snoc (paired_imp hps fun _ _ _ e => tF _ _ e) (by rw [upd_ne nb, upd_same])
      · have hk1 : ¬ p.kindAt st.sect = 1 := by rw [hkat]; exact fun q => z (decide_eq_true q)
        refine ⟨hs, ps, hd, by omega, ?_⟩
        rw [eF, if_neg hk1, List.append_nil]
        exact hps
    · rintro H' ⟨hs, ps, hd, hpl, hps⟩
      rw [List.length_map, htl, List.take_length] at hps
      exact k D ps H' hD hs hd hps
def shared (r o : Route) : List Nat := r.sects.filter fun i => o.sects.contains i
def spShared : Sp := fun vs H Q _ => ∃ (v u : V) (r o : Route), vs = [v, u] ∧ routeR H v r ∧ routeR H u o ∧ r.steps.length ≤ 17 ∧ o.steps.length ≤ 17 ∧ retL H Q (nV (shared r o))
theorem fn_shared_sections (T : Txt K mg CP CB) : Fn P w K mg base 2 "shared_sections" ["route", "other"] spShared := by
  refine T.f_shared_sections.ok sc_shared_sections (fun vs H Q E h => ?_) (fun f cdv A' outer s H vs Q E hr h => ?_)
  · obtain ⟨v, u, r, o, rfl, _⟩ := h
    rfl
  · obtain ⟨v, u, r, o, rfl, hr1, ho1, hl1, hl2, k⟩ := h
    have hsl := sizeLine_eq
    refine ⟨_, (pss_cons (ps_set (i := 2) sc_shared_sections.nd rfl (by first | exact Or.inl rfl | exact Or.inr rfl) (pe_fn (fn_sections_of T) (hr.mono (by decide)) rfl (pa_cons (pv 1) pa_nil)))
      (pss_one (ps_ret (pe_lc (own := [("section", 3)]) rfl sc_shared_sections.nd (pi_list (pe_fn (fn_sections_of T) (hr.mono (by decide)) rfl (pa_cons (pv 0) pa_nil))) (blkOk_by (N := ["route", "other", "others", "section"]) (sc := defScope s_shared_sections) (by decide +kernel)) (fun _ _ _ _ _ => (pg_name (i := 3) sc_shared_sections.nd rfl (by first | exact Or.inl rfl | exact Or.inr rfl))) (fun _ _ _ _ _ => (pts_one (pt_cmpR (op_in_seqK (K := K) rfl) (pv 3) (pv 2) rfl))) (fun _ _ _ _ _ => (pv 3)))))), ?_⟩
    refine ⟨_, rfl, u, o, rfl, ho1, hl2, fun oa H1 hoa s1 h1 => ?_⟩
    refine ⟨_, rfl, v, r, rfl, hr1.keep (Same.tups s1), hl1, fun sa H2 hsa s2 h2 => ⟨sa, rfl, ⟨_, SqL.of h2⟩, fun D hD => ?_⟩⟩
    have s12 := s1.trans s2
    have hD0 : H D = none := s12.free hD
    have hrl : r.sects.length = r.steps.length := by unfold Route.sects; simp
    refine lc_list (K := K) (a := sa) (xs := nV r.sects) (fun i H' => Same H2 H' ∧ H' D = some (.lst (nV ((r.sects.take i).filter fun i => o.sects.contains i))))
      ⟨Same.new1 hD, upd_same⟩ (fun i H' _ q => SqL.of (q.1 _ _ h2)) ?_ ?_
    · rintro i v' H' hi ⟨hs, hd⟩
      obtain ⟨x, hx, rfl⟩ := getm hi
      have hil : i < r.sects.length := (List.getElem?_eq_some_iff.mp hx).1
      refine ⟨rfl, _, rfl, _, rfl, oa, _, rfl, .inl (SqL.of (hs _ _ (s2 _ _ h1))), rfl, flat_nat _, _, rfl, ?_⟩
      show if inV (V.int (x : Int)) _ = true then _ else _
      rw [inV_nat]
      refine ite2 (fun z => ?_) (fun z => ?_)
      · refine ⟨_, rfl, _, hd, ?_, Same.wr hs hD, ?_⟩
        · have := List.length_filter_le (fun i => o.sects.contains i) (r.sects.take i)
          simp only [List.length_map, List.length_take] at this ⊢
          omega
        · rw [upd_same, take_snoc hx, List.filter_append, nV_append, List.filter_cons, if_pos z]
          rfl
      · refine ⟨hs, ?_⟩
        rw [hd, take_snoc hx, List.filter_append, List.filter_cons, if_neg z]
        simp
    · rintro H' ⟨hs, hd⟩
      rw [List.length_map, List.take_length] at hd
      exact k D H' hD0 (s12.trans hs) hd
def spConf : Sp := fun vs H Q _ => ∃ (v u : V) (r o : Route), vs = [v, u] ∧ routeR H v r ∧ routeR H u o ∧ r.steps.length ≤ 17 ∧ o.steps.length ≤ 17 ∧ retV H Q (.bl (Yh.conflict r o))
theorem shared_any (r o : Route) : decide ((0 : Int) < ((nV (shared r o)).length : Int)) = Yh.conflict r o := by
  unfold shared Yh.conflict
  rw [Bool.eq_iff_iff]
  simp only [decide_eq_true_eq, List.any_eq_true, List.length_map]
  constructor
  · intro h
    have h : 0 < (r.sects.filter fun i => o.sects.contains i).length := by omega
    obtain ⟨x, hx⟩ := List.exists_mem_of_length_pos h
    exact ⟨x, (List.mem_filter.mp hx).1, (List.mem_filter.mp hx).2⟩
  · rintro ⟨x, h1, h2⟩
    have h3 : 0 < (r.sects.filter fun i => o.sects.contains i).length := List.length_pos_of_mem (List.mem_filter.mpr ⟨h1, h2⟩)
    show (0 : Int) < ((r.sects.filter fun i => o.sects.contains i).length : Int)
    omega
theorem fn_in_conflict (T : Txt K mg CP CB) : Fn P w K mg base 3 "in_conflict" ["route", "other"] spConf := by
  refine T.f_in_conflict.ok sc_in_conflict (fun vs H Q E h => ?_) (fun f cdv A' outer s H vs Q E hr h => ?_)
  · obtain ⟨v, u, r, o, rfl, _⟩ := h
    rfl
  · obtain ⟨v, u, r, o, rfl, hr1, ho1, hl1, hl2, k⟩ := h
    refine ⟨_, (pss_one (ps_ret (pe_cmpR op_gt (pe_callB call_len_seq rfl T.b_len PySem.boot_len (pa_cons (pe_fn (fn_shared_sections T) (hr.mono (by decide)) rfl (pa_cons (pv 0) (pa_cons (pv 1) pa_nil))) pa_nil)) pe_int (nomark _)))), ?_⟩
    refine ⟨_, rfl, _, rfl, v, u, r, o, rfl, hr1, ho1, hl1, hl2, fun q H1 hq s1 h1 => ⟨q, _, rfl, .inl (SqL.of h1), _, _, rfl, rfl, ?_⟩⟩
    show Q (.bl (decide ((0 : Int) < ((nV (shared r o)).length : Int)))) H1
    rw [shared_any]
    exact k H1 s1
end
end YP
namespace YP
open Yh (Route)
def rt (R : List Route) (k : Nat) : Route := (R[k]?).getD ⟨0, []⟩
def prs (R : List Route) (ks : List Nat) : List (Nat × Route) := ks.map fun k => (k, rt R k)
theorem rt_get {R : List Route} {k : Nat} {r : Route} (h : R[k]? = some r) : rt R k = r := by unfold rt; rw [h]; rfl
theorem mapM_some {α β : Type} {f : α → Option β} {g : α → β} : ∀ {l : List α}, (∀ x ∈ l, f x = some (g x)) → l.mapM f = some (l.map g)
  | [], _ => rfl
  | a :: l, h => by
    rw [List.mapM_cons, h a (List.mem_cons_self ..), mapM_some fun x hx => h x (List.mem_cons_of_mem _ hx)]
    rfl
theorem mapM_none {α β : Type} {f : α → Option β} : ∀ {l : List α}, (∃ x ∈ l, f x = none) → l.mapM f = none
  | [], h => by obtain ⟨x, hx, _⟩ := h; simp at hx
  | a :: l, h => by
    rw [List.mapM_cons]
    cases e : f a with
    | none => rfl
    | some b =>
      obtain ⟨x, hx, hn⟩ := h
      rcases List.mem_cons.mp hx with rfl | hx
      · rw [e] at hn; cases hn
      · rw [mapM_none ⟨x, hx, hn⟩]
        rfl
theorem pick_some {R : List Route} {ks : List Nat} (h : ∀ k ∈ ks, k < R.length) : Wqatdn.pick R ks = some (prs R ks) := by
  unfold Wqatdn.pick prs
  refine mapM_some (g := fun k => (k, rt R k)) fun k hk => ?_
  have e := List.getElem?_eq_getElem (h k hk)
  rw [rt_get e, e]
  rfl
theorem pick_none {R : List Route} {ks : List Nat} (h : ¬ ∀ k ∈ ks, k < R.length) : Wqatdn.pick R ks = none := by
  unfold Wqatdn.pick
  refine mapM_none ?_
  by_cases z : ∃ k ∈ ks, ¬ k < R.length
  · obtain ⟨k, h1, h2⟩ := z
    exact ⟨k, h1, by rw [List.getElem?_eq_none (by omega)]; rfl⟩
  · exact absurd (fun k hk => Classical.byContradiction fun q => z ⟨k, hk, q⟩) h
def stepT (a : List (Nat × Route)) (x : Nat × Route) : List (Nat × Route) := if (a.any fun (y : Nat × Route) => Yh.conflict y.2 x.2) = true then a else a ++ [x]
theorem together_eq (l : List (Nat × Route)) : Yh.together l = (l.foldl stepT []).map (·.1) := rfl
theorem used_any (acc : List (Nat × Route)) (r : Route) : (r.sects.any fun s => (acc.flatMap fun y => y.2.sects).contains s) = acc.any fun y => Yh.conflict y.2 r := by
  unfold Yh.conflict
  rw [Bool.eq_iff_iff]
  simp only [List.any_eq_true, List.contains_iff_mem, List.mem_flatMap]
  constructor
  · rintro ⟨s, h1, y, h2, h3⟩
    exact ⟨y, h2, s, h3, h1⟩
  · rintro ⟨y, h2, s, h3, h1⟩
    exact ⟨s, h1, y, h2, h3⟩
abbrev PR := Nat × Route
def stepM (b x : List PR) : List PR := if Yh.peaceful x = true ∧ b.length < x.length then x else b
def sel (L : List (List PR)) : List PR := L.foldl stepM []
theorem sel_from : ∀ (L : List (List PR)) (b : List PR), L.foldl stepM b = if b.length < (sel L).length then sel L else b
  | [], b => by simp [sel]
  | x :: L, b => by
    have h1 := sel_from L (stepM b x)
    have h2 := sel_from L (stepM [] x)
    show L.foldl stepM (stepM b x) = if b.length < (L.foldl stepM (stepM [] x)).length then L.foldl stepM (stepM [] x) else b
    rw [h1, h2]
    unfold stepM
    by_cases hp : Yh.peaceful x = true
    · by_cases h0 : x.length = 0
      · simp only [h0, Nat.not_lt_zero, and_false, if_false, List.length_nil]
        by_cases hb : b.length < (sel L).length
        · rw [if_pos hb, if_pos (by omega : 0 < (sel L).length), if_pos hb]
        · rw [if_neg hb]
          by_cases hz : 0 < (sel L).length
          · rw [if_pos hz, if_neg hb]
          · rw [if_neg hz, if_neg (by simp)]
      · have hx : 0 < x.length := by omega
        simp only [hp, List.length_nil, hx, and_self, if_true, true_and]
        by_cases hbx : b.length < x.length
        · rw [if_pos hbx]
          by_cases hs : x.length < (sel L).length
          · rw [if_pos hs, if_pos (by omega)]
          · rw [if_neg hs, if_pos hbx]
        · rw [if_neg hbx]
          by_cases hs : x.length < (sel L).length
          · rw [if_pos hs]
          · rw [if_neg hs, if_neg hbx, if_neg (by omega)]
    · simp only [hp, Bool.false_eq_true, false_and, if_false, List.length_nil]
      by_cases hb : b.length < (sel L).length
      · rw [if_pos hb, if_pos (by omega : 0 < (sel L).length), if_pos hb]
      · rw [if_neg hb]
        by_cases hz : 0 < (sel L).length
        · rw [if_pos hz, if_neg hb]
        · rw [if_neg hz, if_neg (by simp)]
def goodBy (x : PR) (y : PR) : Bool := !Yh.conflict x.2 y.2
theorem parts_filter (f : PR → Bool) : ∀ r : List PR, Yh.partsOf (r.filter f) = (Yh.partsOf r).filter fun l => l.all f
  | [] => rfl
  | x :: r => by
    have ih := parts_filter f r
    show Yh.partsOf ((x :: r).filter f) = ((Yh.partsOf r).map (fun l => x :: l) ++ Yh.partsOf r).filter fun l => l.all f
    rw [List.filter_append, List.filter_map]
    by_cases hx : f x = true
    · rw [List.filter_cons, if_pos hx]
      show (Yh.partsOf (r.filter f)).map (fun l => x :: l) ++ Yh.partsOf (r.filter f) = _
      rw [ih]
      congr 2
      apply List.filter_congr
      intro l _
      simp [hx]
    · rw [List.filter_cons, if_neg hx, ih]
      have : (Yh.partsOf r).filter ((fun l => l.all f) ∘ fun l => x :: l) = [] := by
        rw [List.filter_eq_nil_iff]
        intro l _
        simp [hx]
      rw [this]
      rfl
theorem peaceful_cons (x : PR) (y : List PR) : Yh.peaceful (x :: y) = (y.all (goodBy x) && Yh.peaceful y) := rfl
theorem sel_cons (x : PR) : ∀ (L : List (List PR)) (b : List PR), (L.map fun l => x :: l).foldl stepM (x :: b) = x :: (L.filter fun l => l.all (goodBy x)).foldl stepM b
  | [], b => rfl
  | y :: L, b => by
    rw [List.map_cons, List.foldl_cons, List.filter_cons]
    by_cases hg : y.all (goodBy x) = true
    · rw [if_pos hg, List.foldl_cons]
      have e : stepM (x :: b) (x :: y) = x :: stepM b y := by
        unfold stepM
        rw [peaceful_cons, hg, Bool.true_and]
        simp only [List.length_cons, Nat.add_lt_add_iff_right]
        split <;> rfl
      rw [e, sel_cons x L]
    · rw [if_neg hg]
      have e : stepM (x :: b) (x :: y) = x :: b := by
        unfold stepM
        rw [peaceful_cons, show y.all (goodBy x) = false by simpa using hg, Bool.false_and]
        simp
      rw [e, sel_cons x L]
theorem sel_start (x : PR) : ∀ (L : List (List PR)), [] ∈ L → (L.map fun l => x :: l).foldl stepM [] = (L.map fun l => x :: l).foldl stepM [x]
  | [], h => by simp at h
  | y :: L, h => by
    rw [List.map_cons, List.foldl_cons, List.foldl_cons]
    by_cases hg : Yh.peaceful (x :: y) = true
    · have e1 : stepM [] (x :: y) = x :: y := by unfold stepM; rw [if_pos ⟨hg, by simp⟩]
      have e2 : stepM [x] (x :: y) = x :: y := by
        unfold stepM
        by_cases hy : y = []
        · rw [hy]; simp
        · rw [if_pos ⟨hg, by have := List.length_pos_iff.mpr hy; simp; omega⟩]
      rw [e1, e2]
    · have e1 : stepM [] (x :: y) = [] := by unfold stepM; rw [if_neg (fun z => hg z.1)]
      have e2 : stepM [x] (x :: y) = [x] := by unfold stepM; rw [if_neg (fun z => hg z.1)]
      rw [e1, e2]
      refine sel_start x L ?_
      rcases List.mem_cons.mp h with z | z
      · subst z
        exact absurd rfl hg
      · exact z
theorem nil_parts : ∀ r : List PR, [] ∈ Yh.partsOf r
  | [] => by simp [Yh.partsOf]
  | x :: r => by
    show [] ∈ (Yh.partsOf r).map (fun l => x :: l) ++ Yh.partsOf r
    exact List.mem_append.mpr (.inr (nil_parts r))
theorem sel_parts (x : PR) (r : List PR) : sel (Yh.partsOf (x :: r)) = if (x :: sel (Yh.partsOf (r.filter (goodBy x)))).length < (sel (Yh.partsOf r)).length then sel (Yh.partsOf r) else x :: sel (Yh.partsOf (r.filter (goodBy x))) := by
  have e : sel (Yh.partsOf (x :: r)) = (Yh.partsOf r).foldl stepM (((Yh.partsOf r).map fun l => x :: l).foldl stepM []) := by
    show ((Yh.partsOf r).map (fun l => x :: l) ++ Yh.partsOf r).foldl stepM [] = _
    rw [List.foldl_append]
  rw [e, sel_start x _ (nil_parts r), sel_cons x, ← parts_filter, sel_from]
  rfl
def mostR (R : List Route) : Nat → List Nat → List Nat
  | 0, _ => []
  | _ + 1, [] => []
  | n + 1, k :: ks =>
    let beside := ks.filter fun m => !Yh.conflict (rt R k) (rt R m)
    let taking := k :: mostR R n beside
    if beside.length = ks.length then taking else
      let leaving := mostR R n ks
      if leaving.length ≤ taking.length then taking else leaving
theorem mostR_sel (R : List Route) : ∀ (n : Nat) (ks : List Nat), ks.length < n → prs R (mostR R n ks) = sel (Yh.partsOf (prs R ks))
  | 0, ks, h => by omega
  | n + 1, [], _ => rfl
  | n + 1, k :: ks, h => by
    have hl : ks.length < n := by simp at h; omega
    have hf : (prs R ks).filter (goodBy (k, rt R k)) = prs R (ks.filter fun m => !Yh.conflict (rt R k) (rt R m)) := by
      unfold prs
      rw [List.filter_map]
      rfl
    have hb : (ks.filter fun m => !Yh.conflict (rt R k) (rt R m)).length < n := Nat.lt_of_le_of_lt (List.length_filter_le _ _) hl
    have ih1 := mostR_sel R n ks hl
    have ih2 := mostR_sel R n (ks.filter fun m => !Yh.conflict (rt R k) (rt R m)) hb
    have hlen : ∀ l : List Nat, (prs R l).length = l.length := fun l => by unfold prs; simp
    show prs R (if (ks.filter fun m => !Yh.conflict (rt R k) (rt R m)).length = ks.length then k :: mostR R n (ks.filter fun m => !Yh.conflict (rt R k) (rt R m)) else
      if (mostR R n ks).length ≤ (k :: mostR R n (ks.filter fun m => !Yh.conflict (rt R k) (rt R m))).length then k :: mostR R n (ks.filter fun m => !Yh.conflict (rt R k) (rt R m)) else mostR R n ks) = sel (Yh.partsOf ((k, rt R k) :: prs R ks))
    rw [sel_parts, hf, ← ih1, ← ih2]
    have e1 : ((k, rt R k) :: prs R (mostR R n (ks.filter fun m => !Yh.conflict (rt R k) (rt R m)))) = prs R (k :: mostR R n (ks.filter fun m => !Yh.conflict (rt R k) (rt R m))) := rfl
    rw [e1, hlen, hlen]
    by_cases hc : (ks.filter fun m => !Yh.conflict (rt R k) (rt R m)).length = ks.length
    · rw [if_pos hc]
      have he : (ks.filter fun m => !Yh.conflict (rt R k) (rt R m)) = ks := by
        rw [List.filter_eq_self]
        exact List.length_filter_eq_length_iff.mp hc
      rw [he, if_neg (by simp)]
    · rw [if_neg hc]
      by_cases hd : (mostR R n ks).length ≤ (k :: mostR R n (ks.filter fun m => !Yh.conflict (rt R k) (rt R m))).length
      · rw [if_pos hd, if_neg (by omega)]
      · rw [if_neg hd, if_pos (by omega)]
theorem most_eq (R : List Route) {n : Nat} {ks : List Nat} (h : ks.length < n) : Yh.most (prs R ks) = mostR R n ks := by
  have e : Yh.most (prs R ks) = (sel (Yh.partsOf (prs R ks))).map (·.1) := rfl
  rw [e, ← mostR_sel R n ks h]
  unfold prs
  rw [List.map_map]
  simp [Function.comp_def]
theorem mostR_len (R : List Route) : ∀ (n : Nat) (ks : List Nat), (mostR R n ks).length ≤ ks.length
  | 0, ks => by simp [mostR]
  | n + 1, [] => by simp [mostR]
  | n + 1, k :: ks => by
    have h1 := mostR_len R n ks
    have h2 := mostR_len R n (ks.filter fun m => !Yh.conflict (rt R k) (rt R m))
    have h3 := List.length_filter_le (fun m => !Yh.conflict (rt R k) (rt R m)) ks
    unfold mostR
    simp only
    split
    · simp; omega
    · split
      · simp; omega
      · simp; omega
end YP
namespace YP
open PySem PySem.Spec PyProof.Rows L2
open Yh (Bytes Spot Sect Plan Route)
theorem stepT_len (R : List Route) : ∀ (l : List (Nat × Route)) (a : List (Nat × Route)), (l.foldl stepT a).length ≤ a.length + l.length
  | [], a => by simp
  | x :: l, a => by
    have h := stepT_len R l (stepT a x)
    have h2 : (stepT a x).length ≤ a.length + 1 := by
      unfold stepT
      split <;> simp
    show (l.foldl stepT (stepT a x)).length ≤ _
    simp
    omega
theorem flat17 {l : List (Nat × Route)} (h : ∀ x ∈ l, x.2.steps.length ≤ 17) : (l.flatMap fun y => y.2.sects).length ≤ 17 * l.length := by
  induction l with
  | nil => simp
  | cons x l ih =>
    have h1 := h x (List.mem_cons_self ..)
    have h2 := ih fun y hy => h y (List.mem_cons_of_mem _ hy)
    have h3 : x.2.sects.length = x.2.steps.length := by unfold Route.sects; simp
    rw [List.flatMap_cons, List.length_append, List.length_cons]
    omega
theorem stepT_mem {Pr : Nat × Route → Prop} : ∀ (l : List (Nat × Route)) (a : List (Nat × Route)), (∀ x ∈ a, Pr x) → (∀ x ∈ l, Pr x) → ∀ x ∈ l.foldl stepT a, Pr x
  | [], a, ha, _ => ha
  | x :: l, a, ha, hl => by
    refine stepT_mem l (stepT a x) ?_ (fun y hy => hl y (List.mem_cons_of_mem _ hy))
    unfold stepT
    split
    · exact ha
    · intro y hy
      rcases List.mem_append.mp hy with z | z
      · exact ha y z
      · rw [List.mem_singleton.mp z]; exact hl x (List.mem_cons_self ..)
theorem rt_mem {R : List Route} {k : Nat} (h : k < R.length) : rt R k ∈ R := by
  have e := List.getElem?_eq_getElem h
  rw [rt_get e]
  exact List.getElem_mem h
section
variable {P : Program} {w : World} {K : PySem.W.Frag} {mg : Str → Option Value} {base : Heap} {CP CB : Addr}
structure RtAt (H : Hp) (ra : Addr) (R : List Route) : Prop where
  ex : ∃ vs, H ra = some (.lst vs) ∧ Paired (routeR H) vs R
  short : ∀ r ∈ R, r.steps.length ≤ 17
theorem RtAt.same {H H' : Hp} (s : Same H H') {ra : Addr} {R : List Route} (h : RtAt H ra R) : RtAt H' ra R := by
  obtain ⟨vs, h1, h2⟩ := h.ex
  exact ⟨⟨vs, s _ _ h1, paired_imp h2 fun _ _ _ r => r.keep (Same.tups s)⟩, h.short⟩
theorem RtAt.get {H : Hp} {ra : Addr} {R : List Route} (h : RtAt H ra R) {k : Nat} (hk : k < R.length) : ∃ vs v, H ra = some (.lst vs) ∧ vs[k]? = some v ∧ routeR H v (rt R k) ∧ (rt R k).steps.length ≤ 17 := by
  obtain ⟨vs, h1, h2⟩ := h.ex
  have e := List.getElem?_eq_getElem hk
  obtain ⟨v, hv, hr⟩ := paired_get2 h2 e
  rw [← rt_get e] at hr
  exact ⟨vs, v, h1, hv, hr, h.short _ (rt_mem hk)⟩
def spTakenIn : Sp := fun vs H Q _ => ∃ (ra na : Addr) (R : List Route) (ks : List Nat), vs = [.ref ra, .ref na] ∧ RtAt H ra R ∧ H na = some (.lst (nV ks)) ∧ (∀ k ∈ ks, k < R.length) ∧ ks.length ≤ 30000 ∧ retL H Q (nV (Yh.together (prs R ks)))
theorem fn_taken_in_turn (T : Txt K mg CP CB) : Fn P w K mg base 2 "taken_in_turn" ["routes", "numbers"] spTakenIn := by
  refine T.f_taken_in_turn.ok sc_taken_in_turn (fun vs H Q E h => ?_) (fun f cdv A' outer s H vs Q E hr h => ?_)
  · obtain ⟨ra, na, R, ks, rfl, _⟩ := h
    rfl
  · obtain ⟨ra, na, R, ks, rfl, hR, hn, hlt, hz, k⟩ := h
    have hsl := sizeLine_eq
    refine ⟨_, (pss_cons (ps_set (i := 2) sc_taken_in_turn.nd rfl (by first | exact Or.inl rfl | exact Or.inr rfl) (pe_lst pa_nil))
      (pss_cons (ps_set (i := 3) sc_taken_in_turn.nd rfl (by first | exact Or.inl rfl | exact Or.inr rfl) (pe_lst pa_nil))
      (pss_cons (ps_for PassesOwn.never rfl (pi_list (pv 1)) (pg_name (i := 4) sc_taken_in_turn.nd rfl (by first | exact Or.inl rfl | exact Or.inr rfl)) (pss_cons (ps_set (i := 5) sc_taken_in_turn.nd rfl (by first | exact Or.inl rfl | exact Or.inr rfl) (pe_fn (fn_sections_of T) (hr.mono (by decide)) rfl (pa_cons (pe_ix ix_list (pv 0) (pv 4) (fun _ _ => rfl)) pa_nil)))
      (pss_one (ps_if (pt_not (pt_val (pe_callB (cr_any rfl) rfl T.b_any PyProof.Rows.boot_any (pa_cons (pe_lc (own := [("section", 6)]) rfl sc_taken_in_turn.nd (pi_list (pv 5)) (blkOk_by (N := ["routes", "numbers", "taken", "used", "number", "sections", "section"]) (sc := defScope s_taken_in_turn) (by decide +kernel)) (fun _ _ _ _ _ => (pg_name (i := 6) sc_taken_in_turn.nd rfl (by first | exact Or.inl rfl | exact Or.inr rfl))) (fun _ _ _ _ _ => pts_nil) (fun _ _ _ _ _ => (pe_cmpR (op_in_seqK (K := K) rfl) (pv 6) (pv 3) rfl))) pa_nil)))) (pss_cons (ps_expr (pe_bm PySem.F.plainAttrs_list PySem.F.slot_list_append PySem.F.type_list_append mt_append (pv 2) (pa_cons (pv 4) pa_nil)))
      (pss_one (ps_expr (pe_bm PySem.F.plainAttrs_list PySem.F.slot_list_extend PySem.F.type_list_extend mt_extend (pv 3) (pa_cons (pv 5) pa_nil))))) pss_nil))))
      (pss_one (ps_ret (pv 2)))))), ?_⟩
    refine ⟨Nat.zero_le _, fun ta hta => ?_⟩
    refine ⟨Nat.zero_le _, fun ua hua => ?_⟩
    have s1 : Same H (upd H ta (.lst [])) := Same.new1 hta
    have s2 := Same.new (o := .lst []) s1 hua
    have ntu : ta ≠ ua := ne_of_none upd_same hua
    have huaH : H ua = none := s1.free hua
    refine ⟨_, rfl, na, rfl, ⟨_, SqL.of (s2 _ _ hn)⟩, for_list (K := K) (a := na) (xs := nV ks) (fun i σ H' => ∃ v4 v5, σ = [some (.ref ra), some (.ref na), some (.ref ta), some (.ref ua), v4, v5, none] ∧ Same H H' ∧ H' ta = some (.lst (nV (((prs R (ks.take i)).foldl stepT []).map (·.1)))) ∧ H' ua = some (.lst (nV (((prs R (ks.take i)).foldl stepT []).flatMap fun y => y.2.sects))))
      ⟨none, none, rfl, s2, by rw [upd_ne ntu]; exact upd_same, upd_same⟩ (fun i σ H' _ ⟨_, _, _, hs, _⟩ => SqL.of (hs _ _ hn)) ?_ ?_⟩
    · rintro i y σ H' hi ⟨v4, v5, rfl, hs, ht, hu⟩
      obtain ⟨kk, hk, rfl⟩ := getm hi
      have hil : i < ks.length := (List.getElem?_eq_some_iff.mp hk).1
      have hkl := hlt kk (List.mem_of_getElem? hk)
      obtain ⟨vs, v, g1, g2, g3, g4⟩ := (hR.same hs).get hkl
      have eacc : (prs R (ks.take (i + 1))).foldl stepT [] = stepT ((prs R (ks.take i)).foldl stepT []) (kk, rt R kk) := by
        rw [take_snoc hk]
        unfold prs
        rw [List.map_append, List.foldl_append]
        rfl
      have hal := stepT_len R (prs R (ks.take i)) []
      have hpl : (prs R (ks.take i)).length ≤ i := by unfold prs; simp; omega
      have hfl := flat17 (l := (prs R (ks.take i)).foldl stepT []) (stepT_mem (Pr := fun x => x.2.steps.length ≤ 17) _ _ (by simp) (fun x hx => by
        obtain ⟨k', hk', rfl⟩ := List.mem_map.mp hx
        exact hR.short _ (rt_mem (hlt k' (List.mem_of_mem_take hk')))))
      generalize (prs R (ks.take i)).foldl stepT [] = acc at ht hu eacc hal hfl
      simp only [List.length_nil] at hal
      refine ⟨_, rfl, _, rfl, ra, _, _, v, rfl, rfl, SqL.of g1, atI_nat g2, v, rt R kk, rfl, g3, g4, fun sa H2 hsa s3 h3 => ?_⟩
      have hslen : (rt R kk).sects.length ≤ 17 := by unfold Route.sects; simpa using g4
      have ht2 : H2 ta = _ := s3 _ _ ht
      have hu2 : H2 ua = _ := s3 _ _ hu
      have nsu : sa ≠ ua := fun z => by rw [z, hu] at hsa; cases hsa
      have nst : sa ≠ ta := fun z => by rw [z, ht] at hsa; cases hsa
      refine ⟨_, rfl, sa, rfl, ⟨_, SqL.of h3⟩, fun D hD => lc_list (K := K) (a := sa) (xs := nV (rt R kk).sects) (fun j H'' => Same H2 H'' ∧ H'' D = some (.lst ((((rt R kk).sects.take j).map fun s => (acc.flatMap fun y => y.2.sects).contains s).map V.bl)))
        ⟨Same.new1 hD, upd_same⟩ (fun j H'' _ q => SqL.of (q.1 _ _ h3)) ?_ ?_⟩
      · rintro j y' H'' hj ⟨hs', hd⟩
        obtain ⟨x, hx, rfl⟩ := getm hj
        have hjl : j < (rt R kk).sects.length := (List.getElem?_eq_some_iff.mp hx).1
        refine ⟨rfl, yes_of ⟨_, rfl, _, rfl, ua, _, rfl, .inl (SqL.of (hs' _ _ hu2)), rfl, flat_nat _, ?_⟩⟩
        refine ⟨_, hd, ?_, Same.wr hs' hD, ?_⟩
        · simp only [List.length_map, List.length_take]; omega
        · rw [upd_same, take_snoc hx, List.map_append, List.map_append]
          show some (HO.lst (_ ++ [V.bl (inV (V.int (x : Int)) _)])) = _
          rw [inV_nat]
          rfl
      · rintro H3 ⟨s4, hd⟩
        rw [List.length_map, List.take_length] at hd
        refine ⟨D, _, rfl, SqL.of hd, _, rfl, ?_⟩
        have eany : (((rt R kk).sects.map fun s => (acc.flatMap fun y => y.2.sects).contains s).any id) = acc.any fun y => Yh.conflict y.2 (rt R kk) := by
          rw [← used_any, List.any_map]
          rfl
        rw [eany]
        have hs4 := (hs.trans s3).trans s4
        have ht3 := s4 _ _ ht2
        have hu3 := s4 _ _ hu2
        refine ite2 (fun z => ?_) (fun z => ?_)
        · have z' : ¬ (acc.any fun y => Yh.conflict y.2 (rt R kk)) = true := by simpa using z
          have e2 : stepT acc (kk, rt R kk) = acc ++ [(kk, rt R kk)] := by unfold stepT; rw [if_neg z']
          refine ⟨_, rfl, .inl ⟨rfl, _, SqL.of ht3⟩, _, rfl, ta, _, _, rfl, rfl, ht3, (by rw [List.length_map, List.length_map]; omega), ?_⟩
          have hu4 : upd H3 ta (.lst (nV (acc.map (·.1)) ++ [.int (kk : Int)])) ua = some (.lst (nV (acc.flatMap fun y => y.2.sects))) := by rw [upd_ne (Ne.symm ntu)]; exact hu3
          refine ⟨_, rfl, .inl ⟨rfl, _, SqL.of hu4⟩, _, rfl, ua, sa, _, _, rfl, rfl, hu4, (by rw [upd_ne nst]; exact s4 _ _ h3), (by rw [List.length_map, List.length_map]; omega), ?_⟩
          refine ⟨_, _, rfl, Same.wr (Same.wr hs4 hta) huaH, ?_, ?_⟩
          · rw [upd_ne ntu, upd_same, eacc, e2, List.map_append, nV_append]
            rfl
          · rw [upd_same, eacc, e2, List.flatMap_append, nV_append]
            simp
        · have z' : (acc.any fun y => Yh.conflict y.2 (rt R kk)) = true := by simpa using z
          have e2 : stepT acc (kk, rt R kk) = acc := by unfold stepT; rw [if_pos z']
          refine ⟨_, _, rfl, hs4, ?_, ?_⟩
          · rw [eacc, e2]; exact ht3
          · rw [eacc, e2]; exact hu3
    · rintro σ H' ⟨v4, v5, rfl, hs, ht, hu⟩
      rw [List.length_map, List.take_length] at ht
      rw [together_eq] at k
      exact ⟨_, rfl, k ta H' hta hs ht⟩
def spMostAt (n : Nat) : Sp := fun vs H Q _ => ∃ (ra na : Addr) (R : List Route) (ks : List Nat), vs = [.ref ra, .ref na] ∧ RtAt H ra R ∧ H na = some (.lst (nV ks)) ∧ (∀ k ∈ ks, k < R.length) ∧ ks.length < n ∧ n ≤ 1000 ∧ retL H Q (nV (mostR R n ks))
theorem fn_most (T : Txt K mg CP CB) : ∀ n : Nat, Fn P w K mg base (n + 4) "most_at_once" ["routes", "numbers"] (spMostAt n)
  | 0 => by
    refine (T.f_most_at_once.ok (k := 0) sc_most_at_once (fun vs H Q E h => ?_) (fun f cdv A' outer s H vs Q E hr h => ?_)).mono (by omega)
    · obtain ⟨ra, na, R, ks, rfl, _⟩ := h
      rfl
    · obtain ⟨ra, na, R, ks, rfl, hR, hn, hlt, hl, _⟩ := h
      omega
  | n + 1 => by
    have F := fn_most T n
    refine T.f_most_at_once.ok (k := n + 4) sc_most_at_once (fun vs H Q E h => ?_) (fun f cdv A' outer s H vs Q E hr h => ?_)
    · obtain ⟨ra, na, R, ks, rfl, _⟩ := h
      rfl
    · obtain ⟨ra, na, R, ks, rfl, hR, hn, hlt, hl, hn1000, k⟩ := h
      have hsl := sizeLine_eq
      refine ⟨_, (pss_cons (ps_if (pt_cmpR op_eq (pe_callB call_len_seq rfl T.b_len PySem.boot_len (pa_cons (pv 1) pa_nil)) pe_int (nomark _)) (pss_one (ps_ret (pe_lst pa_nil))) pss_nil)
      (pss_cons (ps_set (i := 2) sc_most_at_once.nd rfl (by first | exact Or.inl rfl | exact Or.inr rfl) (pe_ix ix_list (pv 1) pe_int (fun _ _ => rfl)))
      (pss_cons (ps_set (i := 3) sc_most_at_once.nd rfl (by first | exact Or.inl rfl | exact Or.inr rfl) (pe_slice sl_list (pv 1) (po_some pe_int) po_none))
      (pss_cons (ps_setLc (i := 4) (own := [("number", 5)]) rfl sc_most_at_once.nd rfl rfl (sw_true rfl rfl rfl (by decide +kernel)) (pi_list (pv 3)) (blkOk_by (N := ["routes", "numbers", "first", "behind", "beside", "number", "taking", "leaving"]) (sc := defScope s_most_at_once) (by decide +kernel)) (fun _ _ _ _ _ => (pg_name (i := 5) sc_most_at_once.nd rfl (by first | exact Or.inl rfl | exact Or.inr rfl))) (fun _ _ _ _ _ => (pts_one (pt_not (pt_val (pe_fn (fn_in_conflict T) (hr.mono (by omega)) rfl (pa_cons (pe_ix (ix_listK (K := K) rfl) (pv 0) (pv 2) (fun _ _ => rfl)) (pa_cons (pe_ix (ix_listK (K := K) rfl) (pv 0) (pv 5) (fun _ _ => rfl)) pa_nil))))))) (fun _ _ _ _ _ => (pv 5)))
      (pss_cons (ps_set (i := 6) sc_most_at_once.nd rfl (by first | exact Or.inl rfl | exact Or.inr rfl) (pe_op op_cat (pe_lst (pa_cons (pv 2) pa_nil)) (pe_fn F hr rfl (pa_cons (pv 0) (pa_cons (pv 4) pa_nil)))))
      (pss_cons (ps_if (pt_cmpR op_eq (pe_callB call_len_seq rfl T.b_len PySem.boot_len (pa_cons (pv 4) pa_nil)) (pe_callB call_len_seq rfl T.b_len PySem.boot_len (pa_cons (pv 3) pa_nil)) (nomark _)) (pss_one (ps_ret (pv 6))) pss_nil)
      (pss_cons (ps_set (i := 7) sc_most_at_once.nd rfl (by first | exact Or.inl rfl | exact Or.inr rfl) (pe_fn F hr rfl (pa_cons (pv 0) (pa_cons (pv 3) pa_nil))))
      (pss_one (ps_ret (pe_ifExp (pt_cmpR op_ge (pe_callB call_len_seq rfl T.b_len PySem.boot_len (pa_cons (pv 6) pa_nil)) (pe_callB call_len_seq rfl T.b_len PySem.boot_len (pa_cons (pv 7) pa_nil)) (nomark _)) (pv 6) (pv 7))))))))))), ?_⟩
      refine ⟨_, rfl, na, _, rfl, .inl (SqL.of hn), rfl, _, rfl, ?_⟩
      show if decide (V.int (((nV ks).length : Nat) : Int) = V.int ((0 : Nat) : Int)) = true then _ else _
      rw [decI, List.length_map]
      cases ks with
      | nil => exact iteT ⟨Nat.zero_le _, fun q hq => k q _ hq (Same.new1 hq) upd_same⟩
      | cons k0 ks =>
        refine iteF ?_
        have hl' : ks.length < n := by simp at hl; omega
        refine ⟨_, rfl, na, _, _, _, rfl, rfl, SqL.of hn, atI_nat (j := 0) rfl, ?_⟩
        refine ⟨_, rfl, _, rfl, na, _, rfl, SqL.of hn, fun be hbe => ?_⟩
        have ecut : cutV (nV (k0 :: ks)) (some 1) none = nV ks := cut_from (nV (k0 :: ks)) 1
        rw [ecut]
        have s1 : Same H (upd H be (.lst (nV ks))) := Same.new1 hbe
        have hk0 := hlt k0 (List.mem_cons_self ..)
        have hlt' : ∀ m ∈ ks, m < R.length := fun m hm => hlt m (List.mem_cons_of_mem _ hm)
        refine ⟨_, rfl, be, rfl, ⟨_, SqL.of upd_same⟩, fun D hD => lc_list (K := K) (a := be) (xs := nV ks) (fun i H' => Same (upd H be (.lst (nV ks))) H' ∧ H' D = some (.lst (nV ((ks.take i).filter fun m => !Yh.conflict (rt R k0) (rt R m)))))
          ⟨Same.new1 hD, upd_same⟩ (fun i H' _ q => SqL.of (q.1 _ _ upd_same)) ?_ ?_⟩
        · rintro i y H' hi ⟨hs, hd⟩
          obtain ⟨m, hm, rfl⟩ := getm hi
          have hil : i < ks.length := (List.getElem?_eq_some_iff.mp hm).1
          have hR' := hR.same (s1.trans hs)
          obtain ⟨vs, v, a1, a2, a3, a4⟩ := hR'.get hk0
          obtain ⟨vs2, v2, b1, b2, b3, b4⟩ := hR'.get (hlt' m (List.mem_of_getElem? hm))
          refine ⟨rfl, _, rfl, _, rfl, ra, _, _, v, rfl, rfl, SqL.of a1, atI_nat a2, _, rfl, _, rfl, ra, _, _, v2, rfl, rfl, SqL.of b1, atI_nat b2, v, v2, rt R k0, rt R m, rfl, a3, b3, a4, b4, fun H2 s2 => ⟨_, rfl, ite2 (fun z => ?_) (fun z => ?_)⟩⟩
          · refine ⟨_, rfl, _, s2 _ _ hd, ?_, Same.wr (hs.trans s2) hD, ?_⟩
            · have := List.length_filter_le (fun m => !Yh.conflict (rt R k0) (rt R m)) (ks.take i)
              simp only [List.length_map, List.length_take] at this ⊢
              omega
            · rw [upd_same, take_snoc hm, List.filter_append, nV_append, List.filter_cons, if_pos z]
              rfl
          · refine ⟨hs.trans s2, ?_⟩
            rw [s2 _ _ hd, take_snoc hm, List.filter_append, List.filter_cons, if_neg z]
            simp
        · rintro H2 ⟨s2, hd⟩
          rw [List.length_map, List.take_length] at hd
          have s12 := s1.trans s2
          have ek : mostR R (n + 1) (k0 :: ks) = (if (ks.filter fun m => !Yh.conflict (rt R k0) (rt R m)).length = ks.length then k0 :: mostR R n (ks.filter fun m => !Yh.conflict (rt R k0) (rt R m)) else if (mostR R n ks).length ≤ (k0 :: mostR R n (ks.filter fun m => !Yh.conflict (rt R k0) (rt R m))).length then k0 :: mostR R n (ks.filter fun m => !Yh.conflict (rt R k0) (rt R m)) else mostR R n ks) := rfl
          rw [ek] at k
          have hfl := List.length_filter_le (fun m => !Yh.conflict (rt R k0) (rt R m)) ks
          have hfm : ∀ m ∈ ks.filter (fun m => !Yh.conflict (rt R k0) (rt R m)), m < R.length := fun m hm => hlt' m (List.mem_filter.mp hm).1
          have hbe2 : H2 be = some (.lst (nV ks)) := s2 _ _ upd_same
          generalize hbd : (ks.filter fun m => !Yh.conflict (rt R k0) (rt R m)) = bs at hd k hfl hfm
          refine ⟨_, rfl, (by show 1 ≤ sizeLine; decide), fun l1 hl1 => ?_⟩
          have s3 := Same.new (o := .lst [.int (k0 : Int)]) s12 hl1
          have s3' : Same H2 (upd H2 l1 (.lst [.int (k0 : Int)])) := Same.new1 hl1
          refine ⟨_, rfl, _, rfl, ra, D, R, bs, rfl, hR.same s3, s3' _ _ hd, hfm, (by omega), (by omega), fun q H4 hq s4 h4 => ?_⟩
          have hml := mostR_len R n bs
          have hml2 := mostR_len R n ks
          refine ⟨l1, q, _, _, rfl, rfl, s4 _ _ upd_same, h4, (by simp only [List.length_map, List.length_cons, List.length_nil]; omega), fun ta hta => ?_⟩
          have s5 := Same.new (o := .lst ([.int (k0 : Int)] ++ nV (mostR R n bs))) (s3.trans s4) hta
          have s5' : Same H2 (upd H4 ta (.lst ([.int (k0 : Int)] ++ nV (mostR R n bs)))) := Same.new (s3'.trans s4) hta
          have htaH : H ta = none := (s3.trans s4).free hta
          refine ⟨_, rfl, D, _, rfl, .inl (SqL.of (s5' _ _ hd)), _, rfl, be, _, rfl, .inl (SqL.of (s5' _ _ hbe2)), rfl, _, rfl, ?_⟩
          rw [decI, List.length_map, List.length_map]
          refine ite2 (fun z => ?_) (fun z => ?_)
          · rw [if_pos (of_decide_eq_true z)] at k
            exact ⟨_, rfl, k ta _ htaH s5 upd_same⟩
          · rw [if_neg (fun q => z (decide_eq_true q))] at k
            refine ⟨_, rfl, _, rfl, ra, be, R, ks, rfl, hR.same s5, s5' _ _ hbe2, hlt', (by omega), (by omega), fun q2 H5 hq2 s6 h6 => ?_⟩
            have hta5 : H5 ta = _ := s6 _ _ upd_same
            refine ⟨_, rfl, ta, _, rfl, .inl (SqL.of hta5), _, rfl, q2, _, rfl, .inl (SqL.of h6), _, _, rfl, rfl, _, rfl, ite2 (fun z => ?_) (fun z => ?_)⟩
            · have hle : (mostR R n ks).length ≤ (k0 :: mostR R n bs).length := by
                have := of_decide_eq_true z
                simp only [List.length_append, List.length_map, List.length_cons, List.length_nil] at this ⊢
                omega
              rw [if_pos hle] at k
              exact ⟨_, rfl, k ta H5 htaH (s5.trans s6) hta5⟩
            · have hle : ¬ (mostR R n ks).length ≤ (k0 :: mostR R n bs).length := fun q => z (decide_eq_true (by
                simp only [List.length_append, List.length_map, List.length_cons, List.length_nil] at q ⊢
                omega))
              rw [if_neg hle] at k
              exact ⟨_, rfl, k q2 H5 (s5.free hq2) (s5.trans s6) h6⟩
end
end YP
namespace YP
open PySem PySem.Spec PyProof.Rows L2
open Yh (Bytes Spot Sect Plan Route)
open Wqatdn (Ans told step)
theorem spots64 {l : List Spot} (hn : l.Nodup) (h : ∀ x ∈ l, x.1 < 16 ∧ x.2 < 4) : l.length ≤ 64 := by
  have h1 := ph 64 (l.map fun x => 4 * x.1 + x.2) (by
    unfold List.Nodup
    rw [List.pairwise_map]
    have h2 : l.Pairwise fun a b => a ∈ l ∧ b ∈ l ∧ a ≠ b := by
      have := List.Pairwise.and_mem.mp hn
      exact this.imp fun {a b} q => ⟨q.1, q.2.1, q.2.2⟩
    refine h2.imp fun {a b} q e => ?_
    obtain ⟨ha, hb, hne⟩ := q
    have h3 := h a ha
    have h4 := h b hb
    exact hne (Prod.ext (by omega) (by omega))) (fun x hx => by
    obtain ⟨y, hy, rfl⟩ := List.mem_map.mp hx
    have := h y hy
    omega)
  rw [List.length_map] at h1
  exact h1
theorem Wf.j32 {p : Plan} (w : Wf p) : p.joins.length ≤ 32 := by
  have h := spots64 w.jnd (fun x hx => by
    obtain ⟨j, hj, rfl⟩ := List.mem_map.mp hx
    have := isEnd_lt (w.jend j hj)
    have := w.s16
    exact ⟨by omega, by omega⟩)
  rw [List.length_map, both_length] at h
  omega
theorem Wf.b64 {p : Plan} (w : Wf p) : p.borders.length ≤ 64 := spots64 w.bnd (fun x hx => by
  have := isEnd_lt (w.bend x hx).1
  have := w.s16
  exact ⟨by omega, by omega⟩)
theorem text_len {p : Plan} (w : Wf p) : p.form.text.length ≤ 2500 := by
  rw [form_text]
  have h1 := flat_len (l := p.sects) (g := secL) (c := 20) fun y hy => secL_len w hy
  have h2 := flat_len (l := sortJ p.joins) (g := jnL p) (c := 20) fun y hy => jnL_len w y
  have h3 := flat_len (l := sortS p.borders) (g := boL p) (c := 20) fun y hy => boL_len w y
  have h4 := flat_len (l := sortS p.signals) (g := siL p) (c := 20) fun y hy => siL_len w y
  rw [(sortJ_perm p.joins).length_eq, List.length_map] at h2
  rw [(sortS_perm p.borders).length_eq] at h3
  rw [(sortS_perm p.signals).length_eq] at h4
  have a1 := w.s16
  have a2 := w.j32
  have a3 := w.b64
  have a4 := w.g12
  simp only [List.length_append]
  omega
def bxf (pl fo : V) : List (Str × V) := [("plan", pl), ("found", fo)]
theorem bxf_plan (pl fo : V) : (bxf pl fo).lookup ("plan" : Str) = some pl := rfl
theorem bxf_found (pl fo : V) : (bxf pl fo).lookup ("found" : Str) = some fo := rfl
theorem bxf_putP (pl fo x : V) : putF "plan" x (bxf pl fo) = bxf x fo := rfl
theorem bxf_putF (pl fo x : V) : putF "found" x (bxf pl fo) = bxf pl x := rfl
structure BoxAt (CP CB : Addr) (H : Hp) (b dx : Addr) (A : PA) (p : Plan) (t : Addr) : Prop where
  obj : ∃ fo, H b = some (.ins CB dx (bxf (.ref A.p) fo)) ∧ (fo = .non ∨ ∃ ra, fo = .ref ra ∧ ra ≠ t ∧ RtAt H ra p.form.routes)
  plan : PlanAt CP H A p
  wf : Wf p
  av : A.s ≠ t
theorem BoxAt.same {CP CB : Addr} {H H' : Hp} {b dx : Addr} {A : PA} {p : Plan} {t : Addr} (s : Same H H') (h : BoxAt CP CB H b dx A p t) : BoxAt CP CB H' b dx A p t := by
  obtain ⟨fo, h1, h2⟩ := h.obj
  refine ⟨⟨fo, s _ _ h1, ?_⟩, h.plan.same s, h.wf, h.av⟩
  rcases h2 with z | ⟨ra, e, n, r⟩
  · exact .inl z
  · exact .inr ⟨ra, e, n, r.same s⟩
theorem Keep.lst {CB : Addr} {H H' : Hp} {b dx c : Addr} {fs : List (Str × V)} {xs : List V} (hb : H b = some (.ins CB dx fs)) (s : Keep [b] H H') (h : H c = some (.lst xs)) : H' c = some (.lst xs) := s _ _ h (by simp only [List.mem_singleton]; exact ne_of h hb (by intro z; cases z))
theorem Keep.free {S : List Addr} {H H' : Hp} (s : Keep S H H') {q : Addr} (h : H' q = none) (hS : ∀ c ∈ S, H' c ≠ none) : H q = none := by
  cases e : H q with
  | none => rfl
  | some o =>
    by_cases hq : q ∈ S
    · exact absurd h (hS q hq)
    · rw [s _ _ e hq] at h
      cases h
section
variable {P : Program} {w : World} {K : PySem.W.Frag} {mg : Str → Option Value} {base : Heap} {CP CB : Addr}
def spInitB (CP CB : Addr) : Sp := fun vs H Q _ => ∃ (x dx : Addr), vs = [.ref x] ∧ H x = some (.ins CB dx []) ∧ ∀ (A : PA) (H' : Hp), (∀ b ∈ [A.s, A.n, A.j, A.b, A.g], H b = none) → H' x = some (.ins CB dx (bxf (.ref A.p) .non)) → PlanAt CP H' A pl0 → (∀ b o, H b = some o → b ≠ x → H' b = some o) → Q .non H'
theorem in_Box (T : Txt K mg CP CB) : In P w K mg base CB 3 "Box" (spInitB CP CB) := by
  refine T.mk_Box.ok sc_Box___init__ (fun vs H Q E h => ?_) (fun f cdv A' outer s H vs Q E hr h => ?_)
  · obtain ⟨x, dx, rfl, _⟩ := h
    rfl
  · obtain ⟨x, dx, rfl, hx, k⟩ := h
    refine ⟨_, (pss_cons (ps_fld (pv 0) (pe_mk0 T.mk_Plan (in_Plan T) (hr.mono (by decide)) rfl) rfl)
      (pss_one (ps_fld (pv 0) pe_non rfl))), ?_⟩
    intro pa pdx npa npdx ne
    refine ⟨pa, pdx, rfl, upd_same, fun A H1 e1 e2 hfr hpl kp => ⟨rfl, ?_⟩⟩
    have sm : Same H H1 := Same.made npa npdx (fun b o e hb => kp b o e hb)
    have hx1 := sm _ _ hx
    refine ⟨_, rfl, x, CB, dx, _, rfl, hx1, T.cB, T.nB_plan, (by show 0 < 1000; decide), ?_⟩
    refine ⟨_, rfl, x, CB, dx, _, rfl, upd_same, T.cB, T.nB_found, (by show 1 < 1000; decide), ?_⟩
    subst e1
    rw [upd_upd]
    have npx : A.p ≠ x := fun z => by rw [z, hx] at npa; cases npa
    have ku : Keep [x] H1 (upd H1 x (.ins CB dx (putF "found" .non (putF "plan" (.ref A.p) [])))) := Keep.upd (by simp)
    refine k A _ ?_ ?_ ?_ ?_
    · intro b hb
      have h1 := hfr b hb
      have nb1 : b ≠ A.p := fun z => by rw [z, upd_same] at h1; cases h1
      rw [upd_ne nb1] at h1
      have nb2 : b ≠ pdx := fun z => by rw [z, upd_same] at h1; cases h1
      rw [upd_ne nb2] at h1
      exact h1
    · rw [upd_same]
      rfl
    · obtain ⟨vs, a1, a2⟩ := hpl.sects
      obtain ⟨kvs, b1, b2⟩ := hpl.joins
      have tp : Tups H1 (upd H1 x (.ins CB dx (putF "found" .non (putF "plan" (.ref A.p) [])))) := fun c xs e => by rw [upd_ne (ne_of e hx1 (by intro z; cases z))]; exact e
      refine ⟨by rw [upd_ne npx]; exact hpl.obj, ⟨vs, by rw [upd_ne (ne_of a1 hx1 (by intro z; cases z))]; exact a1, paired_imp a2 fun _ _ _ r => r.keep tp⟩, by rw [upd_ne (ne_of hpl.nums hx1 (by intro z; cases z))]; exact hpl.nums, ⟨kvs, by rw [upd_ne (ne_of b1 hx1 (by intro z; cases z))]; exact b1, paired_imp b2 fun _ _ _ r => r.keep tp⟩, by rw [upd_ne (ne_of hpl.bords hx1 (by intro z; cases z))]; exact hpl.bords, by rw [upd_ne (ne_of hpl.sigs hx1 (by intro z; cases z))]; exact hpl.sigs, hpl.nd⟩
    · intro b o e hb
      rw [upd_ne hb]
      exact sm _ _ e
def spHold (CP CB : Addr) : Sp := fun vs H Q _ => ∃ (b dx : Addr) (x y : V) (A : PA) (p : Plan) (t : Addr), vs = [.ref b, .ref A.p] ∧ H b = some (.ins CB dx (bxf x y)) ∧ A.p ≠ b ∧ PlanAt CP H A p ∧ Wf p ∧ A.s ≠ t ∧
  ∀ H' : Hp, BoxAt CP CB H' b dx A p t → Keep [b] H H' → Q .non H'
theorem mt_Box_hold (T : Txt K mg CP CB) : Mt P w K mg base CB 1 "hold" ["self", "plan"] (spHold CP CB) := by
  refine T.m_Box_hold.ok T.cB sc_Box_hold (fun vs H Q E h => ?_) (fun f cdv A' outer s H vs Q E hr h => ?_)
  · obtain ⟨b, dx, x, y, A, p, t, rfl, _⟩ := h
    rfl
  · obtain ⟨b, dx, x, y, A, p, t, rfl, hb, npb, hpl, wf, av, k⟩ := h
    refine ⟨_, (pss_cons (ps_fld (pv 0) (pv 1) rfl)
      (pss_one (ps_fld (pv 0) pe_non rfl))), ?_⟩
    refine ⟨_, rfl, _, rfl, b, CB, dx, _, rfl, hb, T.cB, T.nB_plan, (by show 2 < 1000; decide), ?_⟩
    refine ⟨_, rfl, b, CB, dx, _, rfl, upd_same, T.cB, T.nB_found, (by show 2 < 1000; decide), ?_⟩
    rw [upd_upd, bxf_putP, bxf_putF]
    have ku : Keep [b] H (upd H b (.ins CB dx (bxf (.ref A.p) .non))) := Keep.upd (by simp)
    refine k _ ⟨⟨_, upd_same, .inl rfl⟩, ?_, wf, av⟩ ku
    obtain ⟨vs, a1, a2⟩ := hpl.sects
    obtain ⟨kvs, b1, b2⟩ := hpl.joins
    have tp : Tups H (upd H b (.ins CB dx (bxf (.ref A.p) .non))) := fun c xs e => by rw [upd_ne (ne_of e hb (by intro z; cases z))]; exact e
    exact ⟨by rw [upd_ne npb]; exact hpl.obj, ⟨vs, by rw [upd_ne (ne_of a1 hb (by intro z; cases z))]; exact a1, paired_imp a2 fun _ _ _ r => r.keep tp⟩, by rw [upd_ne (ne_of hpl.nums hb (by intro z; cases z))]; exact hpl.nums, ⟨kvs, by rw [upd_ne (ne_of b1 hb (by intro z; cases z))]; exact b1, paired_imp b2 fun _ _ _ r => r.keep tp⟩, by rw [upd_ne (ne_of hpl.bords hb (by intro z; cases z))]; exact hpl.bords, by rw [upd_ne (ne_of hpl.sigs hb (by intro z; cases z))]; exact hpl.sigs, hpl.nd⟩
def spAllR (CP CB : Addr) : Sp := fun vs H Q _ => ∃ (b dx : Addr) (A : PA) (p : Plan) (t : Addr), vs = [.ref b] ∧ BoxAt CP CB H b dx A p t ∧ A.p ≠ b ∧ H t ≠ none ∧
  ∀ (ra : Addr) (H' : Hp), BoxAt CP CB H' b dx A p t → RtAt H' ra p.form.routes → Keep [b] H H' → Q (.ref ra) H'
theorem mt_Box_all_routes (T : Txt K mg CP CB) : Mt P w K mg base CB 5 "all_routes" ["self"] (spAllR CP CB) := by
  refine T.m_Box_all_routes.ok T.cB sc_Box_all_routes (fun vs H Q E h => ?_) (fun f cdv A' outer s H vs Q E hr h => ?_)
  · obtain ⟨b, dx, A, p, t, rfl, _⟩ := h
    rfl
  · obtain ⟨b, dx, A, p, t, rfl, hB, npb, ht, k⟩ := h
    obtain ⟨fo, h1, h2⟩ := hB.obj
    refine ⟨_, (pss_cons (ps_if (pt_cmp (pc_isN (pe_fld (pv 0) rfl))) (pss_one (ps_fld (pv 0) (pe_fn (fn_find_routes T) (hr.mono (by decide)) rfl (pa_cons (pe_fld (pv 0) rfl) pa_nil)) rfl)) pss_nil)
      (pss_one (ps_ret (pe_fld (pv 0) rfl)))), ?_⟩
    refine ⟨_, rfl, b, CB, dx, _, _, rfl, h1, T.cB, T.nB_found, bxf_found _ _, _, rfl, ?_⟩
    rcases h2 with rfl | ⟨ra, rfl, nrt, hR⟩
    · refine iteT ?_
      refine ⟨_, rfl, b, CB, dx, _, _, rfl, h1, T.cB, T.nB_plan, bxf_plan _ _, A, p, rfl, hB.plan, hB.wf, fun ra vs H1 hra s1 hv1 hv2 => ?_⟩
      have h1' := s1 _ _ h1
      refine ⟨_, rfl, b, CB, dx, _, rfl, h1', T.cB, T.nB_found, (by show 2 < 1000; decide), ?_⟩
      rw [bxf_putF]
      have nrt : ra ≠ t := fun z => ht (by rw [← z]; exact hra)
      have ku : Keep [b] H1 (upd H1 b (.ins CB dx (bxf (.ref A.p) (.ref ra)))) := Keep.upd (by simp)
      have tp : Tups H1 (upd H1 b (.ins CB dx (bxf (.ref A.p) (.ref ra)))) := fun c xs e => by rw [upd_ne (ne_of e h1' (by intro z; cases z))]; exact e
      have hR : RtAt (upd H1 b (.ins CB dx (bxf (.ref A.p) (.ref ra)))) ra p.form.routes := ⟨⟨vs, by rw [upd_ne (ne_of hv1 h1' (by intro z; cases z))]; exact hv1, paired_imp hv2 fun _ _ _ r => r.keep tp⟩, fun r hr => (routes_ok hB.wf r hr).1⟩
      have hpl := hB.plan.same s1
      obtain ⟨us, a1, a2⟩ := hpl.sects
      obtain ⟨kvs, b1, b2⟩ := hpl.joins
      have hP : PlanAt CP (upd H1 b (.ins CB dx (bxf (.ref A.p) (.ref ra)))) A p := ⟨by rw [upd_ne npb]; exact hpl.obj, ⟨us, by rw [upd_ne (ne_of a1 h1' (by intro z; cases z))]; exact a1, paired_imp a2 fun _ _ _ r => r.keep tp⟩, by rw [upd_ne (ne_of hpl.nums h1' (by intro z; cases z))]; exact hpl.nums, ⟨kvs, by rw [upd_ne (ne_of b1 h1' (by intro z; cases z))]; exact b1, paired_imp b2 fun _ _ _ r => r.keep tp⟩, by rw [upd_ne (ne_of hpl.bords h1' (by intro z; cases z))]; exact hpl.bords, by rw [upd_ne (ne_of hpl.sigs h1' (by intro z; cases z))]; exact hpl.sigs, hpl.nd⟩
      exact ⟨_, rfl, b, CB, dx, _, _, rfl, upd_same, T.cB, T.nB_found, bxf_found _ _, k ra _ ⟨⟨_, upd_same, .inr ⟨ra, rfl, nrt, hR⟩⟩, hP, hB.wf, hB.av⟩ hR ((Keep.same s1).trans ku)⟩
    · refine iteF ?_
      exact ⟨_, rfl, b, CB, dx, _, _, rfl, h1, T.cB, T.nB_found, bxf_found _ _, k ra H hB hR (Keep.same (Same.refl H))⟩
def spHasR (CP CB : Addr) : Sp := fun vs H Q _ => ∃ (b dx : Addr) (A : PA) (p : Plan) (t na : Addr) (ks : List Nat), vs = [.ref b, .ref na] ∧ BoxAt CP CB H b dx A p t ∧ A.p ≠ b ∧ H t ≠ none ∧ H na = some (.lst (nV ks)) ∧ ks.length ≤ 30000 ∧
  ∀ H' : Hp, BoxAt CP CB H' b dx A p t → Keep [b] H H' → Q (.bl (ks.all fun k => decide (k < p.form.routes.length))) H'
theorem mt_Box_has_routes (T : Txt K mg CP CB) : Mt P w K mg base CB 6 "has_routes" ["self", "numbers"] (spHasR CP CB) := by
  refine T.m_Box_has_routes.ok T.cB sc_Box_has_routes (fun vs H Q E h => ?_) (fun f cdv A' outer s H vs Q E hr h => ?_)
  · obtain ⟨b, dx, A, p, t, na, ks, rfl, _⟩ := h
    rfl
  · obtain ⟨b, dx, A, p, t, na, ks, rfl, hB, npb, ht, hn, hl, k⟩ := h
    have hsl := sizeLine_eq
    obtain ⟨fo, h1, h2⟩ := hB.obj
    refine ⟨_, (pss_cons (ps_set (i := 2) sc_Box_has_routes.nd rfl (by first | exact Or.inl rfl | exact Or.inr rfl) (pe_callB call_len_seq rfl T.b_len PySem.boot_len (pa_cons (pe_mt0 (pv 0) (mt_Box_all_routes T) (hr.mono (by decide))) pa_nil)))
      (pss_one (ps_ret (pe_callB (cr_all rfl) rfl T.b_all PyProof.Rows.boot_all (pa_cons (pe_lc (own := [("number", 3)]) rfl sc_Box_has_routes.nd (pi_list (pv 1)) (blkOk_by (N := ["self", "numbers", "count", "number"]) (sc := defScope s_Box_has_routes) (by decide +kernel)) (fun _ _ _ _ _ => (pg_name (i := 3) sc_Box_has_routes.nd rfl (by first | exact Or.inl rfl | exact Or.inr rfl))) (fun _ _ _ _ _ => pts_nil) (fun _ _ _ _ _ => (pe_cmpR op_lt (pv 3) (pv 2) (nomark _)))) pa_nil))))), ?_⟩
    refine ⟨_, rfl, b, dx, _, rfl, h1, rfl, b, dx, A, p, t, rfl, hB, npb, ht, fun ra H1 hB1 hR k1 => ?_⟩
    obtain ⟨vs, hv1, hv2⟩ := hR.ex
    have hvl : vs.length = p.form.routes.length := Paired.length hv2
    have hn1 := k1.lst h1 hn
    refine ⟨ra, _, rfl, .inl (SqL.of hv1), ?_⟩
    refine ⟨_, rfl, na, rfl, ⟨_, SqL.of hn1⟩, fun D hD => lc_list (K := K) (a := na) (xs := nV ks) (fun i H' => Same H1 H' ∧ H' D = some (.lst (((ks.take i).map fun k => decide (k < p.form.routes.length)).map V.bl)))
      ⟨Same.new1 hD, upd_same⟩ (fun i H' _ q => SqL.of (q.1 _ _ hn1)) ?_ ?_⟩
    · rintro i y H' hi ⟨hs, hd⟩
      obtain ⟨x, hx, rfl⟩ := getm hi
      have hil : i < ks.length := (List.getElem?_eq_some_iff.mp hx).1
      refine ⟨rfl, yes_of ⟨_, rfl, _, rfl, _, _, rfl, rfl, _, hd, ?_, Same.wr hs hD, ?_⟩⟩
      · simp only [List.length_map, List.length_take]; omega
      · rw [upd_same, take_snoc hx, List.map_append, List.map_append, hvl]
        have e : decide ((x : Int) < (p.form.routes.length : Int)) = decide (x < p.form.routes.length) := by
          by_cases z : x < p.form.routes.length
          · rw [decide_eq_true z]; exact decide_eq_true (by omega)
          · rw [decide_eq_false z]; exact decide_eq_false (by omega)
        show some (HO.lst (_ ++ [V.bl (decide ((x : Int) < (p.form.routes.length : Int)))])) = _
        rw [e]
        rfl
    · rintro H' ⟨hs, hd⟩
      rw [List.length_map, List.take_length] at hd
      refine ⟨D, _, rfl, SqL.of hd, ?_⟩
      rw [all_take]
      exact k H' (hB1.same hs) (k1.trans (Keep.same hs))
end
end YP
namespace YP
open PySem PySem.Spec PyProof.Rows L2
open Yh (Bytes Spot Sect Plan Route)
open Wqatdn (Ans told)
def ansOf (r : Ans) : List Int := r.ret :: r.nums.map fun (n : Nat) => (n : Int)
abbrev retA (CP CB : Addr) (H : Hp) (Q : VK) (b dx t : Addr) (s' : Plan) (ans : List Int) : Prop := ∀ (q : Addr) (A' : PA) (p' : Plan) (H' : Hp), H q = none → BoxAt CP CB H' b dx A' p' t → A'.p ≠ b → p'.form = s' → Keep [b] H H' → H' q = some (.lst (iV ans)) → ans.length ≤ 33000 → Q (.ref q) H'
def spA (CP CB : Addr) (few : Bool) (cl : List Nat → Option Wqatdn.Call) : Sp := fun vs H Q _ => ∃ (b dx : Addr) (A : PA) (p : Plan) (t ga : Addr) (ns : List Nat) (c : Wqatdn.Call), vs = [.ref b, .ref ga] ∧ BoxAt CP CB H b dx A p t ∧ A.p ≠ b ∧ H t ≠ none ∧ H ga = some (.lst (nV ns)) ∧ ns.length ≤ 30000 ∧ cl ns = some c ∧ (few = true → p.form.routes.length ≤ 64) ∧
  retA CP CB H Q b dx t (Wqatdn.step p.form c).1 (ansOf (Wqatdn.step p.form c).2)
def cl0 (ns : List Nat) : Option Wqatdn.Call := if (ns.all fun n => decide (n < 256)) = true then some (.read (ns.map UInt8.ofNat)) else none
def cl1 : List Nat → Option Wqatdn.Call | [] => some .print | _ => none
def cl2 : List Nat → Option Wqatdn.Call | [i] => some (.section_ i) | _ => none
def cl3 : List Nat → Option Wqatdn.Call | [i, e] => some (.end_ i e) | _ => none
def cl4 : List Nat → Option Wqatdn.Call | [] => some .counts | _ => none
def cl5 : List Nat → Option Wqatdn.Call | [] => some .routes | _ => none
def cl6 : List Nat → Option Wqatdn.Call | [k] => some (.route k) | _ => none
def cl7 : List Nat → Option Wqatdn.Call | [k] => some (.points k) | _ => none
def cl8 : List Nat → Option Wqatdn.Call | [j, k] => some (.conflict j k) | _ => none
def cl9 : List Nat → Option Wqatdn.Call | [s] => some (.from_ s) | _ => none
def cl10 (ns : List Nat) : Option Wqatdn.Call := some (.together ns)
def cl11 (ns : List Nat) : Option Wqatdn.Call := some (.most ns)
theorem spA_len {CP CB : Addr} {few : Bool} {cl : List Nat → Option Wqatdn.Call} {vs : List V} {H : Hp} {Q : VK} {E : XK} (h : spA CP CB few cl vs H Q E) : vs.length = 2 := by
  obtain ⟨b, dx, A, p, t, ga, ns, c, rfl, _⟩ := h
  rfl
theorem nV_bV {ns : List Nat} (h : (ns.all fun n => decide (n < 256)) = true) : nV ns = bV (ns.map UInt8.ofNat) := by
  unfold nV bV iV bi
  rw [List.map_map, List.map_map]
  apply List.map_congr_left
  intro x hx
  have hx2 : x < 256 := by simpa using List.all_eq_true.mp h x hx
  show V.int (x : Int) = V.int ((UInt8.ofNat x).toNat : Int)
  rw [UInt8.toNat_ofNat', Nat.mod_eq_of_lt (by simpa using hx2)]
theorem nat8_bi (b : Bytes) : (Wqatdn.nat8 b).map (fun (n : Nat) => (n : Int)) = bi b := by
  unfold Wqatdn.nat8 bi
  rw [List.map_map]
  rfl
theorem read_ok {t : Bytes} : Yh.readPlan t = (match Yh.readFrom pl0 0 (Yh.split 10 t) with
  | .error e => .error e
  | .ok P => .ok P.form) := rfl
section
variable {P : Program} {w : World} {K : PySem.W.Frag} {mg : Str → Option Value} {base : Heap} {CP CB : Addr}
theorem BoxAt.bnone {H : Hp} {b dx : Addr} {A : PA} {p : Plan} {t : Addr} (h : BoxAt CP CB H b dx A p t) : H b ≠ none := by
  obtain ⟨fo, h1, _⟩ := h.obj
  rw [h1]
  simp
theorem fn_answer_read (T : Txt K mg CP CB) : Fn P w K mg base 8 "answer_read" ["box", "text"] (spA CP CB false cl0) := by
  refine T.f_answer_read.ok sc_answer_read (fun vs H Q E h => spA_len h) (fun f cdv A' outer s H vs Q E hr h => ?_)
  obtain ⟨b, dx, A, p, t, ga, ns, c, rfl, hB, npb, ht, hg, hl, hc, _, k⟩ := h
  have hsl := sizeLine_eq
  have hall : (ns.all fun n => decide (n < 256)) = true := by
    unfold cl0 at hc
    by_cases z : (ns.all fun n => decide (n < 256)) = true
    · exact z
    · rw [if_neg z] at hc; cases hc
  have ec : c = .read (ns.map UInt8.ofNat) := by
    unfold cl0 at hc
    rw [if_pos hall] at hc
    exact (Option.some.inj hc).symm
  subst ec
  rw [nV_bV hall] at hg
  have htl : (ns.map UInt8.ofNat).length = ns.length := by simp
  generalize ns.map UInt8.ofNat = tx at hg k htl
  have est : Wqatdn.step p.form (.read tx) = (if Yh.TEXT < tx.length then (p.form, Wqatdn.says (-2)) else (match Yh.readPlan tx with
    | .error e => (p.form, Wqatdn.tells (-6) [e.1, e.2])
    | .ok Pl => (Pl, Wqatdn.says (Pl.sects.length : Nat)))) := rfl
  rw [est] at k
  obtain ⟨fo, h1, h2⟩ := hB.obj
  refine ⟨_, (pss_cons (ps_if (pt_cmpR op_gt (pe_callB call_len_seq rfl T.b_len PySem.boot_len (pa_cons (pv 1) pa_nil)) (pe_gint rfl T.c_LONGEST_TEXT) (nomark _)) (pss_one (ps_ret (pe_lst (pa_cons (pe_un un_neg pe_int) pa_nil)))) pss_nil)
      (pss_cons (ps_set (i := 2) sc_answer_read.nd rfl (by first | exact Or.inl rfl | exact Or.inr rfl) (pe_mk0 T.mk_Plan (in_Plan T) (hr.mono (by decide)) rfl))
      (pss_cons (ps_set (i := 3) sc_answer_read.nd rfl (by first | exact Or.inl rfl | exact Or.inr rfl) (pe_fn (fn_read_text T) (hr.mono (by decide)) rfl (pa_cons (pv 2) (pa_cons (pv 1) pa_nil))))
      (pss_cons (ps_if (pt_cmp (pc_notN (pv 3))) (pss_one (ps_ret (pe_op op_cat (pe_lst (pa_cons (pe_un un_neg pe_int) pa_nil)) (pv 3)))) pss_nil)
      (pss_cons (ps_expr (pe_mt (pv 0) (mt_Box_hold T) (hr.mono (by decide)) (pa_cons (pv 2) pa_nil)))
      (pss_one (ps_ret (pe_lst (pa_cons (pe_callB call_len_seq rfl T.b_len PySem.boot_len (pa_cons (pe_fld (pv 2) rfl) pa_nil)) pa_nil))))))))), ?_⟩
  refine ⟨_, rfl, ga, _, rfl, .inl (SqL.of hg), _, _, rfl, rfl, _, rfl, ite2 (fun z => ?_) (fun z => ?_)⟩
  · have hlong : Yh.TEXT < tx.length := by
      have z' : decide ((1024 : Int) < ((bV tx).length : Int)) = true := z
      rw [bV_length] at z'
      have := of_decide_eq_true z'
      show 1024 < tx.length
      omega
    rw [if_pos hlong] at k
    refine ⟨_, rfl, (by show 1 ≤ sizeLine; decide), fun q hq => k q A p _ hq (hB.same (Same.new1 hq)) npb rfl (Keep.same (Same.new1 hq)) upd_same (by show 1 ≤ 33000; decide)⟩
  · have hshort : ¬ Yh.TEXT < tx.length := fun y => z (by
      have y : 1024 < tx.length := y
      exact decide_eq_true (by rw [bV_length]; omega))
    have hshort' : tx.length ≤ 1024 := by
      have : ¬ 1024 < tx.length := hshort
      omega
    rw [if_neg hshort, read_ok] at k
    intro pa pdx npa npdx ne
    refine ⟨pa, pdx, rfl, upd_same, fun A1 H1 e1 e2 hfr hpl kp => ⟨rfl, ?_⟩⟩
    have sm : Same H H1 := Same.made npa npdx (fun b o e hb => kp b o e hb)
    subst e1
    have npab : A1.p ≠ b := fun z => by rw [z, h1] at npa; cases npa
    have hfrH : ∀ c ∈ [A1.s, A1.n, A1.j, A1.b, A1.g], H c = none := fun c hc => by
      have q := hfr c hc
      have n1 : c ≠ A1.p := fun z => by rw [z, upd_same] at q; cases q
      rw [upd_ne n1] at q
      have n2 : c ≠ pdx := fun z => by rw [z, upd_same] at q; cases q
      rw [upd_ne n2] at q
      exact q
    refine ⟨_, rfl, _, rfl, A1, ga, tx, rfl, hpl, sm _ _ hg, hshort', fun v H2 k2 hres => ?_⟩
    have sm2 : Same H H2 := fun c o e => k2 c o (sm _ _ e) (fun z => by
      have := hfrH c z
      rw [this] at e
      cases e)
    have hB2 := hB.same sm2
    unfold RdRes at hres
    cases hrd : Yh.readFrom pl0 0 (Yh.split 10 tx) with
    | error e =>
      rw [hrd] at hres k
      obtain ⟨q, rfl, hq⟩ := hres
      refine ⟨_, rfl, _, rfl, iteT ?_⟩
      refine ⟨_, rfl, (by show 1 ≤ sizeLine; decide), fun l1 hl1 => ⟨_, rfl, ?_⟩⟩
      have s3 := Same.new (o := .lst [.int (-6)]) sm2 hl1
      refine ⟨l1, q, _, _, rfl, rfl, upd_same, (by rw [upd_ne (ne_of_none hq hl1)]; exact hq), (by show 1 + 2 ≤ sizeLine; rw [hsl]; decide), fun r hr' => ?_⟩
      have s4 := Same.new (o := .lst ([.int (-6)] ++ [.int (e.1 : Int), .int (e.2 : Int)])) s3 hr'
      exact k r A p _ (s3.free hr') (hB.same s4) npb rfl (Keep.same s4) upd_same (by show 3 ≤ 33000; decide)
    | ok pl =>
      rw [hrd] at hres k
      obtain ⟨rfl, hpl2, wf2, hj2, hb2⟩ := hres
      refine ⟨_, rfl, _, rfl, iteF ?_⟩
      have nst : A1.s ≠ t := fun z => ht (by rw [← z]; exact hfrH _ (by simp))
      refine ⟨_, rfl, b, dx, _, rfl, sm2 _ _ h1, rfl, _, rfl, b, dx, _, _, A1, pl, t, rfl, sm2 _ _ h1, npab, hpl2, wf2, nst, fun H3 hB3 k3 => ?_⟩
      obtain ⟨us, hs3, hp3⟩ := hB3.plan.sects
      have hul : us.length = pl.sects.length := Paired.length hp3
      refine ⟨_, rfl, A1.p, CP, A1.dx, _, _, rfl, hB3.plan.obj, T.cP, T.nP_sections, pf_sections A1, A1.s, _, rfl, .inl (SqL.of hs3), (by show 1 ≤ sizeLine; decide), fun q hq => ?_⟩
      have hqH : H q = none := by
        have kk : Keep [b] H H3 := (Keep.same sm2).trans k3
        exact kk.free hq (fun c hc => by rw [List.mem_singleton.mp hc]; exact hB3.bnone)
      refine k q A1 pl _ hqH (hB3.same (Same.new1 hq)) npab rfl (((Keep.same sm2).trans k3).trans (Keep.same (Same.new1 hq))) ?_ (by show 1 ≤ 33000; decide)
      rw [upd_same, hul]
      rfl
theorem fn_answer_print (T : Txt K mg CP CB) : Fn P w K mg base 4 "answer_print" ["box", "given"] (spA CP CB false cl1) := by
  refine T.f_answer_print.ok sc_answer_print (fun vs H Q E h => spA_len h) (fun f cdv A' outer s H vs Q E hr h => ?_)
  obtain ⟨b, dx, A, p, t, ga, ns, c, rfl, hB, npb, ht, hg, hl, hc, _, k⟩ := h
  have hsl := sizeLine_eq
  match ns, hc with
  | [], hc =>
    have ec : c = .print := (Option.some.inj hc).symm
    subst ec
    have wf := hB.wf
    have htx := text_len wf
    obtain ⟨fo, h1, h2⟩ := hB.obj
    refine ⟨_, (pss_cons (ps_set (i := 2) sc_answer_print.nd rfl (by first | exact Or.inl rfl | exact Or.inr rfl) (pe_fn (fn_print_plan T) (hr.mono (by decide)) rfl (pa_cons (pe_fld (pv 0) rfl) pa_nil)))
      (pss_one (ps_ret (pe_op op_cat (pe_lst (pa_cons (pe_callB call_len_seq rfl T.b_len PySem.boot_len (pa_cons (pv 2) pa_nil)) pa_nil)) (pv 2))))), ?_⟩
    refine ⟨_, rfl, b, CB, dx, _, _, rfl, h1, T.cB, T.nB_plan, bxf_plan _ _, A, p, rfl, hB.plan, wf, (by have := wf.j32; omega), (by have := wf.b64; omega), fun tx H1 htx1 s1 h3 => ?_⟩
    refine ⟨_, rfl, tx, _, rfl, .inl (SqL.of h3), (by show 1 ≤ sizeLine; decide), fun l1 hl1 => ⟨_, rfl, ?_⟩⟩
    have s2 := Same.new (o := .lst [.int ((bV p.form.text).length : Nat)]) s1 hl1
    refine ⟨l1, tx, _, _, rfl, rfl, upd_same, (by rw [upd_ne (ne_of_none h3 hl1)]; exact h3), (by rw [bV_length]; simp only [List.length_cons, List.length_nil]; omega), fun q hq => ?_⟩
    have s3 := Same.new (o := .lst ([.int ((bV p.form.text).length : Nat)] ++ bV p.form.text)) s2 hq
    have ea : ansOf (Wqatdn.step p.form .print).2 = (p.form.text.length : Int) :: bi p.form.text := by
      show (p.form.text.length : Int) :: (Wqatdn.nat8 p.form.text).map _ = _
      rw [nat8_bi]
    refine k q A p _ (s2.free hq) (hB.same s3) npb rfl (Keep.same s3) ?_ ?_
    · rw [upd_same, ea, bV_length]
      rfl
    · rw [ea, List.length_cons, bi_length]
      omega
theorem fn_answer_section (T : Txt K mg CP CB) : Fn P w K mg base 2 "answer_section" ["box", "given"] (spA CP CB false cl2) := by
  refine T.f_answer_section.ok sc_answer_section (fun vs H Q E h => spA_len h) (fun f cdv A' outer s H vs Q E hr h => ?_)
  obtain ⟨b, dx, A, p, t, ga, ns, c, rfl, hB, npb, ht, hg, hl, hc, _, k⟩ := h
  have hsl := sizeLine_eq
  match ns, hc with
  | [i], hc =>
    have ec : c = .section_ i := (Option.some.inj hc).symm
    subst ec
    obtain ⟨fo, h1, h2⟩ := hB.obj
    obtain ⟨us, hs3, hp3⟩ := hB.plan.sects
    have hul : us.length = p.sects.length := Paired.length hp3
    have est : Wqatdn.step p.form (.section_ i) = (p.form, match p.sects[i]? with
      | none => Wqatdn.NONE
      | some x => Wqatdn.tells (x.kind : Nat) (x.name.length :: Wqatdn.nat8 x.name)) := rfl
    rw [est] at k
    refine ⟨_, (pss_cons (ps_set (i := 2) sc_answer_section.nd rfl (by first | exact Or.inl rfl | exact Or.inr rfl) (pe_fld (pv 0) rfl))
      (pss_cons (ps_set (i := 3) sc_answer_section.nd rfl (by first | exact Or.inl rfl | exact Or.inr rfl) (pe_ix ix_list (pv 1) pe_int (fun _ _ => rfl)))
      (pss_cons (ps_if (pt_cmpR op_ge (pv 3) (pe_callB call_len_seq rfl T.b_len PySem.boot_len (pa_cons (pe_fld (pv 2) rfl) pa_nil)) (nomark _)) (pss_one (ps_ret (pe_lst (pa_cons (pe_un un_neg pe_int) pa_nil)))) pss_nil)
      (pss_cons (ps_set (i := 4) sc_answer_section.nd rfl (by first | exact Or.inl rfl | exact Or.inr rfl) (pe_mt (pv 2) (mt_Plan_section_name T) (hr.mono (by decide)) (pa_cons (pv 3) pa_nil)))
      (pss_one (ps_ret (pe_op op_cat (pe_lst (pa_cons (pe_mt (pv 2) (mt_Plan_section_kind T) (hr.mono (by decide)) (pa_cons (pv 3) pa_nil)) (pa_cons (pe_callB call_len_seq rfl T.b_len PySem.boot_len (pa_cons (pv 4) pa_nil)) pa_nil))) (pe_callTy call_list_of rfl T.b_list PyProof.Rows.boot_list (pa_cons (pv 4) pa_nil))))))))), ?_⟩
    refine ⟨_, rfl, b, CB, dx, _, _, rfl, h1, T.cB, T.nB_plan, bxf_plan _ _, ?_⟩
    refine ⟨_, rfl, ga, _, _, _, rfl, rfl, SqL.of hg, atI_nat (j := 0) rfl, ?_⟩
    refine ⟨_, rfl, _, rfl, A.p, CP, A.dx, _, _, rfl, hB.plan.obj, T.cP, T.nP_sections, pf_sections A, A.s, _, rfl, .inl (SqL.of hs3), _, _, rfl, rfl, _, rfl, ite2 (fun z => ?_) (fun z => ?_)⟩
    · have hge : ¬ i < p.sects.length := by have := of_decide_eq_true z; omega
      rw [List.getElem?_eq_none (by omega)] at k
      exact ⟨_, rfl, (by show 1 ≤ sizeLine; decide), fun q hq => k q A p _ hq (hB.same (Same.new1 hq)) npb rfl (Keep.same (Same.new1 hq)) upd_same (by show 1 ≤ 33000; decide)⟩
    · have hlt : i < p.sects.length := by
        by_cases y : i < p.sects.length
        · exact y
        · exact absurd (decide_eq_true (by omega)) z
      have hx := List.getElem?_eq_getElem hlt
      generalize p.sects[i] = x at hx
      rw [hx] at k
      have hnl := name_len (hB.wf.names x (List.mem_of_getElem? hx))
      refine ⟨_, rfl, A.p, A.dx, _, rfl, hB.plan.obj, rfl, _, rfl, A, p, i, x, rfl, hB.plan, hx, fun nt hnt => ?_⟩
      refine ⟨_, rfl, A.p, A.dx, _, rfl, hB.plan.obj, rfl, _, rfl, A, p, i, x, rfl, hB.plan, hx, _, rfl, nt, _, rfl, .inr (SqT.of hnt), (by show 2 ≤ sizeLine; decide), fun l1 hl1 => ⟨_, rfl, nt, _, rfl, .inr (SqT.of (by rw [upd_ne (ne_of_none hnt hl1)]; exact hnt)), fun l2 hl2 => ?_⟩⟩
      have s1 : Same H (upd H l1 (.lst [.int (x.kind : Int), .int ((bV x.name).length : Nat)])) := Same.new1 hl1
      have s2 := Same.new (o := .lst (bV x.name)) s1 hl2
      refine ⟨l1, l2, _, _, rfl, rfl, (by rw [upd_ne (ne_of_none upd_same hl2)]; exact upd_same), upd_same, (by rw [bV_length]; simp only [List.length_cons, List.length_nil]; omega), fun q hq => ?_⟩
      have s3 := Same.new (o := .lst ([.int (x.kind : Int), .int ((bV x.name).length : Nat)] ++ bV x.name)) s2 hq
      have ea : ansOf (Wqatdn.tells (x.kind : Nat) (x.name.length :: Wqatdn.nat8 x.name)) = (x.kind : Int) :: (x.name.length : Int) :: bi x.name := by
        show (x.kind : Int) :: (x.name.length : Int) :: (Wqatdn.nat8 x.name).map _ = _
        rw [nat8_bi]
      refine k q A p _ (s2.free hq) (hB.same s3) npb rfl (Keep.same s3) ?_ ?_
      · simp only
        rw [upd_same, ea, bV_length]
        rfl
      · simp only
        rw [ea, List.length_cons, List.length_cons, bi_length]
        omega
theorem findIdx_at {l : List Spot} {x : Spot} (h : x ∈ l) : ∃ j, l.findIdx? (fun y => y == x) = some j ∧ l[j]? = some x ∧ ∀ m, m < j → l[m]? ≠ some x := by
  cases e : l.findIdx? (fun y => y == x) with
  | none =>
    rw [List.findIdx?_eq_none_iff] at e
    have := e x h
    simp at this
  | some j =>
    rw [List.findIdx?_eq_some_iff_getElem] at e
    obtain ⟨h1, h2, h3⟩ := e
    refine ⟨j, rfl, ?_, fun m hm q => ?_⟩
    · rw [List.getElem?_eq_getElem h1]
      congr 1
      simpa using h2
    · have hml : m < l.length := by omega
      rw [List.getElem?_eq_getElem hml] at q
      have := h3 m hm
      have q := Option.some.inj q
      simp [q] at this
theorem findIdx_no {l : List Spot} {x : Spot} (h : x ∉ l) : l.findIdx? (fun y => y == x) = none := by
  rw [List.findIdx?_eq_none_iff]
  intro y hy
  simp
  exact fun z => h (z ▸ hy)
theorem fn_answer_end (T : Txt K mg CP CB) : Fn P w K mg base 3 "answer_end" ["box", "given"] (spA CP CB false cl3) := by
  refine T.f_answer_end.ok sc_answer_end (fun vs H Q E h => spA_len h) (fun f cdv A' outer s H vs Q E hr h => ?_)
  obtain ⟨b, dx, A, p, t, ga, ns, c, rfl, hB, npb, ht, hg, hl, hc, _, k⟩ := h
  have hsl := sizeLine_eq
  match ns, hc with
  | [i, e], hc =>
    have ec : c = .end_ i e := (Option.some.inj hc).symm
    subst ec
    obtain ⟨fo, h1, h2⟩ := hB.obj
    have wf := hB.wf
    have est : Wqatdn.step p.form (.end_ i e) = (p.form, if p.isEnd (i, e) = true then Wqatdn.endOf p.form (i, e) else Wqatdn.NONE) := rfl
    rw [est] at k
    refine ⟨_, (pss_cons (ps_set (i := 2) sc_answer_end.nd rfl (by first | exact Or.inl rfl | exact Or.inr rfl) (pe_fld (pv 0) rfl))
      (pss_cons (ps_set (i := 3) sc_answer_end.nd rfl (by first | exact Or.inl rfl | exact Or.inr rfl) (pe_tup (pa_cons (pe_ix ix_list (pv 1) pe_int (fun _ _ => rfl)) (pa_cons (pe_ix ix_list (pv 1) pe_int (fun _ _ => rfl)) pa_nil))))
      (pss_cons (ps_if (pt_not (pt_val (pe_mt (pv 2) (mt_Plan_has_end T) (hr.mono (by decide)) (pa_cons (pv 3) pa_nil)))) (pss_one (ps_ret (pe_lst (pa_cons (pe_un un_neg pe_int) pa_nil)))) pss_nil)
      (pss_cons (ps_if (pt_cmp (pc_din (hu_of hr) (pv 3) (pe_fld (pv 2) rfl))) (pss_one (ps_ret (pe_lst (pa_cons pe_int (pa_cons (pe_bm PySem.F.plainAttrs_list PySem.F.slot_list_index PySem.F.type_list_index (mt_indexT hr.u65) (pe_mt0 (pv 2) (mt_Plan_border_ends T) (hr.mono (by decide))) (pa_cons (pv 3) pa_nil)) pa_nil))))) pss_nil)
      (pss_cons (ps_if (pt_cmp (pc_dnotin (hu_of hr) (pv 3) (pe_fld (pv 2) rfl))) (pss_one (ps_ret (pe_lst (pa_cons pe_int pa_nil)))) pss_nil)
      (pss_cons (ps_set (i := 4) sc_answer_end.nd rfl (by first | exact Or.inl rfl | exact Or.inr rfl) pe_int)
      (pss_cons (ps_if (pt_cmp (pc_din (hu_of hr) (pv 3) (pe_fld (pv 2) rfl))) (pss_one (ps_set (i := 4) sc_answer_end.nd rfl (by first | exact Or.inl rfl | exact Or.inr rfl) (pe_op op_add (pe_bm PySem.F.plainAttrs_list PySem.F.slot_list_index PySem.F.type_list_index (mt_indexT hr.u65) (pe_mt0 (pv 2) (mt_Plan_signal_ends T) (hr.mono (by decide))) (pa_cons (pv 3) pa_nil)) pe_int))) pss_nil)
      (pss_one (ps_ret (pe_op op_cat (pe_op op_cat (pe_lst (pa_cons pe_int pa_nil)) (pe_callTy call_list_of rfl T.b_list PyProof.Rows.boot_list (pa_cons (pe_dget (hu_of hr) (pe_fld (pv 2) rfl) (pv 3) (fun _ _ => rfl)) pa_nil))) (pe_lst (pa_cons (pv 4) pa_nil)))))))))))), ?_⟩
    refine ⟨_, rfl, b, CB, dx, _, _, rfl, h1, T.cB, T.nB_plan, bxf_plan _ _, ?_⟩
    refine ⟨_, rfl, ga, _, _, _, rfl, rfl, SqL.of hg, atI_nat (j := 0) rfl, _, rfl, ga, _, _, _, rfl, rfl, SqL.of hg, atI_nat (j := 1) rfl, (by show 2 ≤ sizeLine; decide), fun ea hea => ?_⟩
    have s1 : Same H (upd H ea (.tup (spV (i, e)))) := Same.new1 hea
    have hP := hB.plan.same s1
    have hB1 := hB.same s1
    have hkey : upd H ea (.tup (spV (i, e))) ea = some (.tup (spV (i, e))) := upd_same
    refine ⟨_, rfl, A.p, A.dx, _, rfl, hP.obj, rfl, _, rfl, A, p, (i, e), ea, rfl, hP, hkey, wf.kinds, _, rfl, ite2 (fun z => ?_) (fun z => ?_)⟩
    · have z' : p.isEnd (i, e) = false := by simpa using z
      rw [z', if_neg Bool.false_ne_true] at k
      exact ⟨_, rfl, (by show 1 ≤ sizeLine; decide), fun q hq => k q A p _ (s1.free hq) (hB1.same (Same.new1 hq)) npb rfl (Keep.same (s1.trans (Same.new1 hq))) upd_same (by show 1 ≤ 33000; decide)⟩
    · rw [if_pos (nn z)] at k
      have eof : Wqatdn.endOf p.form (i, e) = (match p.partner (i, e) with
        | some y => Wqatdn.tells 1 [y.1, y.2, match p.form.signalAt (i, e) with
          | none => 0
          | some k => k + 1]
        | none => match (sortS p.borders).findIdx? fun (y : Spot) => y == (i, e) with
          | some k => Wqatdn.tells 2 [k]
          | none => Wqatdn.says 0) := by
        unfold Wqatdn.endOf
        rw [form_partner wf, form_borders]
        rfl
      rw [eof] at k
      refine ⟨_, rfl, _, rfl, A.p, CP, A.dx, _, _, rfl, hP.obj, T.cP, T.nP_borders, pf_borders A, A.b, _, rfl, DGet.t (k := spK (i, e)) hP.bords hkey, _, rfl, ?_⟩
      rw [ones_some]
      by_cases hb : (i, e) ∈ p.borders
      · rw [show p.borders.contains (i, e) = true by simp [hb]]
        refine iteT ?_
        rw [(wf.bend _ hb).2.2] at k
        have hbs : (i, e) ∈ sortS p.borders := (sortS_perm p.borders).mem_iff.mpr hb
        obtain ⟨j, e1, e2, e3⟩ := findIdx_at hbs
        rw [e1] at k
        refine ⟨_, rfl, A.p, A.dx, _, rfl, hP.obj, rfl, A, p, rfl, hP, fun la ls H2 hla s2 hl2 hls => ?_⟩
        refine ⟨.inl ⟨rfl, _, SqL.of hl2⟩, _, rfl, la, ls, _, ea, (i, e), j, rfl, rfl, hl2, hls, s2 _ _ hkey, e2, e3, (by show 2 ≤ sizeLine; decide), fun q hq => ?_⟩
        have s3 := Same.new (o := .lst [.int 2, .int (j : Nat)]) (s1.trans s2) hq
        exact k q A p _ ((s1.trans s2).free hq) (hB.same s3) npb rfl (Keep.same s3) upd_same (by show 2 ≤ 33000; decide)
      · rw [show p.borders.contains (i, e) = false by simp [hb]]
        refine iteF ?_
        obtain ⟨kvs, hj1, hj2, hj3⟩ := hP.joined (i, e)
        refine ⟨_, rfl, _, rfl, A.p, CP, A.dx, _, _, rfl, hP.obj, T.cP, T.nP_joined, pf_joined A, A.j, _, rfl, DGet.t (k := spK (i, e)) hj1 hkey, _, rfl, ?_⟩
        rw [hj2]
        cases hp : p.partner (i, e) with
        | none =>
          rw [hp] at k
          have hbs : (i, e) ∉ sortS p.borders := fun q => hb ((sortS_perm p.borders).mem_iff.mp q)
          rw [findIdx_no hbs] at k
          refine iteT ?_
          exact ⟨(by show 1 ≤ sizeLine; decide), fun q hq => k q A p _ (s1.free hq) (hB1.same (Same.new1 hq)) npb rfl (Keep.same (s1.trans (Same.new1 hq))) upd_same (by show 1 ≤ 33000; decide)⟩
        | some y =>
          rw [hp] at k
          refine iteF ?_
          obtain ⟨ya, hy1, hy2⟩ := hj3 y hp
          have fin : ∀ (sn : Nat) (H2 : Hp), Same (upd H ea (.tup (spV (i, e)))) H2 → (match p.form.signalAt (i, e) with
              | none => 0
              | some k => k + 1) = sn → tRet (tOp rCat (tOp rCat (tLst (tCons (tC (.int 1)) tNil)) (tCB (fun xs H Q => ∃ p ys, xs = [V.ref p] ∧ (SqL K H p ys ∨ SqT K H p ys) ∧ ∀ l, H l = none → Q (.ref l) (upd H l (.lst ys))) (tCons (tDGet (tFld K (tVar 2) "joined") (tVar 3)) tNil))) (tLst (tCons (tVar 4) tNil)))
              { nx := fun _ H' => Q .non H', rt := Q } [some (.ref b), some (.ref ga), some (.ref A.p), some (.ref ea), some (.int (sn : Int))] H2 := by
            intro sn H2 s2 hsn
            rw [hsn] at k
            have hP2 := hP.same s2
            have dg : DGet H2 A.j (.ref ea) (some (.ref ya)) := by rw [← hy1]; exact DGet.t (k := spK (i, e)) (s2 _ _ hj1) (s2 _ _ hkey)
            refine ⟨(by show 1 ≤ sizeLine; decide), fun l1 hl1 => ?_⟩
            have s3 : Same H2 (upd H2 l1 (.lst [.int 1])) := Same.new1 hl1
            have hP3 := hP2.same s3
            refine ⟨_, rfl, A.p, CP, A.dx, _, _, rfl, hP3.obj, T.cP, T.nP_joined, pf_joined A, _, rfl, A.j, .ref ya, rfl, (by
              rcases dg with ⟨kvs', k', r, e1, e2⟩ | ⟨kvs', k', b', r, e1, e2, e3⟩
              · cases k' <;> cases e1
              · rcases r with r | ⟨o, r⟩
                · exact .inr ⟨kvs', k', b', .inl (s3 _ _ r), e1, s3 _ _ e2, e3⟩
                · exact .inr ⟨kvs', k', b', .inr ⟨o, s3 _ _ r⟩, e1, s3 _ _ e2, e3⟩), ya, _, rfl, .inr (SqT.of (s3 _ _ (s2 _ _ hy2))), fun l2 hl2 => ?_⟩
            have s4 := Same.new (o := .lst (spV y)) s3 hl2
            refine ⟨l1, l2, _, _, rfl, rfl, (by rw [upd_ne (ne_of_none upd_same hl2)]; exact upd_same), upd_same, (by show 1 + 2 ≤ sizeLine; rw [hsl]; decide), fun l3 hl3 => ?_⟩
            have s5 := Same.new (o := .lst ([.int 1] ++ spV y)) s4 hl3
            refine ⟨_, rfl, (by show 1 ≤ sizeLine; decide), fun l4 hl4 => ?_⟩
            have s6 := Same.new (o := .lst [.int (sn : Int)]) s5 hl4
            refine ⟨l3, l4, _, _, rfl, rfl, (by rw [upd_ne (ne_of_none upd_same hl4)]; exact upd_same), upd_same, (by show 3 + 1 ≤ sizeLine; rw [hsl]; decide), fun q hq => ?_⟩
            have s7 := Same.new (o := .lst ([.int 1] ++ spV y ++ [.int (sn : Int)])) s6 hq
            have s17 := (s1.trans s2).trans s7
            exact k q A p _ ((s1.trans s2).free (s6.free hq)) (hB.same s17) npb rfl (Keep.same s17) upd_same (by show 4 ≤ 33000; decide)
          refine ⟨_, rfl, _, rfl, A.p, CP, A.dx, _, _, rfl, hP.obj, T.cP, T.nP_signals, pf_signals A, A.g, _, rfl, DGet.t (k := spK (i, e)) hP.sigs hkey, _, rfl, ?_⟩
          rw [ones_some]
          by_cases hs : (i, e) ∈ p.signals
          · rw [show p.signals.contains (i, e) = true by simp [hs]]
            refine iteT ?_
            have hss : (i, e) ∈ sortS p.signals := (sortS_perm p.signals).mem_iff.mpr hs
            obtain ⟨j, e1, e2, e3⟩ := findIdx_at hss
            refine ⟨_, rfl, A.p, A.dx, _, rfl, hP.obj, rfl, A, p, rfl, hP, fun la ls H2 hla s2 hl2 hls => ?_⟩
            refine ⟨.inl ⟨rfl, _, SqL.of hl2⟩, _, rfl, la, ls, _, ea, (i, e), j, rfl, rfl, hl2, hls, s2 _ _ hkey, e2, e3, _, _, rfl, rfl, ?_⟩
            have := fin (j + 1) H2 s2 (by unfold Plan.signalAt; rw [form_signals, e1])
            exact this
          · rw [show p.signals.contains (i, e) = false by simp [hs]]
            refine iteF ?_
            have hss : (i, e) ∉ sortS p.signals := fun q => hs ((sortS_perm p.signals).mem_iff.mp q)
            exact fin 0 _ (Same.refl _) (by unfold Plan.signalAt; rw [form_signals, findIdx_no hss])
theorem fn_answer_counts (T : Txt K mg CP CB) : Fn P w K mg base 2 "answer_counts" ["box", "given"] (spA CP CB false cl4) := by
  refine T.f_answer_counts.ok sc_answer_counts (fun vs H Q E h => spA_len h) (fun f cdv A' outer s H vs Q E hr h => ?_)
  obtain ⟨b, dx, A, p, t, ga, ns, c, rfl, hB, npb, ht, hg, hl, hc, _, k⟩ := h
  have hsl := sizeLine_eq
  match ns, hc with
  | [], hc =>
    have ec : c = .counts := (Option.some.inj hc).symm
    subst ec
    obtain ⟨fo, h1, h2⟩ := hB.obj
    obtain ⟨us, hs3, hp3⟩ := hB.plan.sects
    have hul : us.length = p.sects.length := Paired.length hp3
    refine ⟨_, (pss_cons (ps_set (i := 2) sc_answer_counts.nd rfl (by first | exact Or.inl rfl | exact Or.inr rfl) (pe_fld (pv 0) rfl))
      (pss_one (ps_ret (pe_lst (pa_cons (pe_callB call_len_seq rfl T.b_len PySem.boot_len (pa_cons (pe_fld (pv 2) rfl) pa_nil)) (pa_cons (pe_callB call_len_seq rfl T.b_len PySem.boot_len (pa_cons (pe_mt0 (pv 2) (mt_Plan_join_ends T) (hr.mono (by decide))) pa_nil)) (pa_cons (pe_callB call_lenT rfl T.b_len PySem.boot_len (pa_cons (pe_fld (pv 2) rfl) pa_nil)) (pa_cons (pe_callB call_lenT rfl T.b_len PySem.boot_len (pa_cons (pe_fld (pv 2) rfl) pa_nil)) pa_nil)))))))), ?_⟩
    refine ⟨_, rfl, b, CB, dx, _, _, rfl, h1, T.cB, T.nB_plan, bxf_plan _ _, ?_⟩
    refine ⟨_, rfl, A.p, CP, A.dx, _, _, rfl, hB.plan.obj, T.cP, T.nP_sections, pf_sections A, A.s, _, rfl, .inl (SqL.of hs3), ?_⟩
    refine ⟨_, rfl, A.p, A.dx, _, rfl, hB.plan.obj, rfl, A, p, rfl, hB.plan, hB.wf.jnd, (by have := hB.wf.j32; omega), fun ja js H1 hja s1 hj1 hj2 => ?_⟩
    have hP1 := hB.plan.same s1
    refine ⟨ja, _, rfl, .inl (SqL.of hj1), _, rfl, A.p, CP, A.dx, _, _, rfl, hP1.obj, T.cP, T.nP_borders, pf_borders A, A.b, _, rfl, hP1.bords, _, rfl, A.p, CP, A.dx, _, _, rfl, hP1.obj, T.cP, T.nP_signals, pf_signals A, A.g, _, rfl, hP1.sigs, (by show 4 ≤ sizeLine; decide), fun q hq => ?_⟩
    have s2 := Same.new (o := .lst [.int (us.length : Nat), .int (js.length : Nat), .int ((ones p.borders).length : Nat), .int ((ones p.signals).length : Nat)]) s1 hq
    refine k q A p _ (s1.free hq) (hB.same s2) npb rfl (Keep.same s2) ?_ (by show 4 ≤ 33000; decide)
    have e1 : js.length = (sortJ p.joins).length := Paired.length hj2
    have e2 : (ones p.borders).length = (sortS p.borders).length := by rw [(sortS_perm p.borders).length_eq]; unfold ones; simp
    have e3 : (ones p.signals).length = (sortS p.signals).length := by rw [(sortS_perm p.signals).length_eq]; unfold ones; simp
    rw [upd_same, hul, e1, e2, e3]
    rfl
theorem ofRoutes_few {p : Plan} (h : p.form.routes.length ≤ 64) (f : List Route → Ans) : Wqatdn.ofRoutes p.form f = f p.form.routes := by
  unfold Wqatdn.ofRoutes
  simp only
  rw [if_neg (by show ¬ 64 < _; omega)]
theorem fn_answer_routes (T : Txt K mg CP CB) : Fn P w K mg base 6 "answer_routes" ["box", "given"] (spA CP CB true cl5) := by
  refine T.f_answer_routes.ok sc_answer_routes (fun vs H Q E h => spA_len h) (fun f cdv A' outer s H vs Q E hr h => ?_)
  obtain ⟨b, dx, A, p, t, ga, ns, c, rfl, hB, npb, ht, hg, hl, hc, hfew, k⟩ := h
  have hsl := sizeLine_eq
  match ns, hc with
  | [], hc =>
    have ec : c = .routes := (Option.some.inj hc).symm
    subst ec
    obtain ⟨fo, h1, h2⟩ := hB.obj
    have est : Wqatdn.step p.form .routes = (p.form, Wqatdn.ofRoutes p.form fun l => Wqatdn.says (l.length : Nat)) := rfl
    rw [est, ofRoutes_few (hfew rfl)] at k
    refine ⟨_, (pss_one (ps_ret (pe_lst (pa_cons (pe_callB call_len_seq rfl T.b_len PySem.boot_len (pa_cons (pe_mt0 (pv 0) (mt_Box_all_routes T) (hr.mono (by decide))) pa_nil)) pa_nil)))), ?_⟩
    refine ⟨_, rfl, b, dx, _, rfl, h1, rfl, b, dx, A, p, t, rfl, hB, npb, ht, fun ra H1 hB1 hR k1 => ?_⟩
    obtain ⟨vs, hv1, hv2⟩ := hR.ex
    have hvl : vs.length = p.form.routes.length := Paired.length hv2
    refine ⟨ra, _, rfl, .inl (SqL.of hv1), (by show 1 ≤ sizeLine; decide), fun q hq => ?_⟩
    refine k q A p _ (k1.free hq (fun c hc => by rw [List.mem_singleton.mp hc]; exact hB1.bnone)) (hB1.same (Same.new1 hq)) npb rfl (k1.trans (Keep.same (Same.new1 hq))) ?_ (by show 1 ≤ 33000; decide)
    rw [upd_same, hvl]
    rfl
end
end YP
namespace YP
open PySem PySem.Spec PyProof.Rows L2
open Yh (Bytes Spot Sect Plan Route)
open Wqatdn (Ans told)
theorem lc_enum {K : PySem.W.Frag} {a : Addr} {xs : List V} {g : TG} {tt : TT} {te : TE} {vs : List Nat} {σ : L2.St} {H1 : Hp} {D : Addr} {Qd : Hp → Prop} (Pv : Nat → Hp → Prop) (h0 : Pv 0 (upd H1 D (.lst []))) (hl : ∀ i H, i ≤ xs.length → Pv i H → SqL K H a xs)
    (hs : ∀ i x H t, xs[i]? = some x → Pv i H → H t = none → g (.ref t) (wipe σ vs) (upd H t (.tup [.int (i : Nat), x])) fun σ2 H2 => wipe σ2 vs = wipe σ vs ∧ tt σ2 H2 fun b H3 =>
      if b = true then te σ2 H3 fun y H4 => ∃ acc, H4 D = some (.lst acc) ∧ acc.length < sizeLine ∧ Pv (i + 1) (upd H4 D (.lst (acc ++ [y]))) else Pv (i + 1) H3) (hd : ∀ H, Pv xs.length H → Qd H) :
    ∃ W : Nat → Nat → Hp → Prop, (∃ m, W 0 m (upd H1 D (.lst []))) ∧ ∀ i m H, W i m H →
      ((Ite K a).stop i H ∧ Qd H) ∨ ((Ite K a).go i H ∧ ∃ Nx : Hp → Prop, (∀ H', Nx H' → ∃ m', m' < m ∧ W (i + 1) m' H') ∧ ∀ x H', (Ite K a).yld i H x H' → g x (wipe σ vs) H' fun σ2 H2 => wipe σ2 vs = wipe σ vs ∧ tt σ2 H2 fun b H3 =>
        if b = true then te σ2 H3 fun y H4 => ∃ acc, H4 D = some (.lst acc) ∧ acc.length < sizeLine ∧ Nx (upd H4 D (.lst (acc ++ [y]))) else Nx H3) := by
  refine ⟨fun i m H => m = xs.length - i ∧ i ≤ xs.length ∧ Pv i H, ⟨xs.length, by simp, Nat.zero_le _, h0⟩, ?_⟩
  rintro i m H ⟨rfl, hi, p⟩
  have q := hl i H hi p
  by_cases hlt : i < xs.length
  · refine .inr ⟨⟨xs, xs[i], q, by simp [hlt]⟩, Pv (i + 1), fun H' p' => ⟨xs.length - (i + 1), by omega, rfl, hlt, p'⟩, fun v H' y => ?_⟩
    obtain ⟨t, x, rfl, ht, rfl, hx⟩ := y
    exact hs i x _ t (hx xs q) p ht
  · have e : i = xs.length := by omega
    subst e
    exact .inl ⟨⟨xs, q, Nat.le_refl _⟩, hd H p⟩
theorem lc_zip {K : PySem.W.Frag} {a b : Addr} {xs ys : List V} {g : TG} {tt : TT} {te : TE} {vs : List Nat} {σ : L2.St} {H1 : Hp} {D : Addr} {Qd : Hp → Prop} (hxy : ys.length ≤ xs.length) (Pv : Nat → Hp → Prop) (h0 : Pv 0 (upd H1 D (.lst []))) (hl : ∀ i H, i ≤ ys.length → Pv i H → SqL K H a xs ∧ SqL K H b ys)
    (hs : ∀ i x y H t, xs[i]? = some x → ys[i]? = some y → Pv i H → H t = none → g (.ref t) (wipe σ vs) (upd H t (.tup [x, y])) fun σ2 H2 => wipe σ2 vs = wipe σ vs ∧ tt σ2 H2 fun b H3 =>
      if b = true then te σ2 H3 fun y H4 => ∃ acc, H4 D = some (.lst acc) ∧ acc.length < sizeLine ∧ Pv (i + 1) (upd H4 D (.lst (acc ++ [y]))) else Pv (i + 1) H3) (hd : ∀ H, Pv ys.length H → Qd H) :
    ∃ W : Nat → Nat → Hp → Prop, (∃ m, W 0 m (upd H1 D (.lst []))) ∧ ∀ i m H, W i m H →
      ((Itz K a b).stop i H ∧ Qd H) ∨ ((Itz K a b).go i H ∧ ∃ Nx : Hp → Prop, (∀ H', Nx H' → ∃ m', m' < m ∧ W (i + 1) m' H') ∧ ∀ x H', (Itz K a b).yld i H x H' → g x (wipe σ vs) H' fun σ2 H2 => wipe σ2 vs = wipe σ vs ∧ tt σ2 H2 fun b H3 =>
        if b = true then te σ2 H3 fun y H4 => ∃ acc, H4 D = some (.lst acc) ∧ acc.length < sizeLine ∧ Nx (upd H4 D (.lst (acc ++ [y]))) else Nx H3) := by
  refine ⟨fun i m H => m = ys.length - i ∧ i ≤ ys.length ∧ Pv i H, ⟨ys.length, by simp, Nat.zero_le _, h0⟩, ?_⟩
  rintro i m H ⟨rfl, hi, p⟩
  obtain ⟨q1, q2⟩ := hl i H hi p
  by_cases hlt : i < ys.length
  · have hlt2 : i < xs.length := by omega
    refine .inr ⟨⟨xs, ys, xs[i], ys[i], q1, q2, by simp [hlt2], by simp [hlt]⟩, Pv (i + 1), fun H' p' => ⟨ys.length - (i + 1), by omega, rfl, hlt, p'⟩, fun v H' y => ?_⟩
    obtain ⟨t, x, y, rfl, ht, rfl, hx, hy⟩ := y
    exact hs i x y _ t (hx xs q1) (hy ys q2) p ht
  · have e : i = ys.length := by omega
    subst e
    exact .inl ⟨⟨xs, ys, q1, q2, .inr (Nat.le_refl _)⟩, hd H p⟩
theorem pg_tupK {X : Cx} {K : PySem.W.Frag} {pos : Pos} {es : List Expr} {k : Nat} {t : TGs} {n : Nat} (hK : X.K = K) (hc : X.calm = true) (h : PGs X es t)
    (hn : (assignEach es X.env).length = n := by rfl) (hst : (assignEach es X.env).findIdx? (·.1) = none := by rfl) : PG X (.Tuple es k pos) (gTup K n t) := hK ▸ pg_tup hc h hn hst
def fromL (l : List Route) (x : Nat) : List Nat := (l.zipIdx.filter fun (r : Route × Nat) => r.1.signal == x).map fun (r : Route × Nat) => r.2
theorem fromL_snoc {l : List Route} {i : Nat} {r : Route} (h : l[i]? = some r) (x : Nat) : fromL (l.take (i + 1)) x = fromL (l.take i) x ++ (if r.signal = x then [i] else []) := by
  have hi : i < l.length := (List.getElem?_eq_some_iff.mp h).1
  unfold fromL
  rw [take_snoc h, List.zipIdx_append, List.filter_append, List.map_append]
  congr 1
  have e : 0 + (l.take i).length = i := by rw [List.length_take]; omega
  rw [e]
  by_cases z : r.signal = x
  · rw [if_pos z]
    simp [List.zipIdx_cons, z]
  · rw [if_neg z]
    simp [List.zipIdx_cons, z]
theorem fromL_len (l : List Route) (x : Nat) : (fromL l x).length ≤ l.length := by
  unfold fromL
  rw [List.length_map]
  have := List.length_filter_le (fun (r : Route × Nat) => r.1.signal == x) l.zipIdx
  rwa [List.length_zipIdx] at this
def risL (ks : List Nat) : List Bool := (ks.zip (ks.drop 1)).map fun x => decide (x.1 < x.2)
theorem risL_all : ∀ ks : List Nat, (risL ks).all id = Wqatdn.rises ks
  | [] => rfl
  | [_] => rfl
  | x :: y :: r => by
    have ih := risL_all (y :: r)
    show (decide (x < y) && (risL (y :: r)).all id) = (decide (x < y) && Wqatdn.rises (y :: r))
    rw [ih]
theorem risL_snoc {ks : List Nat} {i x y : Nat} (h1 : ks[i]? = some x) (h2 : (ks.drop 1)[i]? = some y) : (risL ks).take (i + 1) = (risL ks).take i ++ [decide (x < y)] := by
  refine take_snoc ?_
  unfold risL
  rw [List.getElem?_map, List.getElem?_zip_eq_some (z := (x, y)) |>.mpr ⟨h1, h2⟩]
  rfl
theorem risL_len (ks : List Nat) : (risL ks).length = (ks.drop 1).length := by
  unfold risL
  simp
theorem find_head (l : List Nat) (f : Nat → Bool) : l.find? f = (l.filter f).head? := List.head?_filter.symm
theorem nV_cut (ks : List Nat) (k : Nat) : cutV (nV ks) (some (k : Int)) none = nV (ks.drop k) := by
  rw [cut_from]
  unfold nV
  rw [List.map_drop]
theorem Keep.freeB {b q : Addr} {H H' : Hp} (s : Keep [b] H H') (hb : H' b ≠ none) (h : H' q = none) : H q = none := s.free h (fun c hc => by rw [List.mem_singleton.mp hc]; exact hb)
theorem Keep.stays {b t : Addr} {H H' : Hp} (s : Keep [b] H H') (hb : H' b ≠ none) (h : H t ≠ none) : H' t ≠ none := fun q => h (s.freeB hb q)
theorem rt_at {R : List Route} {i : Nat} (h : i < R.length) : R[i]? = some (rt R i) := by
  have e := List.getElem?_eq_getElem h
  rw [rt_get e, e]
theorem together_len (R : List Route) (ks : List Nat) : (Yh.together (prs R ks)).length ≤ ks.length := by
  rw [together_eq, List.length_map]
  have := stepT_len R (prs R ks) []
  unfold prs at this ⊢
  simpa using this
def stI (x : Yh.Step) : List Nat := [x.sect, x.inn, x.out]
theorem flat3 (l : List Yh.Step) : (l.flatMap stI).length = 3 * l.length := by
  induction l with
  | nil => rfl
  | cons x l ih => rw [List.flatMap_cons, List.length_append, ih]; show 3 + _ = _; simp; omega
def spI (x : Nat × Nat) : List Nat := [x.1, x.2]
theorem flat2 (l : List (Nat × Nat)) : (l.flatMap spI).length = 2 * l.length := by
  induction l with
  | nil => rfl
  | cons x l ih => rw [List.flatMap_cons, List.length_append, ih]; show 2 + _ = _; simp; omega
section
variable {P : Program} {w : World} {K : PySem.W.Frag} {mg : Str → Option Value} {base : Heap} {CP CB : Addr}
theorem fn_most_at_once (T : Txt K mg CP CB) : Fn P w K mg base 17 "most_at_once" ["routes", "numbers"] (spMostAt 13) := fn_most T 13
theorem fn_answer_route (T : Txt K mg CP CB) : Fn P w K mg base 7 "answer_route" ["box", "given"] (spA CP CB true cl6) := by
  refine T.f_answer_route.ok sc_answer_route (fun vs H Q E h => spA_len h) (fun f cdv A' outer s H vs Q E hr h => ?_)
  obtain ⟨b, dx, A, p, t, ga, ns, c, rfl, hB, npb, ht, hg, hl, hc, hfew, k⟩ := h
  have hsl := sizeLine_eq
  match ns, hc with
  | [i], hc =>
    have ec : c = .route i := (Option.some.inj hc).symm
    subst ec
    obtain ⟨fo, h1, h2⟩ := hB.obj
    have est : Wqatdn.step p.form (.route i) = (p.form, Wqatdn.ofRoutes p.form fun l => match l[i]? with
      | none => Wqatdn.NONE
      | some r => Wqatdn.tells (r.signal : Nat) (r.steps.length :: r.steps.flatMap stI)) := rfl
    rw [est, ofRoutes_few (hfew rfl)] at k
    refine ⟨_, (pss_cons (ps_if (pt_not (pt_val (pe_mt (pv 0) (mt_Box_has_routes T) (hr.mono (by decide)) (pa_cons (pv 1) pa_nil)))) (pss_one (ps_ret (pe_lst (pa_cons (pe_un un_neg pe_int) pa_nil)))) pss_nil)
      (pss_cons (ps_set (i := 2) sc_answer_route.nd rfl (by first | exact Or.inl rfl | exact Or.inr rfl) (pe_ix ix_list (pe_mt0 (pv 0) (mt_Box_all_routes T) (hr.mono (by decide))) (pe_ix ix_list (pv 1) pe_int (fun _ _ => rfl)) (fun _ _ => rfl)))
      (pss_cons (ps_set (i := 3) sc_answer_route.nd rfl (by first | exact Or.inl rfl | exact Or.inr rfl) (pe_lst (pa_cons (pe_ix ix_tup (pv 2) pe_int (fun _ _ => rfl)) (pa_cons (pe_callB call_len_seq rfl T.b_len PySem.boot_len (pa_cons (pe_ix ix_tup (pv 2) pe_int (fun _ _ => rfl)) pa_nil)) pa_nil))))
      (pss_cons (ps_for PassesOwn.never rfl (pi_tup (pe_ix ix_tup (pv 2) pe_int (fun _ _ => rfl))) (pg_name (i := 4) sc_answer_route.nd rfl (by first | exact Or.inl rfl | exact Or.inr rfl)) (pss_one (ps_expr (pe_bm PySem.F.plainAttrs_list PySem.F.slot_list_extend PySem.F.type_list_extend mt_extendT (pv 3) (pa_cons (pv 4) pa_nil)))))
      (pss_one (ps_ret (pv 3))))))), ?_⟩
    refine ⟨_, rfl, b, dx, _, rfl, h1, rfl, _, rfl, b, dx, A, p, t, ga, [i], rfl, hB, npb, ht, hg, (by show 1 ≤ 30000; decide), fun H1 hB1 k1 => ⟨_, rfl, ite2 (fun z => ?_) (fun z => ?_)⟩⟩
    · have hge : p.form.routes.length ≤ i := by simpa using z
      rw [List.getElem?_eq_none hge] at k
      exact ⟨_, rfl, (by show 1 ≤ sizeLine; decide), fun q hq => k q A p _ (k1.freeB hB1.bnone hq) (hB1.same (Same.new1 hq)) npb rfl (k1.trans (Keep.same (Same.new1 hq))) upd_same (by show 1 ≤ 33000; decide)⟩
    · have hlt : i < p.form.routes.length := by simpa using z
      rw [rt_at hlt] at k
      obtain ⟨fo1, h11, _⟩ := hB1.obj
      have hg1 := k1.lst h1 hg
      refine ⟨_, rfl, b, dx, _, rfl, h11, rfl, b, dx, A, p, t, rfl, hB1, npb, k1.stays hB1.bnone ht, fun ra H2 hB2 hR k2 => ?_⟩
      have hg2 := k2.lst h11 hg1
      obtain ⟨vs, v, g1, g2, ⟨q, wt, rfl, hq, ts, hts, hst⟩, g4⟩ := hR.get hlt
      have k12 := k1.trans k2
      generalize rt p.form.routes i = r at k hq hst g4
      have htl : ts.length = r.steps.length := Paired.length hst
      refine ⟨_, rfl, ga, _, _, _, rfl, rfl, SqL.of hg2, atI_nat (j := 0) rfl, ra, _, _, _, rfl, rfl, SqL.of g1, atI_nat g2, ?_⟩
      refine ⟨_, rfl, q, _, _, _, rfl, rfl, SqT.of hq, atI_nat (j := 0) rfl, _, rfl, q, _, _, _, rfl, rfl, SqT.of hq, atI_nat (j := 1) rfl, wt, _, rfl, .inr (SqT.of hts), (by show 2 ≤ sizeLine; decide), fun ta hta => ?_⟩
      have s3 : Same H2 (upd H2 ta (.lst [.int (r.signal : Int), .int ((ts.map V.ref).length : Nat)])) := Same.new1 hta
      refine ⟨_, rfl, q, _, _, _, rfl, rfl, SqT.of (s3 _ _ hq), atI_nat (j := 1) rfl, wt, rfl, ⟨_, SqT.of (s3 _ _ hts)⟩, for_tup (K := K) (a := wt) (xs := ts.map V.ref) (fun j σ H' => ∃ v4, σ = [some (.ref b), some (.ref ga), some (.ref q), some (.ref ta), v4] ∧ Same H2 H' ∧ H' ta = some (.lst (iV ((r.signal : Int) :: ((r.steps.length :: (r.steps.take j).flatMap stI).map fun (n : Nat) => (n : Int))))))
        ⟨none, rfl, s3, by rw [upd_same, List.length_map, htl]; rfl⟩ (fun j σ H' _ ⟨_, _, hs, _⟩ => SqT.of (hs _ _ hts)) ?_ ?_⟩
      · rintro j y σ H' hj ⟨v4, rfl, hs, hd⟩
        obtain ⟨u, hu, rfl⟩ := getm hj
        obtain ⟨st, hst1, hst2⟩ := paired_get hst hu
        have hjl : j < r.steps.length := (List.getElem?_eq_some_iff.mp hst1).1
        have nut : u ≠ ta := ne_of_none hst2 hta
        refine ⟨_, rfl, .inl ⟨rfl, _, SqL.of hd⟩, _, rfl, ta, u, _, _, rfl, rfl, hd, SqT.of (hs _ _ hst2), ?_, _, rfl, Same.wr hs hta, ?_⟩
        · have := flat3 (r.steps.take j)
          simp only [List.length_map, List.length_cons, this, List.length_take]
          show _ + 3 ≤ _
          omega
        · rw [upd_same, take_snoc hst1, List.flatMap_append]
          simp [iV, stI, stV]
      · rintro σ H' ⟨v4, rfl, hs, hd⟩
        rw [List.length_map, htl, List.take_length] at hd
        refine ⟨_, rfl, k ta A p H' (k12.freeB hB2.bnone hta) (hB2.same hs) npb rfl (k12.trans (Keep.same hs)) hd ?_⟩
        have := flat3 r.steps
        show ((r.signal : Int) :: ((r.steps.length :: r.steps.flatMap stI).map fun (n : Nat) => (n : Int))).length ≤ 33000
        simp only [List.length_map, List.length_cons, this]
        omega
theorem fn_answer_points (T : Txt K mg CP CB) : Fn P w K mg base 7 "answer_points" ["box", "given"] (spA CP CB true cl7) := by
  refine T.f_answer_points.ok sc_answer_points (fun vs H Q E h => spA_len h) (fun f cdv A' outer s H vs Q E hr h => ?_)
  obtain ⟨b, dx, A, p, t, ga, ns, c, rfl, hB, npb, ht, hg, hl, hc, hfew, k⟩ := h
  have hsl := sizeLine_eq
  match ns, hc with
  | [i], hc =>
    have ec : c = .points i := (Option.some.inj hc).symm
    subst ec
    obtain ⟨fo, h1, h2⟩ := hB.obj
    have est : Wqatdn.step p.form (.points i) = (p.form, Wqatdn.ofRoutes p.form fun l => match l[i]? with
      | none => Wqatdn.NONE
      | some r => Wqatdn.tells ((p.form.points r).length : Nat) ((p.form.points r).flatMap spI)) := rfl
    rw [est, ofRoutes_few (hfew rfl)] at k
    refine ⟨_, (pss_cons (ps_if (pt_not (pt_val (pe_mt (pv 0) (mt_Box_has_routes T) (hr.mono (by decide)) (pa_cons (pv 1) pa_nil)))) (pss_one (ps_ret (pe_lst (pa_cons (pe_un un_neg pe_int) pa_nil)))) pss_nil)
      (pss_cons (ps_set (i := 2) sc_answer_points.nd rfl (by first | exact Or.inl rfl | exact Or.inr rfl) (pe_fn (fn_needed_points T) (hr.mono (by decide)) rfl (pa_cons (pe_fld (pv 0) rfl) (pa_cons (pe_ix ix_list (pe_mt0 (pv 0) (mt_Box_all_routes T) (hr.mono (by decide))) (pe_ix ix_list (pv 1) pe_int (fun _ _ => rfl)) (fun _ _ => rfl)) pa_nil))))
      (pss_cons (ps_set (i := 3) sc_answer_points.nd rfl (by first | exact Or.inl rfl | exact Or.inr rfl) (pe_lst (pa_cons (pe_callB call_len_seq rfl T.b_len PySem.boot_len (pa_cons (pv 2) pa_nil)) pa_nil)))
      (pss_cons (ps_for PassesOwn.never rfl (pi_list (pv 2)) (pg_name (i := 4) sc_answer_points.nd rfl (by first | exact Or.inl rfl | exact Or.inr rfl)) (pss_one (ps_expr (pe_bm PySem.F.plainAttrs_list PySem.F.slot_list_extend PySem.F.type_list_extend mt_extendT (pv 3) (pa_cons (pv 4) pa_nil)))))
      (pss_one (ps_ret (pv 3))))))), ?_⟩
    refine ⟨_, rfl, b, dx, _, rfl, h1, rfl, _, rfl, b, dx, A, p, t, ga, [i], rfl, hB, npb, ht, hg, (by show 1 ≤ 30000; decide), fun H1 hB1 k1 => ⟨_, rfl, ite2 (fun z => ?_) (fun z => ?_)⟩⟩
    · have hge : p.form.routes.length ≤ i := by simpa using z
      rw [List.getElem?_eq_none hge] at k
      exact ⟨_, rfl, (by show 1 ≤ sizeLine; decide), fun q hq => k q A p _ (k1.freeB hB1.bnone hq) (hB1.same (Same.new1 hq)) npb rfl (k1.trans (Keep.same (Same.new1 hq))) upd_same (by show 1 ≤ 33000; decide)⟩
    · have hlt : i < p.form.routes.length := by simpa using z
      rw [rt_at hlt] at k
      obtain ⟨fo1, h11, _⟩ := hB1.obj
      have hg1 := k1.lst h1 hg
      have rok := routes_ok hB.wf _ (rt_mem hlt)
      refine ⟨_, rfl, b, CB, dx, _, _, rfl, h11, T.cB, T.nB_plan, bxf_plan _ _, ?_⟩
      refine ⟨_, rfl, b, dx, _, rfl, h11, rfl, b, dx, A, p, t, rfl, hB1, npb, k1.stays hB1.bnone ht, fun ra H2 hB2 hR k2 => ?_⟩
      have hg2 := k2.lst h11 hg1
      obtain ⟨vs, v, g1, g2, g3, g4⟩ := hR.get hlt
      have k12 := k1.trans k2
      generalize rt p.form.routes i = r at k g3 g4 rok
      refine ⟨_, rfl, ga, _, _, _, rfl, rfl, SqL.of hg2, atI_nat (j := 0) rfl, ra, _, _, _, rfl, rfl, SqL.of g1, atI_nat g2, ?_⟩
      refine ⟨A, p, v, r, rfl, hB2.plan, g3, rok, fun pa ps H3 hpa s3 hp1 hp2 => ?_⟩
      have hpl : ps.length = (p.form.points r).length := Paired.length hp2
      have hpl17 : (p.form.points r).length ≤ 17 := by
        unfold Plan.points
        rw [List.length_map]
        have := List.length_filter_le (fun (x : Yh.Step) => p.form.kindAt x.sect == 1) r.steps
        omega
      refine ⟨_, rfl, pa, _, rfl, .inl (SqL.of hp1), (by show 1 ≤ sizeLine; decide), fun ta hta => ?_⟩
      have s4 : Same H3 (upd H3 ta (.lst [.int ((ps.map V.ref).length : Nat)])) := Same.new1 hta
      have k : retA CP CB H Q b dx t p.form (ansOf (Wqatdn.tells ((p.form.points r).length : Nat) ((p.form.points r).flatMap spI))) := k
      generalize hPt : p.form.points r = pts at k hp2 hpl hpl17
      refine ⟨_, rfl, pa, rfl, ⟨_, SqL.of (s4 _ _ hp1)⟩, for_list (K := K) (a := pa) (xs := ps.map V.ref) (fun j σ H' => ∃ v4, σ = [some (.ref b), some (.ref ga), some (.ref pa), some (.ref ta), v4] ∧ Same H3 H' ∧ H' ta = some (.lst (iV ((pts.length : Int) :: (((pts.take j).flatMap spI).map fun (n : Nat) => (n : Int))))))
        ⟨none, rfl, s4, by rw [upd_same, List.length_map, hpl]; rfl⟩ (fun j σ H' _ ⟨_, _, hs, _⟩ => SqL.of (hs _ _ hp1)) ?_ ?_⟩
      · rintro j y σ H' hj ⟨v4, rfl, hs, hd⟩
        obtain ⟨u, hu, rfl⟩ := getm hj
        obtain ⟨st, hst1, hst2⟩ := paired_get hp2 hu
        have hjl : j < pts.length := (List.getElem?_eq_some_iff.mp hst1).1
        refine ⟨_, rfl, .inl ⟨rfl, _, SqL.of hd⟩, _, rfl, ta, u, _, _, rfl, rfl, hd, SqT.of (hs _ _ hst2), ?_, _, rfl, Same.wr hs hta, ?_⟩
        · have := flat2 (pts.take j)
          simp only [List.length_map, List.length_cons, this, List.length_take]
          show _ + 2 ≤ _
          omega
        · rw [upd_same, take_snoc hst1, List.flatMap_append]
          simp [iV, spI, spV]
      · rintro σ H' ⟨v4, rfl, hs, hd⟩
        rw [List.length_map, hpl, List.take_length] at hd
        have hs3 := s3.trans hs
        refine ⟨_, rfl, k ta A p H' (k12.freeB hB2.bnone (s3.free hta)) (hB2.same hs3) npb rfl (k12.trans (Keep.same hs3)) hd ?_⟩
        have := flat2 pts
        show ((pts.length : Int) :: ((pts.flatMap spI).map fun (n : Nat) => (n : Int))).length ≤ 33000
        simp only [List.length_map, List.length_cons, this]
        omega
theorem fn_answer_conflict (T : Txt K mg CP CB) : Fn P w K mg base 7 "answer_conflict" ["box", "given"] (spA CP CB true cl8) := by
  refine T.f_answer_conflict.ok sc_answer_conflict (fun vs H Q E h => spA_len h) (fun f cdv A' outer s H vs Q E hr h => ?_)
  obtain ⟨b, dx, A, p, t, ga, ns, c, rfl, hB, npb, ht, hg, hl, hc, hfew, k⟩ := h
  have hsl := sizeLine_eq
  match ns, hc with
  | [i, j], hc =>
    have ec : c = .conflict i j := (Option.some.inj hc).symm
    subst ec
    obtain ⟨fo, h1, h2⟩ := hB.obj
    have est : Wqatdn.step p.form (.conflict i j) = (p.form, Wqatdn.ofRoutes p.form fun l => match l[i]?, l[j]? with
      | some a, some b => (match a.sects.find? fun (i : Nat) => b.sects.contains i with
        | none => Wqatdn.says 0
        | some i => Wqatdn.tells 1 [i])
      | _, _ => Wqatdn.NONE) := rfl
    rw [est, ofRoutes_few (hfew rfl)] at k
    refine ⟨_, (pss_cons (ps_if (pt_not (pt_val (pe_mt (pv 0) (mt_Box_has_routes T) (hr.mono (by decide)) (pa_cons (pv 1) pa_nil)))) (pss_one (ps_ret (pe_lst (pa_cons (pe_un un_neg pe_int) pa_nil)))) pss_nil)
      (pss_cons (ps_set (i := 2) sc_answer_conflict.nd rfl (by first | exact Or.inl rfl | exact Or.inr rfl) (pe_mt0 (pv 0) (mt_Box_all_routes T) (hr.mono (by decide))))
      (pss_cons (ps_set (i := 3) sc_answer_conflict.nd rfl (by first | exact Or.inl rfl | exact Or.inr rfl) (pe_fn (fn_shared_sections T) (hr.mono (by decide)) rfl (pa_cons (pe_ix ix_list (pv 2) (pe_ix ix_list (pv 1) pe_int (fun _ _ => rfl)) (fun _ _ => rfl)) (pa_cons (pe_ix ix_list (pv 2) (pe_ix ix_list (pv 1) pe_int (fun _ _ => rfl)) (fun _ _ => rfl)) pa_nil))))
      (pss_one (ps_ret (pe_ifExp (pt_cmpR op_gt (pe_callB call_len_seq rfl T.b_len PySem.boot_len (pa_cons (pv 3) pa_nil)) pe_int (nomark _)) (pe_lst (pa_cons pe_int (pa_cons (pe_ix ix_list (pv 3) pe_int (fun _ _ => rfl)) pa_nil))) (pe_lst (pa_cons pe_int pa_nil)))))))), ?_⟩
    refine ⟨_, rfl, b, dx, _, rfl, h1, rfl, _, rfl, b, dx, A, p, t, ga, [i, j], rfl, hB, npb, ht, hg, (by show 2 ≤ 30000; decide), fun H1 hB1 k1 => ⟨_, rfl, ite2 (fun z => ?_) (fun z => ?_)⟩⟩
    · have hge : ¬ (i < p.form.routes.length ∧ j < p.form.routes.length) := by
        intro q
        simp [q.1, q.2] at z
      have en : (match p.form.routes[i]?, p.form.routes[j]? with
        | some a, some b => (match a.sects.find? fun (i : Nat) => b.sects.contains i with
          | none => Wqatdn.says 0
          | some i => Wqatdn.tells 1 [i])
        | _, _ => Wqatdn.NONE) = Wqatdn.NONE := by
        by_cases hi : i < p.form.routes.length
        · rw [List.getElem?_eq_none (i := j) (by omega)]
          cases p.form.routes[i]? <;> rfl
        · rw [List.getElem?_eq_none (i := i) (by omega)]
      simp only [en] at k
      exact ⟨_, rfl, (by show 1 ≤ sizeLine; decide), fun q hq => k q A p _ (k1.freeB hB1.bnone hq) (hB1.same (Same.new1 hq)) npb rfl (k1.trans (Keep.same (Same.new1 hq))) upd_same (by show 1 ≤ 33000; decide)⟩
    · have hlt : i < p.form.routes.length ∧ j < p.form.routes.length := by simpa using z
      rw [rt_at hlt.1, rt_at hlt.2] at k
      obtain ⟨fo1, h11, _⟩ := hB1.obj
      have hg1 := k1.lst h1 hg
      refine ⟨_, rfl, b, dx, _, rfl, h11, rfl, b, dx, A, p, t, rfl, hB1, npb, k1.stays hB1.bnone ht, fun ra H2 hB2 hR k2 => ?_⟩
      have hg2 := k2.lst h11 hg1
      obtain ⟨vs, v, g1, g2, g3, g4⟩ := hR.get hlt.1
      obtain ⟨vs', v', g1', g2', g3', g4'⟩ := hR.get hlt.2
      have k12 := k1.trans k2
      generalize rt p.form.routes i = r at k g3 g4
      generalize rt p.form.routes j = o at k g3' g4'
      refine ⟨_, rfl, _, rfl, ga, _, _, _, rfl, rfl, SqL.of hg2, atI_nat (j := 0) rfl, ra, _, _, _, rfl, rfl, SqL.of g1, atI_nat g2, ?_⟩
      refine ⟨_, rfl, _, rfl, ga, _, _, _, rfl, rfl, SqL.of hg2, atI_nat (j := 1) rfl, ra, _, _, _, rfl, rfl, SqL.of g1', atI_nat g2', ?_⟩
      refine ⟨v, v', r, o, rfl, g3, g3', g4, g4', fun sa H3 hsa s3 h3 => ?_⟩
      refine ⟨_, rfl, sa, _, rfl, .inl (SqL.of h3), _, _, rfl, rfl, _, rfl, ?_⟩
      have ef : (r.sects.find? fun (i : Nat) => o.sects.contains i) = (shared r o).head? := find_head _ _
      simp only [ef] at k
      have hd0 : decide ((0 : Int) < ((nV (shared r o)).length : Int)) = decide (0 < (shared r o).length) := by
        rw [List.length_map]
        by_cases q : 0 < (shared r o).length
        · rw [decide_eq_true q]; exact decide_eq_true (by omega)
        · rw [decide_eq_false q]; exact decide_eq_false (by omega)
      cases hsh : shared r o with
      | nil =>
        rw [hsh] at k
        refine iteF ⟨(by show 1 ≤ sizeLine; decide), fun q hq => ?_⟩
        have hs4 := Same.new (o := .lst [.int 0]) s3 hq
        exact k q A p _ (k12.freeB hB2.bnone (s3.free hq)) (hB2.same hs4) npb rfl (k12.trans (Keep.same hs4)) upd_same (by show 1 ≤ 33000; decide)
      | cons x l =>
        rw [hsh] at k h3
        refine ite2 (fun _ => ?_) (fun z => absurd (decide_eq_true (by rw [List.length_map, List.length_cons]; omega)) z)
        refine ⟨_, rfl, sa, _, _, _, rfl, rfl, SqL.of h3, atI_nat (j := 0) rfl, (by show 2 ≤ sizeLine; decide), fun q hq => ?_⟩
        have hs4 := Same.new (o := .lst [.int 1, .int (x : Int)]) s3 hq
        exact k q A p _ (k12.freeB hB2.bnone (s3.free hq)) (hB2.same hs4) npb rfl (k12.trans (Keep.same hs4)) upd_same (by show 2 ≤ 33000; decide)
theorem fn_answer_from (T : Txt K mg CP CB) : Fn P w K mg base 6 "answer_from" ["box", "given"] (spA CP CB true cl9) := by
  refine T.f_answer_from.ok sc_answer_from (fun vs H Q E h => spA_len h) (fun f cdv A' outer s H vs Q E hr h => ?_)
  obtain ⟨b, dx, A, p, t, ga, ns, c, rfl, hB, npb, ht, hg, hl, hc, hfew, k⟩ := h
  have hsl := sizeLine_eq
  match ns, hc with
  | [x], hc =>
    have ec : c = .from_ x := (Option.some.inj hc).symm
    subst ec
    obtain ⟨fo, h1, h2⟩ := hB.obj
    have est : Wqatdn.step p.form (.from_ x) = (p.form, Wqatdn.ofRoutes p.form fun l => if (sortS p.signals).length ≤ x then Wqatdn.NONE else Wqatdn.tells ((fromL l x).length : Nat) (fromL l x)) := rfl
    rw [est, ofRoutes_few (hfew rfl)] at k
    have esl : (ones p.signals).length = (sortS p.signals).length := by rw [(sortS_perm p.signals).length_eq]; unfold ones; simp
    refine ⟨_, (pss_cons (ps_set (i := 2) sc_answer_from.nd rfl (by first | exact Or.inl rfl | exact Or.inr rfl) (pe_ix ix_list (pv 1) pe_int (fun _ _ => rfl)))
      (pss_cons (ps_if (pt_cmpR op_ge (pv 2) (pe_callB call_lenT rfl T.b_len PySem.boot_len (pa_cons (pe_fld (pe_fld (pv 0) rfl) rfl) pa_nil)) (nomark _)) (pss_one (ps_ret (pe_lst (pa_cons (pe_un un_neg pe_int) pa_nil)))) pss_nil)
      (pss_cons (ps_setLc (i := 3) (own := [("number", 4), ("route", 5)]) rfl sc_answer_from.nd rfl rfl (sw_true rfl rfl rfl (by decide +kernel)) (pi_enum rfl T.b_enumerate (pa_cons (pe_mt0 (pv 0) (mt_Box_all_routes T) (hr.mono (by decide))) pa_nil)) (blkOk_by (N := ["box", "given", "signal", "numbers", "number", "route"]) (sc := defScope s_answer_from) (by decide +kernel)) (fun _ _ _ _ _ => (pg_tupK (K := K) (n := 2) rfl rfl (pgs_cons (pg_name (i := 4) sc_answer_from.nd rfl (by first | exact Or.inl rfl | exact Or.inr rfl)) (pgs_cons (pg_name (i := 5) sc_answer_from.nd rfl (by first | exact Or.inl rfl | exact Or.inr rfl)) pgs_nil)))) (fun _ _ _ _ _ => (pts_one (pt_cmpR op_eq (pe_ix (ix_tupK (K := K) rfl) (pv 5) pe_int (fun _ _ => rfl)) (pv 2) (nomark _)))) (fun _ _ _ _ _ => (pv 4)))
      (pss_one (ps_ret (pe_op op_cat (pe_lst (pa_cons (pe_callB call_len_seq rfl T.b_len PySem.boot_len (pa_cons (pv 3) pa_nil)) pa_nil)) (pv 3))))))), ?_⟩
    refine ⟨_, rfl, ga, _, _, _, rfl, rfl, SqL.of hg, atI_nat (j := 0) rfl, ?_⟩
    refine ⟨_, rfl, _, rfl, b, CB, dx, _, _, rfl, h1, T.cB, T.nB_plan, bxf_plan _ _, A.p, CP, A.dx, _, _, rfl, hB.plan.obj, T.cP, T.nP_signals, pf_signals A, A.g, _, rfl, hB.plan.sigs, _, _, rfl, rfl, _, rfl, ite2 (fun z => ?_) (fun z => ?_)⟩
    · have hge : (sortS p.signals).length ≤ x := by have := of_decide_eq_true z; omega
      rw [if_pos hge] at k
      exact ⟨_, rfl, (by show 1 ≤ sizeLine; decide), fun q hq => k q A p _ hq (hB.same (Same.new1 hq)) npb rfl (Keep.same (Same.new1 hq)) upd_same (by show 1 ≤ 33000; decide)⟩
    · have hge : ¬ (sortS p.signals).length ≤ x := fun q => z (decide_eq_true (by omega))
      rw [if_neg hge] at k
      refine ⟨_, rfl, b, dx, _, rfl, h1, rfl, b, dx, A, p, t, rfl, hB, npb, ht, fun ra H2 hB2 hR k2 => ?_⟩
      obtain ⟨vs, g1, g2⟩ := hR.ex
      have hvl : vs.length = p.form.routes.length := Paired.length g2
      have h64 := hfew rfl
      refine ⟨ra, _, rfl, SqL.of g1, fun D hD => lc_enum (K := K) (a := ra) (xs := vs) (fun i H' => Same H2 H' ∧ H' D = some (.lst (nV (fromL (p.form.routes.take i) x))))
        ⟨Same.new1 hD, upd_same⟩ (fun i H' _ q => SqL.of (q.1 _ _ g1)) ?_ ?_⟩
      · rintro i v H' tt hi ⟨hs, hd⟩ htt
        obtain ⟨r, hr1, hr2⟩ := paired_get g2 hi
        have hil : i < p.form.routes.length := (List.getElem?_eq_some_iff.mp hr1).1
        obtain ⟨q, wt, rfl, hq, _⟩ := hr2
        have s3 : Same H' (upd H' tt (.tup [.int (i : Nat), .ref q])) := Same.new1 htt
        refine ⟨tt, _, rfl, SqT.of upd_same, rfl, _, _, rfl, _, _, rfl, rfl, rfl, _, rfl, q, _, _, _, rfl, rfl, SqT.of (s3 _ _ (hs _ _ hq)), atI_nat (j := 0) rfl, _, rfl, rfl, _, rfl, ?_⟩
        rw [decI]
        refine ite2 (fun z => ?_) (fun z => ?_)
        · have z' : r.signal = x := of_decide_eq_true z
          have hln := fromL_len (p.form.routes.take i) x
          rw [List.length_take] at hln
          refine ⟨_, rfl, _, s3 _ _ hd, ?_, Same.wr (hs.trans s3) hD, ?_⟩
          · rw [List.length_map]; omega
          · rw [upd_same, fromL_snoc hr1, if_pos z', nV_append]
            rfl
        · have z' : ¬ r.signal = x := fun q => z (decide_eq_true q)
          refine ⟨hs.trans s3, ?_⟩
          rw [s3 _ _ hd, fromL_snoc hr1, if_neg z', List.append_nil]
      · rintro H3 ⟨hs, hd⟩
        rw [hvl, List.take_length] at hd
        have hln := fromL_len p.form.routes x
        generalize fromL p.form.routes x = fl at hd k hln
        refine ⟨_, rfl, D, _, rfl, .inl (SqL.of hd), (by show 1 ≤ sizeLine; decide), fun l1 hl1 => ⟨_, rfl, ?_⟩⟩
        have s4 := Same.new (o := .lst [.int ((nV fl).length : Nat)]) hs hl1
        refine ⟨l1, D, _, _, rfl, rfl, upd_same, (by rw [upd_ne (ne_of_none hd hl1)]; exact hd), (by rw [List.length_map]; simp only [List.length_cons, List.length_nil]; omega), fun q hq => ?_⟩
        have s5 := Same.new (o := .lst ([.int ((nV fl).length : Nat)] ++ nV fl)) s4 hq
        refine k q A p _ (k2.freeB hB2.bnone (s4.free hq)) (hB2.same s5) npb rfl (k2.trans (Keep.same s5)) ?_ ?_
        · rw [upd_same, List.length_map]
          show _ = some (HO.lst (iV ((fl.length : Int) :: fl.map fun (n : Nat) => (n : Int))))
          simp [iV]
        · show ((fl.length : Int) :: fl.map fun (n : Nat) => (n : Int)).length ≤ 33000
          simp only [List.length_cons, List.length_map]
          omega
theorem fn_answer_together (T : Txt K mg CP CB) : Fn P w K mg base 7 "answer_together" ["box", "numbers"] (spA CP CB true cl10) := by
  refine T.f_answer_together.ok sc_answer_together (fun vs H Q E h => spA_len h) (fun f cdv A' outer s H vs Q E hr h => ?_)
  obtain ⟨b, dx, A, p, t, ga, ns, c, rfl, hB, npb, ht, hg, hl, hc, hfew, k⟩ := h
  have hsl := sizeLine_eq
  have ec : c = .together ns := (Option.some.inj hc).symm
  subst ec
  obtain ⟨fo, h1, h2⟩ := hB.obj
  have est : Wqatdn.step p.form (.together ns) = (p.form, Wqatdn.ofRoutes p.form fun l => match Wqatdn.pick l ns with
    | none => Wqatdn.NONE
    | some p => Wqatdn.tells ((Yh.together p).length : Nat) (Yh.together p)) := rfl
  rw [est, ofRoutes_few (hfew rfl)] at k
  refine ⟨_, (pss_cons (ps_if (pt_not (pt_val (pe_mt (pv 0) (mt_Box_has_routes T) (hr.mono (by decide)) (pa_cons (pv 1) pa_nil)))) (pss_one (ps_ret (pe_lst (pa_cons (pe_un un_neg pe_int) pa_nil)))) pss_nil)
      (pss_cons (ps_set (i := 2) sc_answer_together.nd rfl (by first | exact Or.inl rfl | exact Or.inr rfl) (pe_fn (fn_taken_in_turn T) (hr.mono (by decide)) rfl (pa_cons (pe_mt0 (pv 0) (mt_Box_all_routes T) (hr.mono (by decide))) (pa_cons (pv 1) pa_nil))))
      (pss_one (ps_ret (pe_op op_cat (pe_lst (pa_cons (pe_callB call_len_seq rfl T.b_len PySem.boot_len (pa_cons (pv 2) pa_nil)) pa_nil)) (pv 2)))))), ?_⟩
  refine ⟨_, rfl, b, dx, _, rfl, h1, rfl, _, rfl, b, dx, A, p, t, ga, ns, rfl, hB, npb, ht, hg, hl, fun H1 hB1 k1 => ⟨_, rfl, ite2 (fun z => ?_) (fun z => ?_)⟩⟩
  · have hge : ¬ ∀ k ∈ ns, k < p.form.routes.length := by
      intro q
      rw [List.all_eq_true.mpr (fun k hk => decide_eq_true (q k hk))] at z
      cases z
    rw [pick_none hge] at k
    exact ⟨_, rfl, (by show 1 ≤ sizeLine; decide), fun q hq => k q A p _ (k1.freeB hB1.bnone hq) (hB1.same (Same.new1 hq)) npb rfl (k1.trans (Keep.same (Same.new1 hq))) upd_same (by show 1 ≤ 33000; decide)⟩
  · have hlt : ∀ k ∈ ns, k < p.form.routes.length := by
      have z' : (ns.all fun k => decide (k < p.form.routes.length)) = true := by simpa using z
      exact fun k hk => of_decide_eq_true (List.all_eq_true.mp z' k hk)
    rw [pick_some hlt] at k
    obtain ⟨fo1, h11, _⟩ := hB1.obj
    have hg1 := k1.lst h1 hg
    refine ⟨_, rfl, b, dx, _, rfl, h11, rfl, b, dx, A, p, t, rfl, hB1, npb, k1.stays hB1.bnone ht, fun ra H2 hB2 hR k2 => ?_⟩
    have hg2 := k2.lst h11 hg1
    have k12 := k1.trans k2
    refine ⟨_, rfl, ra, ga, _, ns, rfl, hR, hg2, hlt, hl, fun ta H3 hta s3 hd => ?_⟩
    have hln := together_len p.form.routes ns
    have k : retA CP CB H Q b dx t p.form (ansOf (Wqatdn.tells ((Yh.together (prs p.form.routes ns)).length : Nat) (Yh.together (prs p.form.routes ns)))) := k
    generalize Yh.together (prs p.form.routes ns) = fl at hd k hln
    refine ⟨_, rfl, ta, _, rfl, .inl (SqL.of hd), (by show 1 ≤ sizeLine; decide), fun l1 hl1 => ⟨_, rfl, ?_⟩⟩
    have s4 := Same.new (o := .lst [.int ((nV fl).length : Nat)]) s3 hl1
    refine ⟨l1, ta, _, _, rfl, rfl, upd_same, (by rw [upd_ne (ne_of_none hd hl1)]; exact hd), (by rw [List.length_map]; simp only [List.length_cons, List.length_nil]; omega), fun q hq => ?_⟩
    have s5 := Same.new (o := .lst ([.int ((nV fl).length : Nat)] ++ nV fl)) s4 hq
    refine k q A p _ (k12.freeB hB2.bnone (s4.free hq)) (hB2.same s5) npb rfl (k12.trans (Keep.same s5)) ?_ ?_
    · rw [upd_same, List.length_map]
      show _ = some (HO.lst (iV ((fl.length : Int) :: fl.map fun (n : Nat) => (n : Int))))
      simp [iV]
    · show ((fl.length : Int) :: fl.map fun (n : Nat) => (n : Int)).length ≤ 33000
      simp only [List.length_cons, List.length_map]
      omega
def spRise : Sp := fun vs H Q _ => ∃ (na : Addr) (ks : List Nat), vs = [.ref na] ∧ H na = some (.lst (nV ks)) ∧ ks.length ≤ 30000 ∧ retV H Q (.bl (Wqatdn.rises ks))
theorem fn_is_rising (T : Txt K mg CP CB) : Fn P w K mg base 1 "is_rising" ["numbers"] spRise := by
  refine T.f_is_rising.ok sc_is_rising (fun vs H Q E h => ?_) (fun f cdv A' outer s H vs Q E hr h => ?_)
  · obtain ⟨na, ks, rfl, _⟩ := h
    rfl
  · obtain ⟨na, ks, rfl, hn, hl, k⟩ := h
    have hsl := sizeLine_eq
    refine ⟨_, (pss_one (ps_ret (pe_callB (cr_all rfl) rfl T.b_all PyProof.Rows.boot_all (pa_cons (pe_lc (own := [("low", 1), ("high", 2)]) rfl sc_is_rising.nd (pi_zip rfl T.b_zip (pa_cons (pv 0) (pa_cons (pe_slice sl_list (pv 0) (po_some pe_int) po_none) pa_nil))) (blkOk_by (N := ["numbers", "low", "high"]) (sc := defScope s_is_rising) (by decide +kernel)) (fun _ _ _ _ _ => (pg_tupK (K := K) (n := 2) rfl rfl (pgs_cons (pg_name (i := 1) sc_is_rising.nd rfl (by first | exact Or.inl rfl | exact Or.inr rfl)) (pgs_cons (pg_name (i := 2) sc_is_rising.nd rfl (by first | exact Or.inl rfl | exact Or.inr rfl)) pgs_nil)))) (fun _ _ _ _ _ => pts_nil) (fun _ _ _ _ _ => (pe_cmpR op_lt (pv 1) (pv 2) (nomark _)))) pa_nil)))), ?_⟩
    refine ⟨_, rfl, _, rfl, _, rfl, na, _, rfl, SqL.of hn, fun be hbe => ?_⟩
    have ecut : cutV (nV ks) (some 1) none = nV (ks.drop 1) := nV_cut ks 1
    rw [ecut]
    have s1 : Same H (upd H be (.lst (nV (ks.drop 1)))) := Same.new1 hbe
    refine ⟨na, be, _, _, rfl, SqL.of (s1 _ _ hn), SqL.of upd_same, fun D hD => lc_zip (K := K) (a := na) (b := be) (xs := nV ks) (ys := nV (ks.drop 1)) (by simp) (fun i H' => Same (upd H be (.lst (nV (ks.drop 1)))) H' ∧ H' D = some (.lst (((risL ks).take i).map V.bl)))
      ⟨Same.new1 hD, upd_same⟩ (fun i H' _ q => ⟨SqL.of (q.1 _ _ (s1 _ _ hn)), SqL.of (q.1 _ _ upd_same)⟩) ?_ ?_⟩
    · rintro i v u H' tt hi hj ⟨hs, hd⟩ htt
      obtain ⟨x, hx, rfl⟩ := getm hi
      obtain ⟨y, hy, rfl⟩ := getm hj
      have hil : i < ks.length := (List.getElem?_eq_some_iff.mp hx).1
      have s3 : Same H' (upd H' tt (.tup [.int (x : Int), .int (y : Int)])) := Same.new1 htt
      refine ⟨tt, _, rfl, SqT.of upd_same, rfl, _, _, rfl, _, _, rfl, rfl, rfl, yes_of ⟨_, rfl, _, rfl, _, _, rfl, rfl, _, s3 _ _ hd, ?_, Same.wr (hs.trans s3) hD, ?_⟩⟩
      · simp only [List.length_map, List.length_take]; omega
      · rw [upd_same, risL_snoc hx hy, List.map_append]
        have e : decide ((x : Int) < (y : Int)) = decide (x < y) := by
          by_cases z : x < y
          · rw [decide_eq_true z]; exact decide_eq_true (by omega)
          · rw [decide_eq_false z]; exact decide_eq_false (by omega)
        show some (HO.lst (_ ++ [V.bl (decide ((x : Int) < (y : Int)))])) = _
        rw [e]
        rfl
    · rintro H' ⟨hs, hd⟩
      rw [List.length_map, ← risL_len, List.take_length] at hd
      refine ⟨D, _, rfl, SqL.of hd, ?_⟩
      rw [risL_all]
      exact k H' (s1.trans hs)
theorem fn_answer_most (T : Txt K mg CP CB) : Fn P w K mg base 18 "answer_most" ["box", "numbers"] (spA CP CB true cl11) := by
  refine T.f_answer_most.ok sc_answer_most (fun vs H Q E h => spA_len h) (fun f cdv A' outer s H vs Q E hr h => ?_)
  obtain ⟨b, dx, A, p, t, ga, ns, c, rfl, hB, npb, ht, hg, hl, hc, hfew, k⟩ := h
  have hsl := sizeLine_eq
  have ec : c = .most ns := (Option.some.inj hc).symm
  subst ec
  obtain ⟨fo, h1, h2⟩ := hB.obj
  have est : Wqatdn.step p.form (.most ns) = (p.form, Wqatdn.ofRoutes p.form fun l => if 12 < ns.length ∨ Wqatdn.rises ns = false then Wqatdn.BAD else match Wqatdn.pick l ns with
    | none => Wqatdn.NONE
    | some p => Wqatdn.tells ((Yh.most p).length : Nat) (Yh.most p)) := rfl
  rw [est, ofRoutes_few (hfew rfl)] at k
  refine ⟨_, (pss_cons (ps_if (PW.pt (pw_or (pt_cmpR op_gt (pe_callB call_len_seq rfl T.b_len PySem.boot_len (pa_cons (pv 1) pa_nil)) (pe_gint rfl T.c_LONGEST_MOST) (nomark _)) (pw_or1 (pt_not (pt_val (pe_fn (fn_is_rising T) (hr.mono (by decide)) rfl (pa_cons (pv 1) pa_nil))))))) (pss_one (ps_ret (pe_lst (pa_cons (pe_un un_neg pe_int) pa_nil)))) pss_nil)
      (pss_cons (ps_if (pt_not (pt_val (pe_mt (pv 0) (mt_Box_has_routes T) (hr.mono (by decide)) (pa_cons (pv 1) pa_nil)))) (pss_one (ps_ret (pe_lst (pa_cons (pe_un un_neg pe_int) pa_nil)))) pss_nil)
      (pss_cons (ps_set (i := 2) sc_answer_most.nd rfl (by first | exact Or.inl rfl | exact Or.inr rfl) (pe_fn (fn_most_at_once T) (hr.mono (by decide)) rfl (pa_cons (pe_mt0 (pv 0) (mt_Box_all_routes T) (hr.mono (by decide))) (pa_cons (pv 1) pa_nil))))
      (pss_one (ps_ret (pe_op op_cat (pe_lst (pa_cons (pe_callB call_len_seq rfl T.b_len PySem.boot_len (pa_cons (pv 2) pa_nil)) pa_nil)) (pv 2))))))), ?_⟩
  refine ⟨_, rfl, ga, _, rfl, .inl (SqL.of hg), _, _, rfl, rfl, _, rfl, ite2 (fun z => ?_) (fun z => ?_)⟩
  · have h12 : 12 < ns.length := by
      have := of_decide_eq_true z
      rw [List.length_map] at this
      omega
    rw [if_pos (.inl h12)] at k
    refine iteT ?_
    exact ⟨_, rfl, (by show 1 ≤ sizeLine; decide), fun q hq => k q A p _ hq (hB.same (Same.new1 hq)) npb rfl (Keep.same (Same.new1 hq)) upd_same (by show 1 ≤ 33000; decide)⟩
  · have h12 : ¬ 12 < ns.length := fun q => z (decide_eq_true (by rw [List.length_map]; omega))
    refine ⟨_, rfl, ga, ns, rfl, hg, hl, fun H0 s0 => ⟨_, rfl, ?_⟩⟩
    have hB0 := hB.same s0
    have h10 := s0 _ _ h1
    have hg0 := s0 _ _ hg
    refine ite2 (fun z2 => ?_) (fun z2 => ?_)
    · have hr2 : Wqatdn.rises ns = false := by simpa using z2
      rw [if_pos (.inr hr2)] at k
      exact ⟨_, rfl, (by show 1 ≤ sizeLine; decide), fun q hq => k q A p _ (s0.free hq) (hB0.same (Same.new1 hq)) npb rfl (Keep.same (s0.trans (Same.new1 hq))) upd_same (by show 1 ≤ 33000; decide)⟩
    · have hr2 : Wqatdn.rises ns = true := by simpa using z2
      rw [if_neg (by rw [hr2]; rintro (q | q); exact h12 q; cases q)] at k
      have ht0 : H0 t ≠ none := fun q => ht (s0.free q)
      refine ⟨_, rfl, b, dx, _, rfl, h10, rfl, _, rfl, b, dx, A, p, t, ga, ns, rfl, hB0, npb, ht0, hg0, hl, fun H1 hB1 k1 => ⟨_, rfl, ite2 (fun z => ?_) (fun z => ?_)⟩⟩
      · have hge : ¬ ∀ k ∈ ns, k < p.form.routes.length := by
          intro q
          rw [List.all_eq_true.mpr (fun k hk => decide_eq_true (q k hk))] at z
          cases z
        rw [pick_none hge] at k
        exact ⟨_, rfl, (by show 1 ≤ sizeLine; decide), fun q hq => k q A p _ (s0.free (k1.freeB hB1.bnone hq)) (hB1.same (Same.new1 hq)) npb rfl (((Keep.same s0).trans k1).trans (Keep.same (Same.new1 hq))) upd_same (by show 1 ≤ 33000; decide)⟩
      · have hlt : ∀ k ∈ ns, k < p.form.routes.length := by
          have z' : (ns.all fun k => decide (k < p.form.routes.length)) = true := by simpa using z
          exact fun k hk => of_decide_eq_true (List.all_eq_true.mp z' k hk)
        rw [pick_some hlt] at k
        have k : retA CP CB H Q b dx t p.form (ansOf (Wqatdn.tells ((Yh.most (prs p.form.routes ns)).length : Nat) (Yh.most (prs p.form.routes ns)))) := k
        rw [most_eq p.form.routes (n := 13) (ks := ns) (by omega)] at k
        obtain ⟨fo1, h11, _⟩ := hB1.obj
        have hg1 := k1.lst h10 hg0
        refine ⟨_, rfl, b, dx, _, rfl, h11, rfl, b, dx, A, p, t, rfl, hB1, npb, k1.stays hB1.bnone ht0, fun ra H2 hB2 hR k2 => ?_⟩
        have hg2 := k2.lst h11 hg1
        have k12 := ((Keep.same s0).trans k1).trans k2
        refine ⟨_, rfl, ra, ga, _, ns, rfl, hR, hg2, hlt, (by omega), (by decide), fun ta H3 hta s3 hd => ?_⟩
        have hln := mostR_len p.form.routes 13 ns
        generalize mostR p.form.routes 13 ns = fl at hd k hln
        refine ⟨_, rfl, ta, _, rfl, .inl (SqL.of hd), (by show 1 ≤ sizeLine; decide), fun l1 hl1 => ⟨_, rfl, ?_⟩⟩
        have s4 := Same.new (o := .lst [.int ((nV fl).length : Nat)]) s3 hl1
        refine ⟨l1, ta, _, _, rfl, rfl, upd_same, (by rw [upd_ne (ne_of_none hd hl1)]; exact hd), (by rw [List.length_map]; simp only [List.length_cons, List.length_nil]; omega), fun q hq => ?_⟩
        have s5 := Same.new (o := .lst ([.int ((nV fl).length : Nat)] ++ nV fl)) s4 hq
        refine k q A p _ (k12.freeB hB2.bnone (s4.free hq)) (hB2.same s5) npb rfl (k12.trans (Keep.same s5)) ?_ ?_
        · rw [upd_same, List.length_map]
          show _ = some (HO.lst (iV ((fl.length : Int) :: fl.map fun (n : Nat) => (n : Int))))
          simp [iV]
        · show ((fl.length : Int) :: fl.map fun (n : Nat) => (n : Int)).length ≤ 33000
          simp only [List.length_cons, List.length_map]
          omega
end
end YP
namespace YP
open PySem PySem.Spec PyProof.Rows L2
open Yh (Bytes Spot Sect Plan Route)
open Wqatdn (Ans told)
abbrev up (l : List Nat) : List Int := l.map fun (n : Nat) => (n : Int)
def szN : Nat → Option Nat
  | 0 => none | 1 => some 0 | 2 => some 1 | 3 => some 2 | 4 => some 0 | 5 => some 0 | 6 => some 1 | 7 => some 1 | 8 => some 2 | 9 => some 1 | _ => none
def szV (n : Nat) : V := match szN n with | none => .non | some k => .int (k : Nat)
def rtN (n : Nat) : Bool := decide (5 ≤ n)
def clN : Nat → List Nat → Option Wqatdn.Call
  | 0 => cl0 | 1 => cl1 | 2 => cl2 | 3 => cl3 | 4 => cl4 | 5 => cl5 | 6 => cl6 | 7 => cl7 | 8 => cl8 | 9 => cl9 | 10 => cl10 | 11 => cl11 | _ => fun _ => none
def rawOf (n : Nat) (ns : List Nat) : List (List Int) := match szN n with
  | none => [[(n : Int)], up ns]
  | some _ => [(n : Int) :: up ns]
theorem shapeN (n : Nat) : PyWqatdn.shape (n : Int) = if n < 12 then (match szN n with | none => some (0, 1) | some k => some (k, 0)) else none := by
  match n with
  | 0 => rfl
  | 1 => rfl
  | 2 => rfl
  | 3 => rfl
  | 4 => rfl
  | 5 => rfl
  | 6 => rfl
  | 7 => rfl
  | 8 => rfl
  | 9 => rfl
  | 10 => rfl
  | 11 => rfl
  | n + 12 =>
    rw [if_neg (by omega)]
    unfold PyWqatdn.shape
    repeat rw [if_neg (by omega)]
theorem up_take (l : List Nat) (k : Nat) : (up l).take k = up (l.take k) := List.map_take.symm
theorem up_drop (l : List Nat) (k : Nat) : (up l).drop k = up (l.drop k) := List.map_drop.symm
theorem split1 {L : List Nat} {f : Nat} {cs : List (List (List Int))} (h : PyFlat.calls PyWqatdn.shape f (up L) = some cs) (hne : L ≠ []) : ∃ n r, L = n :: r ∧ n < 12 ∧
    ((∃ k, szN n = some k ∧ k ≤ r.length ∧ ∃ f' cs', PyFlat.calls PyWqatdn.shape f' (up (r.drop k)) = some cs' ∧ cs = rawOf n (r.take k) :: cs') ∨
     (szN n = none ∧ ∃ m r', r = m :: r' ∧ m ≤ r'.length ∧ ∃ f' cs', PyFlat.calls PyWqatdn.shape f' (up (r'.drop m)) = some cs' ∧ cs = rawOf n (r'.take m) :: cs')) := by
  match L, f with
  | [], _ => exact absurd rfl hne
  | _ :: _, 0 => cases h
  | n :: r, f + 1 =>
    have h : (match PyFlat.call PyWqatdn.shape ((n : Int) :: up r) with
      | none => none
      | some (c, t) => match PyFlat.calls PyWqatdn.shape f t with
        | none => none
        | some cs => some (c :: cs)) = some cs := h
    have ec : PyFlat.call PyWqatdn.shape ((n : Int) :: up r) = (match PyWqatdn.shape (n : Int) with
      | none => none
      | some (a, k) => if (up r).length < a then none else match PyFlat.rows k ((up r).drop a) with
        | none => none
        | some (xs, t) => some (((n : Int) :: (up r).take a) :: xs, t)) := rfl
    rw [ec, shapeN] at h
    by_cases hn : n < 12
    · rw [if_pos hn] at h
      refine ⟨n, r, rfl, hn, ?_⟩
      cases hz : szN n with
      | some k =>
        rw [hz] at h
        simp only at h
        by_cases hk : r.length < k
        · rw [if_pos (by rw [List.length_map]; exact hk)] at h
          cases h
        · rw [if_neg (by rw [List.length_map]; exact hk)] at h
          have h : (match PyFlat.calls PyWqatdn.shape f ((up r).drop k) with
            | none => none
            | some cs => some ([(n : Int) :: (up r).take k] :: cs)) = some cs := h
          rw [up_take, up_drop] at h
          cases hc : PyFlat.calls PyWqatdn.shape f (up (r.drop k)) with
          | none => rw [hc] at h; cases h
          | some cs' =>
            rw [hc] at h
            refine .inl ⟨k, rfl, by omega, f, cs', hc, ?_⟩
            have : cs = [(n : Int) :: up (r.take k)] :: cs' := (Option.some.inj h).symm
            rw [this]
            unfold rawOf
            rw [hz]
      | none =>
        rw [hz] at h
        simp only at h
        rw [if_neg (by omega)] at h
        refine .inr ⟨rfl, ?_⟩
        cases r with
        | nil => cases h
        | cons m r' =>
          have er : PyFlat.rows 1 ((up (m :: r')).drop 0) = (match (if 0 ≤ (m : Int) ∧ (m : Int).toNat ≤ (up r').length then some ((up r').take (m : Int).toNat, (up r').drop (m : Int).toNat) else none : Option (List Int × List Int)) with
            | none => none
            | some (x, s) => some ([x], s)) := rfl
          rw [er] at h
          by_cases hm : m ≤ r'.length
          · rw [if_pos ⟨by omega, by rw [List.length_map, Int.toNat_natCast]; exact hm⟩, Int.toNat_natCast, up_take, up_drop] at h
            have h : (match PyFlat.calls PyWqatdn.shape f (up (r'.drop m)) with
              | none => none
              | some cs => some ([[(n : Int)], up (r'.take m)] :: cs)) = some cs := h
            cases hc : PyFlat.calls PyWqatdn.shape f (up (r'.drop m)) with
            | none => rw [hc] at h; cases h
            | some cs' =>
              rw [hc] at h
              refine ⟨m, r', rfl, hm, f, cs', hc, ?_⟩
              have : cs = [[(n : Int)], up (r'.take m)] :: cs' := (Option.some.inj h).symm
              rw [this]
              unfold rawOf
              rw [hz]
          · rw [if_neg (fun q => hm (by have := q.2; rw [List.length_map, Int.toNat_natCast] at this; exact this))] at h
            cases h
    · rw [if_neg hn] at h
      cases h
theorem whole_id (c : List (List Int)) : PyWqatdn.whole c = c := by
  unfold PyWqatdn.whole
  split <;> rfl
theorem nats_up (ns : List Nat) : WqatdnNeutral.nats (up ns) = ns := by
  unfold WqatdnNeutral.nats up
  rw [List.map_map]
  exact List.map_id'' (fun x => Int.toNat_natCast x) ns
theorem bytes_up (ns : List Nat) : WqatdnNeutral.bytes (up ns) = ns.map UInt8.ofNat := by
  unfold WqatdnNeutral.bytes up
  rw [List.map_map]
  rfl
theorem len1 {ns : List Nat} (h : ns.length = 1) : ∃ a, ns = [a] := by
  match ns, h with
  | [a], _ => exact ⟨a, rfl⟩
theorem len2 {ns : List Nat} (h : ns.length = 2) : ∃ a b, ns = [a, b] := by
  match ns, h with
  | [a, b], _ => exact ⟨a, b, rfl⟩
theorem len0 {ns : List Nat} (h : ns.length = 0) : ns = [] := List.length_eq_zero_iff.mp h
theorem call_of {n : Nat} {ns : List Nat} (hn : n < 12) (hz : ∀ k, szN n = some k → ns.length = k) (ha : WqatdnNeutral.asked1 (rawOf n ns) = true) : ∃ x, clN n ns = some x ∧ WqatdnNeutral.callOf (rawOf n ns) = some x := by
  match n, hn with
  | 0, _ =>
    have ha : ((up ns).all fun (z : Int) => WqatdnNeutral.natural z 8) = true := ha
    have h8 : (ns.all fun n => decide (n < 256)) = true := by
      rw [List.all_eq_true] at ha ⊢
      intro x hx
      have := ha (x : Int) (List.mem_map.mpr ⟨x, hx, rfl⟩)
      unfold WqatdnNeutral.natural at this
      simp only [Bool.and_eq_true, decide_eq_true_eq] at this ⊢
      omega
    refine ⟨.read (ns.map UInt8.ofNat), ?_, ?_⟩
    · show cl0 ns = _
      unfold cl0
      rw [if_pos h8]
    · show some (Wqatdn.Call.read (WqatdnNeutral.bytes (up ns))) = _
      rw [bytes_up]
  | 1, _ => obtain rfl := len0 (hz 0 rfl); exact ⟨_, rfl, rfl⟩
  | 2, _ => obtain ⟨a, rfl⟩ := len1 (hz 1 rfl); exact ⟨_, rfl, rfl⟩
  | 3, _ => obtain ⟨a, b, rfl⟩ := len2 (hz 2 rfl); exact ⟨_, rfl, rfl⟩
  | 4, _ => obtain rfl := len0 (hz 0 rfl); exact ⟨_, rfl, rfl⟩
  | 5, _ => obtain rfl := len0 (hz 0 rfl); exact ⟨_, rfl, rfl⟩
  | 6, _ => obtain ⟨a, rfl⟩ := len1 (hz 1 rfl); exact ⟨_, rfl, rfl⟩
  | 7, _ => obtain ⟨a, rfl⟩ := len1 (hz 1 rfl); exact ⟨_, rfl, rfl⟩
  | 8, _ => obtain ⟨a, b, rfl⟩ := len2 (hz 2 rfl); exact ⟨_, rfl, rfl⟩
  | 9, _ => obtain ⟨a, rfl⟩ := len1 (hz 1 rfl); exact ⟨_, rfl, rfl⟩
  | 10, _ =>
    refine ⟨.together ns, rfl, ?_⟩
    show some (Wqatdn.Call.together (WqatdnNeutral.nats (up ns))) = _
    rw [nats_up]
  | 11, _ =>
    refine ⟨.most ns, rfl, ?_⟩
    show some (Wqatdn.Call.most (WqatdnNeutral.nats (up ns))) = _
    rw [nats_up]
theorem step_of {s : Plan} {c : List (List Int)} {x : Wqatdn.Call} (h : WqatdnNeutral.callOf c = some x) : WqatdnNeutral.step s c = ((Wqatdn.step s x).1, ansOf (Wqatdn.step s x).2) := by
  unfold WqatdnNeutral.step
  rw [h]
  rfl
theorem step_many {s : Plan} {n : Nat} {ns : List Nat} {c : Wqatdn.Call} (h : clN n ns = some c) (h5 : 5 ≤ n) (hm : 64 < s.routes.length) : Wqatdn.step s c = (s, Wqatdn.says (-9)) := by
  have e : ∀ f, Wqatdn.ofRoutes s f = Wqatdn.says (-9) := fun f => by
    unfold Wqatdn.ofRoutes
    simp only
    rw [if_pos (by show 64 < _; exact hm)]
  have e2 : ∀ f, (s, Wqatdn.ofRoutes s f) = (s, Wqatdn.says (-9)) := fun f => by rw [e]
  match n, h5, h with
  | 5, _, h =>
    match ns, h with
    | [], h => cases h; simp only [Wqatdn.step, Wqatdn.told, e]
  | 6, _, h =>
    match ns, h with
    | [k], h => cases h; simp only [Wqatdn.step, Wqatdn.told, e]
  | 7, _, h =>
    match ns, h with
    | [k], h => cases h; simp only [Wqatdn.step, Wqatdn.told, e]
  | 8, _, h =>
    match ns, h with
    | [j, k], h => cases h; simp only [Wqatdn.step, Wqatdn.told, e]
  | 9, _, h =>
    match ns, h with
    | [k], h => cases h; simp only [Wqatdn.step, Wqatdn.told, e]
  | 10, _, h => cases h; simp only [Wqatdn.step, Wqatdn.told, e]
  | 11, _, h => cases h; simp only [Wqatdn.step, Wqatdn.told, e]
  | n + 12, _, h => cases h
theorem nV_cut2 (L : List Nat) {st sz : Nat} (h : st + sz ≤ L.length) : cutV (nV L) (some (st : Int)) (some ((st + sz : Nat) : Int)) = nV ((L.drop st).take sz) := by
  unfold cutV
  rw [HT.sIx_nat, HT.sIx_nat, List.length_map, Nat.min_eq_left (show st ≤ L.length by omega), Nat.min_eq_left h, Nat.add_sub_cancel_left]
  unfold nV
  rw [List.map_take, List.map_drop]
theorem Same.sqL {K : PySem.W.Frag} {H H' : Hp} {a : Addr} {xs : List V} (e : Same H H') (h : SqL K H a xs) : SqL K H' a xs := by
  rcases h with (h | ⟨o, h⟩) | h
  · exact .inl (.inl (e _ _ h))
  · exact .inl (.inr ⟨o, e _ _ h⟩)
  · exact .inr h
theorem CaR_get {K : PySem.W.Frag} {mg : Str → Option Value} {a : Addr} (h : CaR K mg a) {n : Nat} (hn : n < 12) : ∃ xs r f x, MT K a xs ∧ xs[n]? = some (.ref r) ∧ callNames[n]? = some x ∧ mg x = some (.ref f) ∧ MT K r [.ref f, szV n, .bl (rtN n)] := by
  obtain ⟨rs, fs, h1, h2, h3, h4⟩ := h
  have go : ∀ (x : Str), callNames[n]? = some x → callSizes[n]? = some (szV n) → callRoutes[n]? = some (rtN n) → ∃ xs r f x, MT K a xs ∧ xs[n]? = some (.ref r) ∧ callNames[n]? = some x ∧ mg x = some (.ref f) ∧ MT K r [.ref f, szV n, .bl (rtN n)] := fun x e1 e2 e3 => by
    obtain ⟨r, f, g1, g2, g3⟩ := h4 n x _ _ e1 e2 e3
    exact ⟨_, r, f, x, h1, by rw [List.getElem?_map, g1]; rfl, e1, g2, g3⟩
  match n, hn with
  | 0, _ => exact go _ rfl rfl rfl
  | 1, _ => exact go _ rfl rfl rfl
  | 2, _ => exact go _ rfl rfl rfl
  | 3, _ => exact go _ rfl rfl rfl
  | 4, _ => exact go _ rfl rfl rfl
  | 5, _ => exact go _ rfl rfl rfl
  | 6, _ => exact go _ rfl rfl rfl
  | 7, _ => exact go _ rfl rfl rfl
  | 8, _ => exact go _ rfl rfl rfl
  | 9, _ => exact go _ rfl rfl rfl
  | 10, _ => exact go _ rfl rfl rfl
  | 11, _ => exact go _ rfl rfl rfl
section
variable {P : Program} {w : World} {K : PySem.W.Frag} {mg : Str → Option Value} {base : Heap} {CP CB : Addr}
theorem call_fn (T : Txt K mg CP CB) {n : Nat} (hn : n < 12) : ∃ (x : Str) (k : Nat) (ps : List Str), callNames[n]? = some x ∧ k ≤ 18 ∧ Fn P w K mg base k x ps (spA CP CB (rtN n) (clN n)) := by
  match n, hn with
  | 0, _ => exact ⟨_, _, _, rfl, (by decide), fn_answer_read T⟩
  | 1, _ => exact ⟨_, _, _, rfl, (by decide), fn_answer_print T⟩
  | 2, _ => exact ⟨_, _, _, rfl, (by decide), fn_answer_section T⟩
  | 3, _ => exact ⟨_, _, _, rfl, (by decide), fn_answer_end T⟩
  | 4, _ => exact ⟨_, _, _, rfl, (by decide), fn_answer_counts T⟩
  | 5, _ => exact ⟨_, _, _, rfl, (by decide), fn_answer_routes T⟩
  | 6, _ => exact ⟨_, _, _, rfl, (by decide), fn_answer_route T⟩
  | 7, _ => exact ⟨_, _, _, rfl, (by decide), fn_answer_points T⟩
  | 8, _ => exact ⟨_, _, _, rfl, (by decide), fn_answer_conflict T⟩
  | 9, _ => exact ⟨_, _, _, rfl, (by decide), fn_answer_from T⟩
  | 10, _ => exact ⟨_, _, _, rfl, (by decide), fn_answer_together T⟩
  | 11, _ => exact ⟨_, _, _, rfl, (by decide), fn_answer_most T⟩
def spCall (CP CB : Addr) : Sp := fun vs H Q _ => ∃ (b dx : Addr) (A : PA) (p : Plan) (t ga : Addr) (ns : List Nat) (n : Nat) (c : Wqatdn.Call), vs = [.ref b, .int (n : Int), .ref ga] ∧ n < 12 ∧ BoxAt CP CB H b dx A p t ∧ A.p ≠ b ∧ H t ≠ none ∧ H ga = some (.lst (nV ns)) ∧ ns.length ≤ 30000 ∧ clN n ns = some c ∧
  retA CP CB H Q b dx t (Wqatdn.step p.form c).1 (ansOf (Wqatdn.step p.form c).2)
theorem dyn_ok (T : Txt K mg CP CB) {A' : Around} {Q : VK} {b dx ga t : Addr} {A : PA} {p : Plan} {n : Nat} {ns : List Nat} {c : Wqatdn.Call} {H : Hp} (hr : Room 18 A') (hn : n < 12) (hB : BoxAt CP CB H b dx A p t) (npb : A.p ≠ b) (ht : H t ≠ none) (hg : H ga = some (.lst (nV ns))) (hl : ns.length ≤ 30000) (hc : clN n ns = some c)
    (hfew : rtN n = true → p.form.routes.length ≤ 64) (k : retA CP CB H Q b dx t (Wqatdn.step p.form c).1 (ansOf (Wqatdn.step p.form c).2)) (x : Str) (f : Addr) (hx : callNames[n]? = some x) (hm : mg x = some (.ref f)) :
    tDyn P w K mg base A' 3 (tCons (tVar 0) (tCons (tVar 2) tNil)) [some (.ref b), some (.int (n : Int)), some (.ref ga), some (.ref f)] H Q := by
  obtain ⟨x', k', ps, e, hk, F⟩ := call_fn (P := P) (w := w) (base := base) T hn
  rw [hx] at e
  cases e
  exact ⟨x, k', ps, _, f, rfl, hm, F, hr.mono hk, _, rfl, _, rfl, b, dx, A, p, t, ga, ns, c, rfl, hB, npb, ht, hg, hl, hc, hfew, k⟩
theorem fn_answer_call (T : Txt K mg CP CB) : Fn P w K mg base 19 "answer_call" ["box", "number", "given"] (spCall CP CB) := by
  refine T.f_answer_call.ok sc_answer_call (fun vs H Q E h => ?_) (fun f cdv A' outer s H vs Q E hr h => ?_)
  · obtain ⟨b, dx, A, p, t, ga, ns, n, c, rfl, _⟩ := h
    rfl
  obtain ⟨b, dx, A, p, t, ga, ns, n, c, rfl, hn, hB, npb, ht, hg, hl, hc, k⟩ := h
  have hsl := sizeLine_eq
  obtain ⟨fo, h1, h2⟩ := hB.obj
  refine ⟨_, (pss_cons (ps_if (PW.pt (pw_and (pt_val (pe_ix ix_tup (pe_ix ix_tup (pe_gtup rfl T.t_CALLS) (pv 1) (fun _ _ => rfl)) pe_int (fun _ _ => rfl))) (pw_and1 (pt_cmpR op_gt (pe_callB call_len_seq rfl T.b_len PySem.boot_len (pa_cons (pe_mt0 (pv 0) (mt_Box_all_routes T) (hr.mono (by decide))) pa_nil)) (pe_gint rfl T.c_MOST_ROUTES) (nomark _))))) (pss_one (ps_ret (pe_lst (pa_cons (pe_un un_neg pe_int) pa_nil)))) pss_nil)
      (pss_cons (ps_set (i := 3) sc_answer_call.nd rfl (by first | exact Or.inl rfl | exact Or.inr rfl) (pe_ix ix_tup (pe_ix ix_tup (pe_gtup rfl T.t_CALLS) (pv 1) (fun _ _ => rfl)) pe_int (fun _ _ => rfl)))
      (pss_one (ps_ret (pe_dyn (i := 3) rfl (by first | exact Or.inl rfl | exact Or.inr (Or.inl rfl)) (pa_cons (pv 0) (pa_cons (pv 2) pa_nil))))))), ?_⟩
  intro ca hca
  obtain ⟨xs, r, fa, x, m1, m2, m3, m4, m5⟩ := CaR_get hca hn
  refine ⟨_, rfl, ca, _, _, _, rfl, rfl, m1 _, atI_nat m2, r, _, _, _, rfl, rfl, m5 _, atI_nat (j := 2) rfl, _, rfl, ite2 (fun z => ?_) (fun z => ?_)⟩
  · have z : rtN n = true := z
    refine ⟨_, rfl, b, dx, _, rfl, h1, rfl, b, dx, A, p, t, rfl, hB, npb, ht, fun ra H1 hB1 hR k1 => ?_⟩
    obtain ⟨vs, hv1, hv2⟩ := hR.ex
    have hvl : vs.length = p.form.routes.length := Paired.length hv2
    refine ⟨ra, _, rfl, .inl (SqL.of hv1), _, _, rfl, rfl, _, rfl, ite2 (fun y => ?_) (fun y => ?_)⟩
    · have hm : 64 < p.form.routes.length := by have := of_decide_eq_true y; omega
      rw [step_many hc (of_decide_eq_true z) hm] at k
      exact ⟨_, rfl, (by show 1 ≤ sizeLine; decide), fun q hq => k q A p _ (k1.freeB hB1.bnone hq) (hB1.same (Same.new1 hq)) npb rfl (k1.trans (Keep.same (Same.new1 hq))) upd_same (by show 1 ≤ 33000; decide)⟩
    · have hm : p.form.routes.length ≤ 64 := by
        by_cases q : 64 < p.form.routes.length
        · exact absurd (decide_eq_true (by omega)) y
        · omega
      intro ca hca
      obtain ⟨xs, r, fa, x, m1, m2, m3, m4, m5⟩ := CaR_get hca hn
      refine ⟨_, rfl, ca, _, _, _, rfl, rfl, m1 _, atI_nat m2, r, _, _, _, rfl, rfl, m5 _, atI_nat (j := 0) rfl, ?_⟩
      refine dyn_ok T hr hn hB1 npb (k1.stays hB1.bnone ht) (k1.lst h1 hg) hl hc (fun _ => hm) ?_ x fa m3 m4
      exact fun q A2 p2 H2 hq a1 a2 a3 a4 a5 a6 => k q A2 p2 H2 (k1.freeB hB1.bnone hq) a1 a2 a3 (k1.trans a4) a5 a6
  · have z : ¬ rtN n = true := z
    refine iteF ?_
    intro ca hca
    obtain ⟨xs, r, fa, x, m1, m2, m3, m4, m5⟩ := CaR_get hca hn
    refine ⟨_, rfl, ca, _, _, _, rfl, rfl, m1 _, atI_nat m2, r, _, _, _, rfl, rfl, m5 _, atI_nat (j := 0) rfl, ?_⟩
    exact dyn_ok T hr hn hB npb ht hg hl hc (fun q => absurd q z) k x fa m3 m4
def itemR (H0 : Hp) (wa : Addr) (H : Hp) (v : V) (c : List (List Int)) : Prop := ∃ (q ga : Addr) (n : Nat) (ns : List Nat), v = .ref q ∧ H q = some (.tup [.int (n : Int), .ref ga]) ∧ H ga = some (.lst (nV ns)) ∧ H0 ga = none ∧ ga ≠ wa ∧ n < 12 ∧ ns.length ≤ 30000 ∧ (∀ k, szN n = some k → ns.length = k) ∧ c = rawOf n ns
theorem itemR.keep {H0 : Hp} {wa : Addr} {H H' : Hp} {v : V} {c : List (List Int)} {xs : List V} (r : itemR H0 wa H v c) (hw : H wa = some (.lst xs)) (hk : ∀ c o, H c = some o → c ≠ wa → H' c = some o) : itemR H0 wa H' v c := by
  obtain ⟨q, ga, n, ns, e, h1, h2, h3, h4, h5⟩ := r
  exact ⟨q, ga, n, ns, e, hk _ _ h1 (ne_of h1 hw (by intro z; cases z)), hk _ _ h2 h4, h3, h4, h5⟩
def spSplit (K : PySem.W.Frag) : Sp := fun vs H Q _ => ∃ (ca : Addr) (L : List Nat) (f : Nat) (cs : List (List (List Int))), vs = [.ref ca] ∧ SqL K H ca (nV L) ∧ L.length ≤ 30000 ∧ PyFlat.calls PyWqatdn.shape f (up L) = some cs ∧
  ∀ (q : Addr) (us : List V) (H' : Hp), H q = none → Same H H' → H' q = some (.lst us) → Paired (itemR H q H') us cs → Q (.ref q) H'
theorem fn_split_calls (T : Txt K mg CP CB) : Fn P w K mg base 1 "split_calls" ["calls"] (spSplit K) := by
  refine T.f_split_calls.ok sc_split_calls (fun vs H Q E h => ?_) (fun f cdv A' outer s H vs Q E hr h => ?_)
  · obtain ⟨ca, L, f, cs, rfl, _⟩ := h
    rfl
  obtain ⟨ca, L, f0, cs, rfl, hca, hL, hcs, k⟩ := h
  have hsl := sizeLine_eq
  refine ⟨_, (pss_cons (ps_set (i := 1) sc_split_calls.nd rfl (by first | exact Or.inl rfl | exact Or.inr rfl) (pe_lst pa_nil))
      (pss_cons (ps_set (i := 2) sc_split_calls.nd rfl (by first | exact Or.inl rfl | exact Or.inr rfl) pe_int)
      (pss_cons (ps_while PassesOwn.never (pt_cmpR op_lt (pv 2) (pe_callB call_len_seq rfl T.b_len PySem.boot_len (pa_cons (pv 0) pa_nil)) (nomark _)) (pss_cons (ps_set (i := 3) sc_split_calls.nd rfl (by first | exact Or.inl rfl | exact Or.inr rfl) (pe_ix ix_list (pv 0) (pv 2) (fun _ _ => rfl)))
      (pss_cons (ps_set (i := 4) sc_split_calls.nd rfl (by first | exact Or.inl rfl | exact Or.inr rfl) (pe_op op_add (pv 2) pe_int))
      (pss_cons (ps_set (i := 5) sc_split_calls.nd rfl (by first | exact Or.inl rfl | exact Or.inr rfl) (pe_ix ix_tup (pe_ix ix_tup (pe_gtup rfl T.t_CALLS) (pv 3) (fun _ _ => rfl)) pe_int (fun _ _ => rfl)))
      (pss_cons (ps_if (pt_cmp (pc_isN (pv 5))) (pss_cons (ps_set (i := 5) sc_split_calls.nd rfl (by first | exact Or.inl rfl | exact Or.inr rfl) (pe_ix ix_list (pv 0) (pv 4) (fun _ _ => rfl)))
      (pss_one (ps_set (i := 4) sc_split_calls.nd rfl (by first | exact Or.inl rfl | exact Or.inr rfl) (pe_op op_add (pv 4) pe_int)))) pss_nil)
      (pss_cons (ps_expr (pe_bm PySem.F.plainAttrs_list PySem.F.slot_list_append PySem.F.type_list_append mt_append (pv 1) (pa_cons (pe_tup (pa_cons (pv 3) (pa_cons (pe_slice sl_list (pv 0) (po_some (pv 4)) (po_some (pe_op op_add (pv 4) (pv 5)))) pa_nil))) pa_nil)))
      (pss_one (ps_set (i := 2) sc_split_calls.nd rfl (by first | exact Or.inl rfl | exact Or.inr rfl) (pe_op op_add (pv 4) (pv 5))))))))))
      (pss_one (ps_ret (pv 1)))))), ?_⟩
  refine ⟨Nat.zero_le _, fun wa hwa => ?_⟩
  refine ⟨fun m σ H' => ∃ v3 v4 v5 pl vs don cs', σ = [some (.ref ca), some (.ref wa), some (.int ((pl : Nat) : Int)), v3, v4, v5] ∧ Same H H' ∧ H' wa = some (.lst vs) ∧ Paired (itemR H wa H') vs don ∧ don ++ cs' = cs ∧ pl ≤ L.length ∧ (∃ f, PyFlat.calls PyWqatdn.shape f (up (L.drop pl)) = some cs') ∧ vs.length ≤ pl ∧ m = L.length - pl,
    ⟨_, none, none, none, 0, [], [], cs, rfl, Same.new1 hwa, upd_same, .nil, rfl, Nat.zero_le _, ⟨f0, hcs⟩, Nat.le_refl _, rfl⟩, ?_⟩
  rintro m σ H' ⟨v3, v4, v5, pl, vs, don, cs', rfl, hs, hw1, hp1, hdon, hpl, ⟨f1, hf1⟩, hvl, rfl⟩
  refine ⟨_, rfl, _, rfl, ca, _, rfl, .inl (Same.sqL hs hca), _, _, rfl, rfl, _, rfl, ite2 (fun z => ?_) (fun z => ?_)⟩
  · have hlt : pl < L.length := by have := of_decide_eq_true z; rw [List.length_map] at this; omega
    have hdrop : L.drop pl ≠ [] := fun e => by have := congrArg List.length e; rw [List.length_drop] at this; simp at this; omega
    obtain ⟨n, r, er, hn12, hsp⟩ := split1 hf1 hdrop
    have hLn : L[pl]? = some n := by
      have := congrArg (fun l => l[0]?) er
      simpa using this
    have hrl : r.length + pl + 1 = L.length := by
      have := congrArg List.length er
      rw [List.length_drop, List.length_cons] at this
      omega
    have hr' : r = L.drop (pl + 1) := by
      have := congrArg (List.drop 1) er
      rw [List.drop_drop] at this
      simpa using this.symm
    have hnV : (nV L)[pl]? = some (.int (n : Int)) := by unfold nV; rw [List.getElem?_map, hLn]; rfl
    refine ⟨fun σ' H'' => ∃ v3 v4 v5 pl' vs don cs', σ' = [some (.ref ca), some (.ref wa), some (.int ((pl' : Nat) : Int)), v3, v4, v5] ∧ Same H H'' ∧ H'' wa = some (.lst vs) ∧ Paired (itemR H wa H'') vs don ∧ don ++ cs' = cs ∧ pl' ≤ L.length ∧ (∃ f, PyFlat.calls PyWqatdn.shape f (up (L.drop pl')) = some cs') ∧ vs.length ≤ pl' ∧ pl < pl',
      fun σ' H'' ⟨a1, a2, a3, a4, a5, a6, a7, b1, b2, b3, b4, b5, b6, b7, b8, b9⟩ => ⟨_, (by omega : L.length - a4 < L.length - pl), a1, a2, a3, a4, a5, a6, a7, b1, b2, b3, b4, b5, b6, b7, b8, rfl⟩, ?_⟩
    refine ⟨_, rfl, _, rfl, ca, _, _, _, rfl, rfl, Same.sqL hs hca, atI_nat hnV, ?_⟩
    refine ⟨_, rfl, _, _, rfl, rfl, ?_⟩
    intro cg hcg
    obtain ⟨xs, rr, fa, x, m1, m2, m3, m4, m5⟩ := CaR_get hcg hn12
    refine ⟨_, rfl, cg, _, _, _, rfl, rfl, m1 _, atI_nat m2, rr, _, _, _, rfl, rfl, m5 _, atI_nat (j := 1) rfl, ?_⟩
    rcases hsp with ⟨sz, hsz, hszl, f2, cs2, hf2, ecs⟩ | ⟨hsz, sz, r2, er2, hszl, f2, cs2, hf2, ecs⟩
    · have eV : szV n = .int (sz : Nat) := by unfold szV; rw [hsz]
      rw [eV]
      refine ⟨_, rfl, _, rfl, iteF ?_⟩
      rw [hr', List.drop_drop] at hf2
      rw [hr'] at ecs
      rw [ecs] at hdon
      have hcs2 := hdon
      have hend : pl + 1 + sz ≤ L.length := by omega
      have hsq := Same.sqL (K := K) hs hca
      refine ⟨_, rfl, .inl ⟨rfl, _, SqL.of hw1⟩, _, rfl, _, rfl, _, rfl, _, rfl, _, rfl, _, rfl, _, _, rfl, rfl, _, rfl, ca, _, rfl, hsq, fun ga hga => ?_⟩
      have ecut : cutV (nV L) (some ((pl : Int) + 1)) (some ((pl : Int) + 1 + (sz : Int))) = nV ((L.drop (pl + 1)).take sz) := nV_cut2 L hend
      rw [ecut]
      refine ⟨(by show 2 ≤ sizeLine; decide), fun q hq => ⟨wa, _, _, rfl, rfl, (by rw [upd_ne (ne_of_none (by rw [upd_ne (ne_of_none hw1 hga)]; exact hw1) hq), upd_ne (ne_of_none hw1 hga)]; exact hw1), (by omega), ?_⟩⟩
      have ngw : ga ≠ wa := fun z => by rw [z, hw1] at hga; cases hga
      have sG : Same H (upd H' ga (.lst (nV ((L.drop (pl + 1)).take sz)))) := Same.new hs hga
      have ngq : ga ≠ q := ne_of_none upd_same hq
      have hq' : H' q = none := by rw [upd_ne (Ne.symm ngq)] at hq; exact hq
      have nqw : q ≠ wa := fun z => by rw [z, hw1] at hq'; cases hq'
      have goal : ∀ HF : Hp, HF = upd (upd (upd H' ga (.lst (nV ((L.drop (pl + 1)).take sz)))) q (.tup [.int (n : Int), .ref ga])) wa (.lst (vs ++ [.ref q])) → Same H HF ∧ HF wa = some (.lst (vs ++ [.ref q])) ∧ Paired (itemR H wa HF) (vs ++ [.ref q]) (don ++ [rawOf n ((L.drop (pl + 1)).take sz)]) := by
        rintro HF rfl
        have hkeep : ∀ c o, H' c = some o → c ≠ wa → (upd (upd (upd H' ga (.lst (nV ((L.drop (pl + 1)).take sz)))) q (.tup [.int (n : Int), .ref ga])) wa (.lst (vs ++ [.ref q]))) c = some o := fun c o e nc => by
          rw [upd_ne nc, upd_ne (ne_of_none e hq'), upd_ne (ne_of_none e hga)]
          exact e
        refine ⟨Same.wr (Same.new sG hq) hwa, upd_same, paired_snoc (paired_imp hp1 fun _ _ _ r => r.keep hw1 hkeep) ?_⟩
        refine ⟨q, ga, n, (L.drop (pl + 1)).take sz, rfl, ?_, ?_, Same.free hs hga, ngw, hn12, ?_, ?_, rfl⟩
        · rw [upd_ne nqw, upd_same]
        · rw [upd_ne ngw, upd_ne ngq, upd_same]
        · rw [List.length_take, List.length_drop]; omega
        · intro k hk; rw [hsz] at hk; cases hk; rw [List.length_take, List.length_drop]; omega
      obtain ⟨sF, wF, pF⟩ := goal _ rfl
      exact ⟨_, rfl, _, rfl, _, _, rfl, rfl, _, _, _, (pl + 1) + sz, _, _, cs2, rfl, sF, wF, pF, (by rw [List.append_assoc]; exact hcs2), hend, ⟨f2, hf2⟩, (by rw [List.length_append]; show _ + 1 ≤ _; omega), (by omega)⟩
    · have eV : szV n = .non := by unfold szV; rw [hsz]
      rw [eV]
      refine ⟨_, rfl, _, rfl, iteT ?_⟩
      have hLm : L[pl + 1]? = some sz := by
        have e := hr'.symm.trans er2
        have := congrArg (fun l => l[0]?) e
        simpa using this
      have hmV : (nV L)[pl + 1]? = some (.int (sz : Int)) := by unfold nV; rw [List.getElem?_map, hLm]; rfl
      have hr2 : r2 = L.drop (pl + 2) := by
        have e := hr'.symm.trans er2
        have := congrArg (List.drop 1) e
        rw [List.drop_drop] at this
        simpa using this.symm
      have hr2l : r2.length + pl + 2 = L.length := by
        rw [er2, List.length_cons] at hrl
        omega
      refine ⟨_, rfl, _, rfl, ca, _, _, _, rfl, rfl, Same.sqL hs hca, atI_nat (j := pl + 1) hmV, ?_⟩
      refine ⟨_, rfl, _, _, rfl, rfl, ?_⟩
      rw [hr2, List.drop_drop] at hf2
      rw [hr2] at ecs
      rw [ecs] at hdon
      have hcs2 := hdon
      have hend : pl + 2 + sz ≤ L.length := by omega
      have hsq := Same.sqL (K := K) hs hca
      refine ⟨_, rfl, .inl ⟨rfl, _, SqL.of hw1⟩, _, rfl, _, rfl, _, rfl, _, rfl, _, rfl, _, rfl, _, _, rfl, rfl, _, rfl, ca, _, rfl, hsq, fun ga hga => ?_⟩
      have ecut : cutV (nV L) (some ((pl : Int) + 1 + 1)) (some ((pl : Int) + 1 + 1 + (sz : Int))) = nV ((L.drop (pl + 2)).take sz) := nV_cut2 L hend
      rw [ecut]
      refine ⟨(by show 2 ≤ sizeLine; decide), fun q hq => ⟨wa, _, _, rfl, rfl, (by rw [upd_ne (ne_of_none (by rw [upd_ne (ne_of_none hw1 hga)]; exact hw1) hq), upd_ne (ne_of_none hw1 hga)]; exact hw1), (by omega), ?_⟩⟩
      have ngw : ga ≠ wa := fun z => by rw [z, hw1] at hga; cases hga
      have sG : Same H (upd H' ga (.lst (nV ((L.drop (pl + 2)).take sz)))) := Same.new hs hga
      have ngq : ga ≠ q := ne_of_none upd_same hq
      have hq' : H' q = none := by rw [upd_ne (Ne.symm ngq)] at hq; exact hq
      have nqw : q ≠ wa := fun z => by rw [z, hw1] at hq'; cases hq'
      have goal : ∀ HF : Hp, HF = upd (upd (upd H' ga (.lst (nV ((L.drop (pl + 2)).take sz)))) q (.tup [.int (n : Int), .ref ga])) wa (.lst (vs ++ [.ref q])) → Same H HF ∧ HF wa = some (.lst (vs ++ [.ref q])) ∧ Paired (itemR H wa HF) (vs ++ [.ref q]) (don ++ [rawOf n ((L.drop (pl + 2)).take sz)]) := by
        rintro HF rfl
        have hkeep : ∀ c o, H' c = some o → c ≠ wa → (upd (upd (upd H' ga (.lst (nV ((L.drop (pl + 2)).take sz)))) q (.tup [.int (n : Int), .ref ga])) wa (.lst (vs ++ [.ref q]))) c = some o := fun c o e nc => by
          rw [upd_ne nc, upd_ne (ne_of_none e hq'), upd_ne (ne_of_none e hga)]
          exact e
        refine ⟨Same.wr (Same.new sG hq) hwa, upd_same, paired_snoc (paired_imp hp1 fun _ _ _ r => r.keep hw1 hkeep) ?_⟩
        refine ⟨q, ga, n, (L.drop (pl + 2)).take sz, rfl, ?_, ?_, Same.free hs hga, ngw, hn12, ?_, ?_, rfl⟩
        · rw [upd_ne nqw, upd_same]
        · rw [upd_ne ngw, upd_ne ngq, upd_same]
        · rw [List.length_take, List.length_drop]; omega
        · intro k hk; rw [hsz] at hk; cases hk
      obtain ⟨sF, wF, pF⟩ := goal _ rfl
      exact ⟨_, rfl, _, rfl, _, _, rfl, rfl, _, _, _, (pl + 2) + sz, _, _, cs2, rfl, sF, wF, pF, (by rw [List.append_assoc]; exact hcs2), hend, ⟨f2, hf2⟩, (by rw [List.length_append]; show _ + 1 ≤ _; omega), (by omega)⟩
  · have hge : pl = L.length := by
      by_cases q : pl < L.length
      · exact absurd (decide_eq_true (by rw [List.length_map]; omega)) z
      · omega
    have hnil : cs' = [] := by
      rw [hge, List.drop_length] at hf1
      cases f1 <;> exact (Option.some.inj hf1).symm
    rw [hnil, List.append_nil] at hdon
    subst hdon
    exact ⟨_, rfl, k wa vs H' hwa hs hw1 hp1⟩
end
end YP
namespace YP
open PySem PySem.Spec PyProof.Rows L2
open Yh (Bytes Spot Sect Plan Route)
open Wqatdn (Ans told)
theorem BoxAt.wrT {CP CB : Addr} {H : Hp} {b dx : Addr} {A : PA} {p : Plan} {t : Addr} {xs ys : List V} (h : BoxAt CP CB H b dx A p t) (ht : H t = some (.lst xs)) : BoxAt CP CB (upd H t (.lst ys)) b dx A p t := by
  have tp : Tups H (upd H t (.lst ys)) := fun c zs e => by rw [upd_ne (ne_of e ht (by intro z; cases z))]; exact e
  obtain ⟨fo, h1, h2⟩ := h.obj
  obtain ⟨us, a1, a2⟩ := h.plan.sects
  obtain ⟨kvs, b1, b2⟩ := h.plan.joins
  refine ⟨⟨fo, by rw [upd_ne (ne_of h1 ht (by intro z; cases z))]; exact h1, ?_⟩, ⟨by rw [upd_ne (ne_of h.plan.obj ht (by intro z; cases z))]; exact h.plan.obj, ⟨us, by rw [upd_ne h.av]; exact a1, paired_imp a2 fun _ _ _ r => r.keep tp⟩, by rw [upd_ne (ne_of h.plan.nums ht (by intro z; cases z))]; exact h.plan.nums, ⟨kvs, by rw [upd_ne (ne_of b1 ht (by intro z; cases z))]; exact b1, paired_imp b2 fun _ _ _ r => r.keep tp⟩, by rw [upd_ne (ne_of h.plan.bords ht (by intro z; cases z))]; exact h.plan.bords, by rw [upd_ne (ne_of h.plan.sigs ht (by intro z; cases z))]; exact h.plan.sigs, h.plan.nd⟩, h.wf, h.av⟩
  rcases h2 with z | ⟨ra, e, n, r⟩
  · exact .inl z
  · obtain ⟨vs, c1, c2⟩ := r.ex
    exact .inr ⟨ra, e, n, ⟨vs, by rw [upd_ne n]; exact c1, paired_imp c2 fun _ _ _ q => q.keep tp⟩, r.short⟩
section
variable {P : Program} {w : World} {K : PySem.W.Frag} {mg : Str → Option Value} {base : Heap} {CP CB : Addr}
def spAnswers (K : PySem.W.Frag) : Sp := fun vs H Q _ => ∃ (ca : Addr) (L : List Nat) (f : Nat) (cs : List (List (List Int))), vs = [.ref ca] ∧ SqL K H ca (nV L) ∧ L.length ≤ 30000 ∧ PyFlat.calls PyWqatdn.shape f (up L) = some cs ∧ cs.length ≤ 400 ∧ (∀ c ∈ cs, WqatdnNeutral.asked1 c = true) ∧
  ∀ (H' : Hp) (q : Addr), H' q = some (.lst (iV (PyFlat.told (PyFlat.played WqatdnNeutral.step WqatdnNeutral.start cs)))) → Q (.ref q) H'
theorem ok_answers {f : Addr} {fd : FuncData} (F : Fun K "answers" "answers" s_answers f fd) (T : Txt K mg CP CB) : FnOk P w K mg base CX0 20 f fd ["calls"] (spAnswers K) := by
  refine F.ok sc_answers (fun vs H Q E h => ?_) (fun cdv A' outer s H vs Q E hr h => ?_)
  · obtain ⟨ca, L, f, cs, rfl, _⟩ := h
    rfl
  obtain ⟨ca, L, f0, cs, rfl, hca, hL, hcs, h400, hask, k⟩ := h
  have hsl := sizeLine_eq
  refine ⟨_, (pss_cons (ps_set (i := 1) sc_answers.nd rfl (by first | exact Or.inl rfl | exact Or.inr rfl) (pe_mk0 T.mk_Box (in_Box T) (hr.mono (by decide)) rfl))
      (pss_cons (ps_set (i := 2) sc_answers.nd rfl (by first | exact Or.inl rfl | exact Or.inr rfl) (pe_lst pa_nil))
      (pss_cons (ps_for PassesOwn.never rfl (pi_list (pe_fn (fn_split_calls T) (hr.mono (by decide)) rfl (pa_cons (pv 0) pa_nil))) (pg_tup rfl (pgs_cons (pg_name (i := 3) sc_answers.nd rfl (by first | exact Or.inl rfl | exact Or.inr rfl)) (pgs_cons (pg_name (i := 4) sc_answers.nd rfl (by first | exact Or.inl rfl | exact Or.inr rfl)) pgs_nil))) (pss_cons (ps_set (i := 5) sc_answers.nd rfl (by first | exact Or.inl rfl | exact Or.inr rfl) (pe_fn (fn_answer_call T) (hr.mono (by decide)) rfl (pa_cons (pv 1) (pa_cons (pv 3) (pa_cons (pv 4) pa_nil)))))
      (pss_cons (ps_expr (pe_bm PySem.F.plainAttrs_list PySem.F.slot_list_append PySem.F.type_list_append mt_append (pv 2) (pa_cons (pe_callB call_len_seq rfl T.b_len PySem.boot_len (pa_cons (pv 5) pa_nil)) pa_nil)))
      (pss_one (ps_expr (pe_bm PySem.F.plainAttrs_list PySem.F.slot_list_extend PySem.F.type_list_extend mt_extend (pv 2) (pa_cons (pv 5) pa_nil)))))))
      (pss_one (ps_ret (pv 2)))))), ?_⟩
  intro b dx nb ndx ne
  refine ⟨b, dx, rfl, upd_same, fun A H1 hfr hb1 hpl kp => ⟨rfl, ?_⟩⟩
  have sm : Same H H1 := Same.made nb ndx (fun b o e hb => kp b o e hb)
  have npb : A.p ≠ b := fun z => by
    have e := hpl.obj
    rw [z, hb1] at e
    injection e with e
    injection e with _ _ e
    have := congrArg List.length e
    revert this
    show (2 = 5) → False
    decide
  refine ⟨Nat.zero_le _, fun t ht => ?_⟩
  have s2 : Same H1 (upd H1 t (.lst [])) := Same.new1 ht
  have av : A.s ≠ t := by
    obtain ⟨us, a1, _⟩ := hpl.sects
    exact ne_of_none a1 ht
  have hB0 : BoxAt CP CB (upd H1 t (.lst [])) b dx A pl0 t := ⟨⟨_, s2 _ _ hb1, .inl rfl⟩, hpl.same s2, wf0, av⟩
  refine ⟨_, rfl, ca, L, f0, cs, rfl, Same.sqL (sm.trans s2) hca, hL, hcs, fun sa us H3 hsa s3 hs1 hs2 => ?_⟩
  have ht3 : H3 t = some (.lst []) := s3 _ _ upd_same
  have hB3 := hB0.same s3
  have hul : us.length = cs.length := Paired.length hs2
  have hb3 := hB3.bnone
  obtain ⟨fo3, hb3', _⟩ := hB3.obj
  have nsb : sa ≠ b := fun z => by rw [z] at hsa; rw [upd_ne (ne_of_none hb1 ht), hb1] at hsa; cases hsa
  have nst : sa ≠ t := fun z => by rw [z, upd_same] at hsa; cases hsa
  refine ⟨sa, rfl, ⟨_, SqL.of hs1⟩, for_list (K := K) (a := sa) (xs := us) (fun i σ H' => ∃ v3 v4 v5 A p out, σ = [some (.ref ca), some (.ref b), some (.ref t), v3, v4, v5] ∧ BoxAt CP CB H' b dx A p t ∧ A.p ≠ b ∧ Keep [b, t] H3 H' ∧ H' t = some (.lst (iV out)) ∧ out.length ≤ 33001 * i ∧ out ++ PyFlat.told (PyFlat.played WqatdnNeutral.step p.form (cs.drop i)) = PyFlat.told (PyFlat.played WqatdnNeutral.step WqatdnNeutral.start cs))
    ⟨none, none, none, A, pl0, [], rfl, hB3, npb, Keep.same (Same.refl _), ht3, Nat.zero_le _, rfl⟩ (fun i σ H' _ ⟨_, _, _, _, _, _, _, _, _, kp', _⟩ => SqL.of (kp' _ _ hs1 (by simp [nsb, nst]))) ?_ ?_⟩
  · rintro i v σ H' hi ⟨v3, v4, v5, A1, p, out, rfl, hB, np1, kp1, ht1, hout, htold⟩
    obtain ⟨c, hc, q0, ga, n, ns, rfl, g1, g2, g3, g4, hn12, hnl, hnz, rfl⟩ := paired_get hs2 hi
    have hil : i < cs.length := (List.getElem?_eq_some_iff.mp hc).1
    have hdrop : cs.drop i = rawOf n ns :: cs.drop (i + 1) := by
      rw [List.drop_eq_getElem_cons hil]
      congr 1
      exact (List.getElem?_eq_some_iff.mp hc).2
    obtain ⟨x, hx1, hx2⟩ := call_of hn12 hnz (hask _ (List.mem_of_getElem? hc))
    have q0' : H' q0 = some (.tup [.int (n : Int), .ref ga]) := kp1 _ _ g1 (by
      simp only [List.mem_cons, List.not_mem_nil, or_false, not_or]
      exact ⟨ne_of g1 hb3' (by intro z; cases z), ne_of g1 ht3 (by intro z; cases z)⟩)
    have ngt : ga ≠ t := fun z => by rw [z, upd_same] at g3; cases g3
    have ga' : H' ga = some (.lst (nV ns)) := kp1 _ _ g2 (by
      simp only [List.mem_cons, List.not_mem_nil, or_false, not_or]
      exact ⟨ne_of g2 hb3' (by intro z; cases z), ngt⟩)
    obtain ⟨fo, hb', _⟩ := hB.obj
    have ntb : t ≠ b := ne_of ht1 hb' (by intro z; cases z)
    refine ⟨q0, _, rfl, SqT.of q0', rfl, _, _, rfl, _, _, rfl, rfl, ?_⟩
    refine ⟨_, rfl, _, rfl, _, rfl, b, dx, A1, p, t, ga, ns, n, x, rfl, hn12, hB, np1, (by rw [ht1]; simp), ga', hnl, hx1, fun q A2 p2 H4 hq hB4 np2 hp2 k4 hq4 hle => ?_⟩
    have ht4 : H4 t = some (.lst (iV out)) := k4 _ _ ht1 (by simpa using ntb)
    have nqt : q ≠ t := fun z => by rw [z, ht1] at hq; cases hq
    have hol : (iV out).length = out.length := by simp [iV]
    have hal : (iV (ansOf (Wqatdn.step p.form x).2)).length = (ansOf (Wqatdn.step p.form x).2).length := by simp [iV]
    refine ⟨_, rfl, .inl ⟨rfl, _, SqL.of ht4⟩, _, rfl, q, _, rfl, .inl (SqL.of hq4), t, _, _, rfl, rfl, ht4, (by omega), ?_⟩
    refine ⟨_, rfl, .inl ⟨rfl, _, SqL.of upd_same⟩, _, rfl, t, q, _, _, rfl, rfl, upd_same, (by rw [upd_ne nqt]; exact hq4), (by rw [List.length_append, List.length_singleton]; omega), ?_⟩
    rw [upd_upd]
    refine ⟨_, _, _, A2, p2, out ++ ((ansOf (Wqatdn.step p.form x).2).length : Int) :: ansOf (Wqatdn.step p.form x).2, rfl, hB4.wrT ht4, np2, ?_, ?_, ?_, ?_⟩
    · exact (kp1.trans (k4.mono (by simp))).trans (Keep.upd (by simp))
    · rw [upd_same, hal]
      simp [iV]
    · rw [List.length_append, List.length_cons]
      omega
    · rw [← htold, hdrop]
      have ep : PyFlat.told (PyFlat.played WqatdnNeutral.step p.form (rawOf n ns :: cs.drop (i + 1))) = ((WqatdnNeutral.step p.form (rawOf n ns)).2.length : Int) :: ((WqatdnNeutral.step p.form (rawOf n ns)).2 ++ PyFlat.told (PyFlat.played WqatdnNeutral.step (WqatdnNeutral.step p.form (rawOf n ns)).1 (cs.drop (i + 1)))) := rfl
      rw [ep, step_of hx2, hp2, List.append_assoc, List.cons_append]
  · rintro σ H' ⟨v3, v4, v5, A1, p, out, rfl, hB, np1, kp1, ht1, hout, htold⟩
    rw [hul, List.drop_length] at htold
    have e : out = PyFlat.told (PyFlat.played WqatdnNeutral.step WqatdnNeutral.start cs) := by
      rw [← htold]
      show out = out ++ []
      rw [List.append_nil]
    subst e
    exact ⟨_, rfl, k H' t ht1⟩
end
end YP
namespace YP
open PySem PySem.Spec PyProof.Rows L2
def BdOk (x qual : Str) (st : Stmt) (ps : List Str) : Prop := ∀ (kV doc pm : Value) (an : Option Addr) (cdv ct : Value) (us : List Value), us.length = ps.length → bindArgs (PySem.W.fnOf x qual (defArgs st) (defBody st) (defScope st) .none kV doc pm an cdv ct) ⟨us, []⟩ = pure (ps.zip us)
abbrev fO (x qual : Str) (st : Stmt) (oc : Value) (od an : Option Addr) (sl : Array (Option Value)) (kV doc pm cdv ct : Value) : Obj := ⟨oc, od, .func (PySem.W.fnOf x qual (defArgs st) (defBody st) (defScope st) .none kV doc pm an cdv ct), sl⟩
abbrev tO (od : Option Addr) (n : Nat) (sl : Array (Option Value)) (vs : List Value) : Obj := ⟨.type "tuple", od, .seq vs.toArray n, sl⟩
section
variable {K : PySem.W.Frag} {h : Heap} {mg : Str → Option Value} {C f : Addr} {x qual : Str} {st : Stmt} {ps : List Str} {oc kV doc pm cdv ct : Value} {od an : Option Addr} {sl : Array (Option Value)}
theorem funG_mk (X : K.In h) (G : h.Ns mainGlobals mg) (B : BdOk x x st ps) (a : PySem.W.nsIn K mainGlobals x = some (some (.ref f))) (l : K.lookup f = some (fO x x st oc od an sl kV doc pm cdv ct)) (c : PySem.W.codeIn K cdv x = true) (k : PySem.W.keepIn K (.ref f) = true) : FunG K mg x st ps :=
  ⟨⟨f, _, fun_mk l c k, PySem.W.mg_of X G a, (fun_mk l c k).binds B⟩⟩
theorem mthG_mk (B : BdOk x qual st ps) (a : PySem.W.findIn K (.ref C) x = some (some (.ref f))) (i : PySem.W.isFn K (.ref f) = true) (l : K.lookup f = some (fO x qual st oc od an sl kV doc pm cdv ct)) (c : PySem.W.codeIn K cdv qual = true) (k : PySem.W.keepIn K (.ref f) = true) : MthG K C x qual st ps :=
  ⟨⟨f, _, fun_mk l c k, ⟨a, i, k⟩, (fun_mk l c k).binds B⟩⟩
theorem mkG_mk (X : K.In h) (G : h.Ns mainGlobals mg) (B : BdOk "__init__" qual st ["self"]) (aC : PySem.W.nsIn K mainGlobals x = some (some (.ref C))) (mk : PySem.W.makesIn K C = true) (kc : PySem.W.keepIn K (.ref C) = true) (a : PySem.W.findIn K (.ref C) "__init__" = some (some (.ref f))) (i : PySem.W.isFn K (.ref f) = true) (l : K.lookup f = some (fO "__init__" qual st oc od an sl kV doc pm cdv ct)) (c : PySem.W.codeIn K cdv qual = true) (k : PySem.W.keepIn K (.ref f) = true) : MkG K mg C x qual st :=
  ⟨⟨f, _, ⟨mk, a, i, kc⟩, fun_mk l c k, (fun_mk l c k).binds B, PySem.W.mg_of X G aC⟩⟩
theorem gi_mk {i : Int} {t : Nat} (X : K.In h) (G : h.Ns mainGlobals mg) (a : PySem.W.nsIn K mainGlobals x = some (some (.int i t))) : GI mg x i := ⟨t, PySem.W.mg_of X G a⟩
theorem mt_mk {xs : List V} {vs : List Value} {n : Nat} (l : K.lookup f = some (tO od n sl vs)) (hz : Nat.ble vs.length 100 = true) (hv : Vals xs vs) : MT K f xs := fun H =>
  .inr ⟨_, vs.toArray, n, l, rfl, rfl, (by have := sizeLine_eq; have := Nat.le_of_ble_eq_true hz; rw [List.size_toArray]; omega), (by simpa using hv)⟩
theorem mt_ends {n t1 t2 t3 : Nat} (l : K.lookup f = some (tO od n sl [.int 2 t1, .int 3 t2, .int 4 t3])) : MT K f [.int 2, .int 3, .int 4] := mt_mk l rfl (.cons ⟨_, rfl⟩ (.cons ⟨_, rfl⟩ (.cons ⟨_, rfl⟩ .nil)))
theorem mt_words {n t1 t2 t3 : Nat} (l : K.lookup f = some (tO od n sl [.str "plain" t1, .str "point" t2, .str "cross" t3])) : MT K f [.str "plain", .str "point", .str "cross"] := mt_mk l rfl (.cons ⟨_, rfl⟩ (.cons ⟨_, rfl⟩ (.cons ⟨_, rfl⟩ .nil)))
theorem gt_mk {R : Addr → Prop} (X : K.In h) (G : h.Ns mainGlobals mg) (a : PySem.W.nsIn K mainGlobals x = some (some (.ref f))) (r : R f) : GT K mg x R := ⟨⟨f, PySem.W.mg_of X G a, r⟩⟩
end
theorem bd_f_sections_of : BdOk "sections_of" "sections_of" s_sections_of ["route"] := fun _ _ _ _ _ _ us hl => match us, hl with | [_], _ => rfl
theorem bd_f_needed_points : BdOk "needed_points" "needed_points" s_needed_points ["plan", "route"] := fun _ _ _ _ _ _ us hl => match us, hl with | [_, _], _ => rfl
theorem bd_f_shared_sections : BdOk "shared_sections" "shared_sections" s_shared_sections ["route", "other"] := fun _ _ _ _ _ _ us hl => match us, hl with | [_, _], _ => rfl
theorem bd_f_in_conflict : BdOk "in_conflict" "in_conflict" s_in_conflict ["route", "other"] := fun _ _ _ _ _ _ us hl => match us, hl with | [_, _], _ => rfl
theorem bd_f_taken_in_turn : BdOk "taken_in_turn" "taken_in_turn" s_taken_in_turn ["routes", "numbers"] := fun _ _ _ _ _ _ us hl => match us, hl with | [_, _], _ => rfl
theorem bd_f_most_at_once : BdOk "most_at_once" "most_at_once" s_most_at_once ["routes", "numbers"] := fun _ _ _ _ _ _ us hl => match us, hl with | [_, _], _ => rfl
theorem bd_f_codes : BdOk "codes" "codes" s_codes ["text"] := fun _ _ _ _ _ _ us hl => match us, hl with | [_], _ => rfl
theorem bd_f_parted : BdOk "parted" "parted" s_parted ["row", "mark"] := fun _ _ _ _ _ _ us hl => match us, hl with | [_, _], _ => rfl
theorem bd_f_is_capital : BdOk "is_capital" "is_capital" s_is_capital ["byte"] := fun _ _ _ _ _ _ us hl => match us, hl with | [_], _ => rfl
theorem bd_f_is_digit : BdOk "is_digit" "is_digit" s_is_digit ["byte", "highest"] := fun _ _ _ _ _ _ us hl => match us, hl with | [_, _], _ => rfl
theorem bd_f_is_name : BdOk "is_name" "is_name" s_is_name ["word"] := fun _ _ _ _ _ _ us hl => match us, hl with | [_], _ => rfl
theorem bd_f_is_end : BdOk "is_end" "is_end" s_is_end ["word"] := fun _ _ _ _ _ _ us hl => match us, hl with | [_], _ => rfl
theorem bd_f_line_of : BdOk "line_of" "line_of" s_line_of ["first", "words"] := fun _ _ _ _ _ _ us hl => match us, hl with | [_, _], _ => rfl
theorem bd_f_end_word : BdOk "end_word" "end_word" s_end_word ["plan", "end"] := fun _ _ _ _ _ _ us hl => match us, hl with | [_, _], _ => rfl
theorem bd_f_print_plan : BdOk "print_plan" "print_plan" s_print_plan ["plan"] := fun _ _ _ _ _ _ us hl => match us, hl with | [_], _ => rfl
theorem bd_f_are_ends : BdOk "are_ends" "are_ends" s_are_ends ["words", "count"] := fun _ _ _ _ _ _ us hl => match us, hl with | [_, _], _ => rfl
theorem bd_f_find_end : BdOk "find_end" "find_end" s_find_end ["plan", "word"] := fun _ _ _ _ _ _ us hl => match us, hl with | [_, _], _ => rfl
theorem bd_f_is_at_plain : BdOk "is_at_plain" "is_at_plain" s_is_at_plain ["plan", "end"] := fun _ _ _ _ _ _ us hl => match us, hl with | [_, _], _ => rfl
theorem bd_f_read_section : BdOk "read_section" "read_section" s_read_section ["plan", "kind", "words"] := fun _ _ _ _ _ _ us hl => match us, hl with | [_, _, _], _ => rfl
theorem bd_f_read_join : BdOk "read_join" "read_join" s_read_join ["plan", "words"] := fun _ _ _ _ _ _ us hl => match us, hl with | [_, _], _ => rfl
theorem bd_f_read_border : BdOk "read_border" "read_border" s_read_border ["plan", "words"] := fun _ _ _ _ _ _ us hl => match us, hl with | [_, _], _ => rfl
theorem bd_f_read_signal : BdOk "read_signal" "read_signal" s_read_signal ["plan", "words"] := fun _ _ _ _ _ _ us hl => match us, hl with | [_, _], _ => rfl
theorem bd_f_read_line : BdOk "read_line" "read_line" s_read_line ["plan", "line"] := fun _ _ _ _ _ _ us hl => match us, hl with | [_, _], _ => rfl
theorem bd_f_read_text : BdOk "read_text" "read_text" s_read_text ["plan", "text"] := fun _ _ _ _ _ _ us hl => match us, hl with | [_, _], _ => rfl
theorem bd_f_may_stop : BdOk "may_stop" "may_stop" s_may_stop ["plan", "step"] := fun _ _ _ _ _ _ us hl => match us, hl with | [_, _], _ => rfl
theorem bd_f_ways_on : BdOk "ways_on" "ways_on" s_ways_on ["plan", "way"] := fun _ _ _ _ _ _ us hl => match us, hl with | [_, _], _ => rfl
theorem bd_f_routes_from : BdOk "routes_from" "routes_from" s_routes_from ["plan", "signal"] := fun _ _ _ _ _ _ us hl => match us, hl with | [_, _], _ => rfl
theorem bd_f_find_routes : BdOk "find_routes" "find_routes" s_find_routes ["plan"] := fun _ _ _ _ _ _ us hl => match us, hl with | [_], _ => rfl
theorem bd_f_answer_read : BdOk "answer_read" "answer_read" s_answer_read ["box", "text"] := fun _ _ _ _ _ _ us hl => match us, hl with | [_, _], _ => rfl
theorem bd_f_answer_print : BdOk "answer_print" "answer_print" s_answer_print ["box", "given"] := fun _ _ _ _ _ _ us hl => match us, hl with | [_, _], _ => rfl
theorem bd_f_answer_section : BdOk "answer_section" "answer_section" s_answer_section ["box", "given"] := fun _ _ _ _ _ _ us hl => match us, hl with | [_, _], _ => rfl
theorem bd_f_answer_end : BdOk "answer_end" "answer_end" s_answer_end ["box", "given"] := fun _ _ _ _ _ _ us hl => match us, hl with | [_, _], _ => rfl
theorem bd_f_answer_counts : BdOk "answer_counts" "answer_counts" s_answer_counts ["box", "given"] := fun _ _ _ _ _ _ us hl => match us, hl with | [_, _], _ => rfl
theorem bd_f_answer_routes : BdOk "answer_routes" "answer_routes" s_answer_routes ["box", "given"] := fun _ _ _ _ _ _ us hl => match us, hl with | [_, _], _ => rfl
theorem bd_f_answer_route : BdOk "answer_route" "answer_route" s_answer_route ["box", "given"] := fun _ _ _ _ _ _ us hl => match us, hl with | [_, _], _ => rfl
theorem bd_f_answer_points : BdOk "answer_points" "answer_points" s_answer_points ["box", "given"] := fun _ _ _ _ _ _ us hl => match us, hl with | [_, _], _ => rfl
theorem bd_f_answer_conflict : BdOk "answer_conflict" "answer_conflict" s_answer_conflict ["box", "given"] := fun _ _ _ _ _ _ us hl => match us, hl with | [_, _], _ => rfl
theorem bd_f_answer_from : BdOk "answer_from" "answer_from" s_answer_from ["box", "given"] := fun _ _ _ _ _ _ us hl => match us, hl with | [_, _], _ => rfl
theorem bd_f_answer_together : BdOk "answer_together" "answer_together" s_answer_together ["box", "numbers"] := fun _ _ _ _ _ _ us hl => match us, hl with | [_, _], _ => rfl
theorem bd_f_is_rising : BdOk "is_rising" "is_rising" s_is_rising ["numbers"] := fun _ _ _ _ _ _ us hl => match us, hl with | [_], _ => rfl
theorem bd_f_answer_most : BdOk "answer_most" "answer_most" s_answer_most ["box", "numbers"] := fun _ _ _ _ _ _ us hl => match us, hl with | [_, _], _ => rfl
theorem bd_f_answer_call : BdOk "answer_call" "answer_call" s_answer_call ["box", "number", "given"] := fun _ _ _ _ _ _ us hl => match us, hl with | [_, _, _], _ => rfl
theorem bd_f_split_calls : BdOk "split_calls" "split_calls" s_split_calls ["calls"] := fun _ _ _ _ _ _ us hl => match us, hl with | [_], _ => rfl
theorem bd_f_answers : BdOk "answers" "answers" s_answers ["calls"] := fun _ _ _ _ _ _ us hl => match us, hl with | [_], _ => rfl
theorem bd_m_Plan_add_section : BdOk "add_section" "Plan.add_section" s_Plan_add_section ["self", "kind", "name"] := fun _ _ _ _ _ _ us hl => match us, hl with | [_, _, _], _ => rfl
theorem bd_m_Plan_add_join : BdOk "add_join" "Plan.add_join" s_Plan_add_join ["self", "first", "second"] := fun _ _ _ _ _ _ us hl => match us, hl with | [_, _, _], _ => rfl
theorem bd_m_Plan_add_border : BdOk "add_border" "Plan.add_border" s_Plan_add_border ["self", "end"] := fun _ _ _ _ _ _ us hl => match us, hl with | [_, _], _ => rfl
theorem bd_m_Plan_add_signal : BdOk "add_signal" "Plan.add_signal" s_Plan_add_signal ["self", "end"] := fun _ _ _ _ _ _ us hl => match us, hl with | [_, _], _ => rfl
theorem bd_m_Plan_section_kind : BdOk "section_kind" "Plan.section_kind" s_Plan_section_kind ["self", "section"] := fun _ _ _ _ _ _ us hl => match us, hl with | [_, _], _ => rfl
theorem bd_m_Plan_section_name : BdOk "section_name" "Plan.section_name" s_Plan_section_name ["self", "section"] := fun _ _ _ _ _ _ us hl => match us, hl with | [_, _], _ => rfl
theorem bd_m_Plan_has_end : BdOk "has_end" "Plan.has_end" s_Plan_has_end ["self", "end"] := fun _ _ _ _ _ _ us hl => match us, hl with | [_, _], _ => rfl
theorem bd_m_Plan_is_taken : BdOk "is_taken" "Plan.is_taken" s_Plan_is_taken ["self", "end"] := fun _ _ _ _ _ _ us hl => match us, hl with | [_, _], _ => rfl
theorem bd_m_Plan_border_ends : BdOk "border_ends" "Plan.border_ends" s_Plan_border_ends ["self"] := fun _ _ _ _ _ _ us hl => match us, hl with | [_], _ => rfl
theorem bd_m_Plan_signal_ends : BdOk "signal_ends" "Plan.signal_ends" s_Plan_signal_ends ["self"] := fun _ _ _ _ _ _ us hl => match us, hl with | [_], _ => rfl
theorem bd_m_Plan_join_ends : BdOk "join_ends" "Plan.join_ends" s_Plan_join_ends ["self"] := fun _ _ _ _ _ _ us hl => match us, hl with | [_], _ => rfl
theorem bd_m_Box_hold : BdOk "hold" "Box.hold" s_Box_hold ["self", "plan"] := fun _ _ _ _ _ _ us hl => match us, hl with | [_, _], _ => rfl
theorem bd_m_Box_all_routes : BdOk "all_routes" "Box.all_routes" s_Box_all_routes ["self"] := fun _ _ _ _ _ _ us hl => match us, hl with | [_], _ => rfl
theorem bd_m_Box_has_routes : BdOk "has_routes" "Box.has_routes" s_Box_has_routes ["self", "numbers"] := fun _ _ _ _ _ _ us hl => match us, hl with | [_, _], _ => rfl
theorem bd_mk_Plan : BdOk "__init__" "Plan.__init__" s_Plan___init__ ["self"] := fun _ _ _ _ _ _ us hl => match us, hl with | [_], _ => rfl
theorem bd_mk_Box : BdOk "__init__" "Box.__init__" s_Box___init__ ["self"] := fun _ _ _ _ _ _ us hl => match us, hl with | [_], _ => rfl
theorem thr_mk {K : PySem.W.Frag} {a a0 a1 a2 b00 b01 b10 b11 b12 b20 b21 b22 b23 : Addr} {da : Option Addr} {na : Nat} {sla : Array (Option Value)} {da0 : Option Addr} {na0 : Nat} {sla0 : Array (Option Value)} {da1 : Option Addr} {na1 : Nat} {sla1 : Array (Option Value)} {da2 : Option Addr} {na2 : Nat} {sla2 : Array (Option Value)} {db00 : Option Addr} {nb00 : Nat} {slb00 : Array (Option Value)} {tb000 : Nat} {db01 : Option Addr} {nb01 : Nat} {slb01 : Array (Option Value)} {tb010 : Nat} {db10 : Option Addr} {nb10 : Nat} {slb10 : Array (Option Value)} {tb100 tb101 : Nat} {db11 : Option Addr} {nb11 : Nat} {slb11 : Array (Option Value)} {tb110 : Nat} {db12 : Option Addr} {nb12 : Nat} {slb12 : Array (Option Value)} {tb120 : Nat} {db20 : Option Addr} {nb20 : Nat} {slb20 : Array (Option Value)} {tb200 : Nat} {db21 : Option Addr} {nb21 : Nat} {slb21 : Array (Option Value)} {tb210 : Nat} {db22 : Option Addr} {nb22 : Nat} {slb22 : Array (Option Value)} {tb220 : Nat} {db23 : Option Addr} {nb23 : Nat} {slb23 : Array (Option Value)} {tb230 : Nat}
    (la : K.lookup a = some (tO da na sla [.ref a0, .ref a1, .ref a2])) (la0 : K.lookup a0 = some (tO da0 na0 sla0 [.ref b00, .ref b01])) (la1 : K.lookup a1 = some (tO da1 na1 sla1 [.ref b10, .ref b11, .ref b12])) (la2 : K.lookup a2 = some (tO da2 na2 sla2 [.ref b20, .ref b21, .ref b22, .ref b23])) (lb00 : K.lookup b00 = some (tO db00 nb00 slb00 [.int 1 tb000])) (lb01 : K.lookup b01 = some (tO db01 nb01 slb01 [.int 0 tb010])) (lb10 : K.lookup b10 = some (tO db10 nb10 slb10 [.int 1 tb100, .int 2 tb101])) (lb11 : K.lookup b11 = some (tO db11 nb11 slb11 [.int 0 tb110])) (lb12 : K.lookup b12 = some (tO db12 nb12 slb12 [.int 0 tb120])) (lb20 : K.lookup b20 = some (tO db20 nb20 slb20 [.int 1 tb200])) (lb21 : K.lookup b21 = some (tO db21 nb21 slb21 [.int 0 tb210])) (lb22 : K.lookup b22 = some (tO db22 nb22 slb22 [.int 3 tb220])) (lb23 : K.lookup b23 = some (tO db23 nb23 slb23 [.int 2 tb230])) : ThR K a :=
  ⟨a0, a1, a2, b00, b01, b10, b11, b12, b20, b21, b22, b23, mt_mk la rfl (.cons rfl (.cons rfl (.cons rfl .nil))), mt_mk la0 rfl (.cons rfl (.cons rfl .nil)), mt_mk la1 rfl (.cons rfl (.cons rfl (.cons rfl .nil))), mt_mk la2 rfl (.cons rfl (.cons rfl (.cons rfl (.cons rfl .nil)))), mt_mk lb00 rfl (.cons ⟨_, rfl⟩ .nil), mt_mk lb01 rfl (.cons ⟨_, rfl⟩ .nil), mt_mk lb10 rfl (.cons ⟨_, rfl⟩ (.cons ⟨_, rfl⟩ .nil)), mt_mk lb11 rfl (.cons ⟨_, rfl⟩ .nil), mt_mk lb12 rfl (.cons ⟨_, rfl⟩ .nil), mt_mk lb20 rfl (.cons ⟨_, rfl⟩ .nil), mt_mk lb21 rfl (.cons ⟨_, rfl⟩ .nil), mt_mk lb22 rfl (.cons ⟨_, rfl⟩ .nil), mt_mk lb23 rfl (.cons ⟨_, rfl⟩ .nil)⟩
theorem car_mk {K : PySem.W.Frag} {h : Heap} {mg : Str → Option Value} {a r0 r1 r2 r3 r4 r5 r6 r7 r8 r9 r10 r11 f0 f1 f2 f3 f4 f5 f6 f7 f8 f9 f10 f11 : Addr} {da : Option Addr} {na : Nat} {sla : Array (Option Value)} {dr0 : Option Addr} {nr0 : Nat} {slr0 : Array (Option Value)} {dr1 : Option Addr} {nr1 : Nat} {slr1 : Array (Option Value)} {tk1 : Nat} {dr2 : Option Addr} {nr2 : Nat} {slr2 : Array (Option Value)} {tk2 : Nat} {dr3 : Option Addr} {nr3 : Nat} {slr3 : Array (Option Value)} {tk3 : Nat} {dr4 : Option Addr} {nr4 : Nat} {slr4 : Array (Option Value)} {tk4 : Nat} {dr5 : Option Addr} {nr5 : Nat} {slr5 : Array (Option Value)} {tk5 : Nat} {dr6 : Option Addr} {nr6 : Nat} {slr6 : Array (Option Value)} {tk6 : Nat} {dr7 : Option Addr} {nr7 : Nat} {slr7 : Array (Option Value)} {tk7 : Nat} {dr8 : Option Addr} {nr8 : Nat} {slr8 : Array (Option Value)} {tk8 : Nat} {dr9 : Option Addr} {nr9 : Nat} {slr9 : Array (Option Value)} {tk9 : Nat} {dr10 : Option Addr} {nr10 : Nat} {slr10 : Array (Option Value)} {dr11 : Option Addr} {nr11 : Nat} {slr11 : Array (Option Value)}
    (X : K.In h) (G : h.Ns mainGlobals mg) (la : K.lookup a = some (tO da na sla [.ref r0, .ref r1, .ref r2, .ref r3, .ref r4, .ref r5, .ref r6, .ref r7, .ref r8, .ref r9, .ref r10, .ref r11])) (a0 : PySem.W.nsIn K mainGlobals "answer_read" = some (some (.ref f0))) (lr0 : K.lookup r0 = some (tO dr0 nr0 slr0 [.ref f0, .none, .bool false])) (a1 : PySem.W.nsIn K mainGlobals "answer_print" = some (some (.ref f1))) (lr1 : K.lookup r1 = some (tO dr1 nr1 slr1 [.ref f1, .int 0 tk1, .bool false])) (a2 : PySem.W.nsIn K mainGlobals "answer_section" = some (some (.ref f2))) (lr2 : K.lookup r2 = some (tO dr2 nr2 slr2 [.ref f2, .int 1 tk2, .bool false])) (a3 : PySem.W.nsIn K mainGlobals "answer_end" = some (some (.ref f3))) (lr3 : K.lookup r3 = some (tO dr3 nr3 slr3 [.ref f3, .int 2 tk3, .bool false])) (a4 : PySem.W.nsIn K mainGlobals "answer_counts" = some (some (.ref f4))) (lr4 : K.lookup r4 = some (tO dr4 nr4 slr4 [.ref f4, .int 0 tk4, .bool false])) (a5 : PySem.W.nsIn K mainGlobals "answer_routes" = some (some (.ref f5))) (lr5 : K.lookup r5 = some (tO dr5 nr5 slr5 [.ref f5, .int 0 tk5, .bool true])) (a6 : PySem.W.nsIn K mainGlobals "answer_route" = some (some (.ref f6))) (lr6 : K.lookup r6 = some (tO dr6 nr6 slr6 [.ref f6, .int 1 tk6, .bool true])) (a7 : PySem.W.nsIn K mainGlobals "answer_points" = some (some (.ref f7))) (lr7 : K.lookup r7 = some (tO dr7 nr7 slr7 [.ref f7, .int 1 tk7, .bool true])) (a8 : PySem.W.nsIn K mainGlobals "answer_conflict" = some (some (.ref f8))) (lr8 : K.lookup r8 = some (tO dr8 nr8 slr8 [.ref f8, .int 2 tk8, .bool true])) (a9 : PySem.W.nsIn K mainGlobals "answer_from" = some (some (.ref f9))) (lr9 : K.lookup r9 = some (tO dr9 nr9 slr9 [.ref f9, .int 1 tk9, .bool true])) (a10 : PySem.W.nsIn K mainGlobals "answer_together" = some (some (.ref f10))) (lr10 : K.lookup r10 = some (tO dr10 nr10 slr10 [.ref f10, .none, .bool true])) (a11 : PySem.W.nsIn K mainGlobals "answer_most" = some (some (.ref f11))) (lr11 : K.lookup r11 = some (tO dr11 nr11 slr11 [.ref f11, .none, .bool true])) : CaR K mg a := by
  refine ⟨[r0, r1, r2, r3, r4, r5, r6, r7, r8, r9, r10, r11], [f0, f1, f2, f3, f4, f5, f6, f7, f8, f9, f10, f11], mt_mk la rfl (.cons rfl (.cons rfl (.cons rfl (.cons rfl (.cons rfl (.cons rfl (.cons rfl (.cons rfl (.cons rfl (.cons rfl (.cons rfl (.cons rfl .nil)))))))))))), rfl, rfl, fun i x z b e1 e2 e3 => ?_⟩
  match i, e1, e2, e3 with
  | 0, e1, e2, e3 => cases e1; cases e2; cases e3; exact ⟨r0, f0, rfl, PySem.W.mg_of X G a0, mt_mk lr0 rfl (.cons rfl (.cons rfl (.cons rfl .nil)))⟩
  | 1, e1, e2, e3 => cases e1; cases e2; cases e3; exact ⟨r1, f1, rfl, PySem.W.mg_of X G a1, mt_mk lr1 rfl (.cons rfl (.cons ⟨_, rfl⟩ (.cons rfl .nil)))⟩
  | 2, e1, e2, e3 => cases e1; cases e2; cases e3; exact ⟨r2, f2, rfl, PySem.W.mg_of X G a2, mt_mk lr2 rfl (.cons rfl (.cons ⟨_, rfl⟩ (.cons rfl .nil)))⟩
  | 3, e1, e2, e3 => cases e1; cases e2; cases e3; exact ⟨r3, f3, rfl, PySem.W.mg_of X G a3, mt_mk lr3 rfl (.cons rfl (.cons ⟨_, rfl⟩ (.cons rfl .nil)))⟩
  | 4, e1, e2, e3 => cases e1; cases e2; cases e3; exact ⟨r4, f4, rfl, PySem.W.mg_of X G a4, mt_mk lr4 rfl (.cons rfl (.cons ⟨_, rfl⟩ (.cons rfl .nil)))⟩
  | 5, e1, e2, e3 => cases e1; cases e2; cases e3; exact ⟨r5, f5, rfl, PySem.W.mg_of X G a5, mt_mk lr5 rfl (.cons rfl (.cons ⟨_, rfl⟩ (.cons rfl .nil)))⟩
  | 6, e1, e2, e3 => cases e1; cases e2; cases e3; exact ⟨r6, f6, rfl, PySem.W.mg_of X G a6, mt_mk lr6 rfl (.cons rfl (.cons ⟨_, rfl⟩ (.cons rfl .nil)))⟩
  | 7, e1, e2, e3 => cases e1; cases e2; cases e3; exact ⟨r7, f7, rfl, PySem.W.mg_of X G a7, mt_mk lr7 rfl (.cons rfl (.cons ⟨_, rfl⟩ (.cons rfl .nil)))⟩
  | 8, e1, e2, e3 => cases e1; cases e2; cases e3; exact ⟨r8, f8, rfl, PySem.W.mg_of X G a8, mt_mk lr8 rfl (.cons rfl (.cons ⟨_, rfl⟩ (.cons rfl .nil)))⟩
  | 9, e1, e2, e3 => cases e1; cases e2; cases e3; exact ⟨r9, f9, rfl, PySem.W.mg_of X G a9, mt_mk lr9 rfl (.cons rfl (.cons ⟨_, rfl⟩ (.cons rfl .nil)))⟩
  | 10, e1, e2, e3 => cases e1; cases e2; cases e3; exact ⟨r10, f10, rfl, PySem.W.mg_of X G a10, mt_mk lr10 rfl (.cons rfl (.cons rfl (.cons rfl .nil)))⟩
  | 11, e1, e2, e3 => cases e1; cases e2; cases e3; exact ⟨r11, f11, rfl, PySem.W.mg_of X G a11, mt_mk lr11 rfl (.cons rfl (.cons rfl (.cons rfl .nil)))⟩
  | i + 12, e1, e2, e3 => exact absurd e1 (by simp [callNames])
theorem fin_mk {P : Program} {w : World} {K : PySem.W.Frag} {mg : Str → Option Value} {CP CB fa : Addr} (T : Txt K mg CP CB) (hfa : mg "answers" = some (.ref fa)) :
    ∃ fd : FuncData, (∀ (s : Shared) (us : List Value), us.length = (["calls"] : List Str).length → BindsTo s fd ⟨us, []⟩ ((["calls"] : List Str).zip us)) ∧ ∀ base : Heap, K.In base → base.Ns mainGlobals mg → FnOk P w K mg base CX0 20 fa fd ["calls"] (spAnswers K) := by
  obtain ⟨f, fd, F, hm, hb⟩ := T.f_answers.ex
  have e := hfa.symm.trans hm
  cases e
  refine ⟨fd, fun s us hu => ?_, fun base _ _ => ok_answers F T⟩
  obtain ⟨oc, od, kV, doc, pm, an, cdv, ct, osl, rfl, lk, hcd⟩ := F.ex
  exact .of_eq (bd_f_answers kV doc pm an cdv ct us hu)
end YP
namespace YP
open PySem PySem.Spec PyProof.Rows L2
theorem inInt_nat {x : Int} (h : PySem.W.Codec.inInt 0 4294967295 x = true) : 0 ≤ x := by
  unfold PySem.W.Codec.inInt at h
  simp only [Bool.and_eq_true, decide_eq_true_eq] at h
  exact h.1
theorem up_nats {l : List Int} (h : ∀ x ∈ l, 0 ≤ x) : up (l.map Int.toNat) = l := by
  unfold up
  rw [List.map_map]
  conv => rhs; rw [← List.map_id l]
  apply List.map_congr_left
  intro x hx
  exact Int.toNat_of_nonneg (h x hx)
theorem req_mk {K : PySem.W.Frag} {H : Hp} {ca : Addr} {l : List Int} {Q : VK} {E : XK} (hlen : l.length ≤ 30000) (hnn : ∀ x ∈ l, 0 ≤ x) (hask : PyWqatdn.answers_asked l = true) (hs : SqL K H ca (l.map V.int))
    (k : ∀ (H' : Hp) (q : Addr), H' q = some (.lst ((PyWqatdn.answers l).map V.int)) → Q (.ref q) H') : spAnswers K [.ref ca] H Q E := by
  have e0 := up_nats hnn
  have eV : nV (l.map Int.toNat) = l.map V.int := by
    conv => rhs; rw [← e0]
    unfold nV up
    rw [List.map_map (g := V.int)]
    rfl
  unfold PyWqatdn.answers_asked at hask
  have ec : PyWqatdn.calls l = (match PyFlat.calls PyWqatdn.shape l.length l with
    | none => none
    | some cs => some (cs.map PyWqatdn.whole)) := rfl
  have ea : PyWqatdn.answers l = (match PyWqatdn.calls l with
    | none => []
    | some cs => PyFlat.told (PyFlat.played WqatdnNeutral.step WqatdnNeutral.start cs)) := rfl
  cases hc : PyFlat.calls PyWqatdn.shape l.length l with
  | none =>
    rw [hc] at ec
    rw [ec] at hask
    cases hask
  | some cs =>
    have em : cs.map PyWqatdn.whole = cs := List.map_id'' whole_id cs
    rw [hc] at ec
    simp only [em] at ec
    rw [ec] at hask ea
    have hask : (PyFlat.atMost 400 cs && WqatdnNeutral.asked cs) = true := hask
    rw [Bool.and_eq_true] at hask
    have h4 : cs.length ≤ 400 := of_decide_eq_true hask.1
    have h5 := hask.2
    unfold WqatdnNeutral.asked at h5
    simp only [Bool.and_eq_true] at h5
    refine ⟨ca, l.map Int.toNat, l.length, cs, rfl, by rw [eV]; exact hs, by rw [List.length_map]; exact hlen, by rw [e0]; exact hc, h4, List.all_eq_true.mp h5.1.1.1, fun H' q hq => k H' q ?_⟩
    rw [ea]
    exact hq
end YP
namespace PySem.W.Fast
def tw8756978023159582752 := ()
def tw6059777488187121760 := ()
def tw1008335489677030592 := ()
def tw16371990623821561024 := ()
def tw16921209780036600032 := ()
def tw11793644840427806048 := ()
def tw14027573843185402272 := ()
def tw790905849445040544 := ()
def tw1819810789302307264 := ()
def tw9206034717807832576 := ()
def tw10098342710288907840 := ()
def tw18432626055515142752 := ()
def tw14878998686626125440 := ()
def tw10158117033158602368 := ()
def tw17192236857270377280 := ()
def tw13721248207497557920 := ()
def tw16773286135067312032 := ()
def tw3843678130691277760 := ()
def tw5175943564558770177 := ()
def tw1117526883021602849 := ()
def tw18411363000075669633 := ()
def tw12111788555175750785 := ()
def tw4322448157847406881 := ()
def tw12965049483932433697 := ()
def tw789217765559387521 := ()
def tw12721079137121076641 := ()
def tw8976622146058789313 := ()
def tw12689080037686777313 := ()
def tw5007490576951866945 := ()
def tw2288338745234157185 := ()
def tw4983253506348976833 := ()
def tw5263821608752342785 := ()
def tw7177084249930347393 := ()
def tw13565139240144388993 := ()
def tw12411553060958365601 := ()
def tw8266085119864884161 := ()
def tw7164846079486811426 := ()
def tw17550206156599682370 := ()
def tw8605137820993007938 := ()
def tw10907080736289685858 := ()
def tw13165111768215899554 := ()
def tw5464709369705932290 := ()
def tw6935152925229716098 := ()
def tw1395596992391280354 := ()
def tw8105886278076870947 := ()
def tw17956559081772743011 := ()
def tw8611424304113912291 := ()
def tw7744883271963949539 := ()
def tw14702518760412504579 := ()
def tw14111661131029495363 := ()
def tw6357025863285238339 := ()
def tw11803670828780615299 := ()
def tw8588247382697816803 := ()
def tw8160322890755074851 := ()
def tw5365710353916967843 := ()
def tw12156962837942035395 := ()
def tw12166011717841709156 := ()
def tw7374697102916215044 := ()
def tw3055337167807917444 := ()
def tw3238413848674077124 := ()
def tw7477035949237338692 := ()
def tw8861037897379443300 := ()
def tw3175940074451741316 := ()
def tw30383952402468580 := ()
def tw16272167054079982372 := ()
def tw4856196305396897668 := ()
def tw9514329299334135716 := ()
def tw7754424621743899620 := ()
def tw16746763094235097125 := ()
def tw7512369517825237093 := ()
def tw9039313186826709125 := ()
def tw4004747801718953221 := ()
def tw7671036741622534469 := ()
def tw595051232806940997 := ()
def tw7901631665386264037 := ()
def tw7126967473785301477 := ()
def tw3596349288150396517 := ()
def tw12922211588947394181 := ()
def tw1783182750137184901 := ()
def tw17088854544027893413 := ()
def tw3115509261359887045 := ()
def tw13318794720801324773 := ()
def tw3521308455785713477 := ()
def tw2151007469490316197 := ()
def tw4296272057497268165 := ()
def tw5067396205490772006 := ()
def tw1470917343739689030 := ()
def tw2326420502182801510 := ()
def tw3278036296054703270 := ()
def tw11631527106124936358 := ()
def tw7409499690836973766 := ()
def tw541207259483973862 := ()
def tw8891801663604061414 := ()
def tw1262136269940607270 := ()
def tw6494035058463026534 := ()
def tw9616917574812819846 := ()
def tw6824684838649146790 := ()
def tw9979364241816445382 := ()
def tw11258280878596582950 := ()
def tw7445576517887896230 := ()
def tw16260032684699670246 := ()
def tw4275526915773817638 := ()
def tw10742439918975446854 := ()
def tw14092237546978584422 := ()
def tw6047702451261319078 := ()
def tw7751867329888422886 := ()
def tw9487281677146785766 := ()
def tw1445151507060502823 := ()
def tw10517834227136488775 := ()
def tw11394624978235072871 := ()
def tw15750358448862723495 := ()
def tw14647817866766199303 := ()
def tw16946959031704146439 := ()
def tw9368216849195023943 := ()
def tw5722731617304260167 := ()
def tw17001825975009856167 := ()
def tw17185216407742382855 := ()
def tw689949498497930023 := ()
def tw6366877000126094279 := ()
def tw1886126660010359783 := ()
def tw11305726575446904840 := ()
def tw8585416800062566472 := ()
def tw9280363354736499848 := ()
def tw16964019030517545128 := ()
def tw15535314262965030216 := ()
def tw17956261724070324584 := ()
def tw10053658457685925288 := ()
def tw16458791057231961608 := ()
def tw4109570024675888712 := ()
def tw9505769643045737064 := ()
def tw4079204375300943528 := ()
def tw13223522261478424232 := ()
def tw17240047165227634440 := ()
def tw16956003564390268680 := ()
def tw15666061011515260840 := ()
def tw2571282928789182440 := ()
def tw16337319935401534473 := ()
def tw16009325274451226665 := ()
def tw9313033613449014473 := ()
def tw4490787800095898921 := ()
def tw2254988457402212681 := ()
def tw6720174087752443337 := ()
def tw5154412570771882441 := ()
def tw13359874424997561929 := ()
def tw12153644613071809257 := ()
def tw17004441243058982729 := ()
def tw179946956693292873 := ()
def tw11211116448679834473 := ()
def tw8025698511252776809 := ()
def tw89160957526309769 := ()
def tw11261212175791602601 := ()
def tw15920191600941536201 := ()
def tw10787566209866697673 := ()
def tw17971612994094643242 := ()
def tw4966584822050116682 := ()
def tw9770381086816591978 := ()
def tw9823611988576953514 := ()
def tw13057108965227893930 := ()
def tw18197440330502769866 := ()
def tw9915378673699408074 := ()
def tw4207947149892662538 := ()
def tw430289783195152650 := ()
def tw5514421169880683818 := ()
def tw13353980005383827882 := ()
def tw12184644283145156170 := ()
def tw2234548179208663658 := ()
def tw17578553437374050954 := ()
def tw13506641442841025226 := ()
def tw4400118625302081418 := ()
def tw2319370121534062570 := ()
def tw16295945101675206731 := ()
def tw5459964052891356267 := ()
def tw13678392987881147563 := ()
def tw14179489543701253323 := ()
def tw3269166672088286443 := ()
def tw1163001249109457163 := ()
def tw8824719014262259979 := ()
def tw9693615549798203691 := ()
def tw8950811299101331787 := ()
def tw11989612075253099851 := ()
def tw15520252998685527435 := ()
def tw16687880953022244267 := ()
def tw18139659529584962987 := ()
def tw17563665051227988619 := ()
def tw12586819587905769131 := ()
def tw10011458098497415883 := ()
def tw7658649627324580587 := ()
def tw225164052799108875 := ()
def tw7531235912677921579 := ()
def tw3730787078019194763 := ()
def tw12196046983360691179 := ()
def tw10778160946246335692 := ()
def tw14692779552193199436 := ()
def tw17544932753799233868 := ()
def tw16842504514545904972 := ()
def tw12484131445908605324 := ()
def tw13141522103301584268 := ()
def tw14111770999312580012 := ()
def tw4420068445692232140 := ()
def tw5354713862914007500 := ()
def tw16324648325091484140 := ()
def tw3319046804308914700 := ()
def tw12675720590408185580 := ()
def tw15622673510206513932 := ()
def tw3837162510056680300 := ()
def tw12142711495848234924 := ()
def tw5285006971207234476 := ()
def tw12803155481752677324 := ()
def tw15957467456135218124 := ()
def tw281775840674045900 := ()
def tw15359840784556583916 := ()
def tw17058594654037826605 := ()
def tw2086128168400904397 := ()
def tw2201541885495256429 := ()
def tw3283492925802141069 := ()
def tw11296713149047985613 := ()
def tw8374480229588092397 := ()
def tw16886563941646190093 := ()
def tw7035622812551292557 := ()
def tw11754122895197933229 := ()
def tw14297960258179705517 := ()
def tw3528316104420075213 := ()
def tw13653211144678472429 := ()
def tw9300898464447046413 := ()
def tw18242541458433425197 := ()
def tw5043399984652042061 := ()
def tw13103177026949475277 := ()
def tw12598720188577313773 := ()
def tw14696412187384202574 := ()
def tw7692274015136714318 := ()
def tw18320468273900484206 := ()
def tw15431396716240381582 := ()
def tw4623923186204212910 := ()
def tw11944654029039832814 := ()
def tw8654827088943369134 := ()
def tw493985760196705230 := ()
def tw6218429911983053967 := ()
def tw11155374876244774191 := ()
def tw14233704454571628847 := ()
def tw15769460486031715631 := ()
def tw11413926757693184303 := ()
def tw13220141043533786511 := ()
def tw17272510954659316143 := ()
def tw439322922633831919 := ()
def tw13147207056691214895 := ()
def tw18292926783558802991 := ()
def tw8586324419146926895 := ()
def tw16340319054125708175 := ()
def tw5765554520409700239 := ()
def tw10037440354996892591 := ()
def tw9266596558404845487 := ()
def tw6722241531166925840 := ()
def tw493606576349797392 := ()
def tw4373334403121102960 := ()
def tw6847476172605299920 := ()
def tw16726334315600821488 := ()
def tw10845076624620631408 := ()
def tw2044213730365152656 := ()
def tw12308456353206151568 := ()
def tw1162897465596958128 := ()
def tw3262765128046669392 := ()
def tw10527652750746164816 := ()
def tw4971970853194463920 := ()
def tw4203044130961273552 := ()
def tw17245933198504894384 := ()
def tw17685622526232199152 := ()
def tw7358499743396184145 := ()
def tw7275444163470979185 := ()
def tw887716065184225489 := ()
def tw13720326826426781969 := ()
def tw14090853761601026385 := ()
def tw17852376777256267217 := ()
def tw9450479120537156049 := ()
def tw11819394752194729489 := ()
def tw5499269892881082993 := ()
def tw9652545850987539089 := ()
def tw5621086449667563185 := ()
def tw2918746085604616913 := ()
def tw10545206782413025009 := ()
def tw12664167255847420721 := ()
def tw2895825625555356465 := ()
def tw3524324879315943249 := ()
def tw10516796266393946097 := ()
def tw12590242752187732082 := ()
def tw18279895962982513810 := ()
def tw7759302591051618514 := ()
def tw7950853205384902066 := ()
def tw6747181634799724082 := ()
def tw3354732990920274610 := ()
def tw15142185054943100626 := ()
def tw12154626407277514450 := ()
def tw2287356691209504498 := ()
def tw8187339012964233042 := ()
def tw12230673644554642290 := ()
def tw17448889313137236083 := ()
def tw2042240236887123091 := ()
def tw10291459024360808659 := ()
def tw5809766553232368947 := ()
def tw17278390668258477427 := ()
def tw13098542176401194387 := ()
def tw12336050832314206643 := ()
def tw2844287761767969267 := ()
def tw4332311873971465875 := ()
def tw8529202449380389555 := ()
def tw16336972188769819475 := ()
def tw5901289696347513811 := ()
def tw9175028634349228052 := ()
def tw17246689764495065108 := ()
def tw14614490973389193300 := ()
def tw3951462496922249300 := ()
def tw17259880625157314868 := ()
def tw13819027734142586228 := ()
def tw10845371098806228372 := ()
def tw12974671142419538388 := ()
def tw4453208192594235924 := ()
def tw13406837814748508980 := ()
def tw4854328136014651188 := ()
def tw22160820605088692 := ()
def tw13819172044811148405 := ()
def tw11348173377976652917 := ()
def tw2884363819790865557 := ()
def tw5521085704360665269 := ()
def tw15625010846948771029 := ()
def tw12476179698721615157 := ()
def tw18158377261215731061 := ()
def tw2464328152517516693 := ()
def tw12677915627358680501 := ()
def tw13445601266087696853 := ()
def tw3672665782386902677 := ()
def tw2833566538113976021 := ()
def tw3021544913829223317 := ()
def tw17616758919031496726 := ()
def tw557171900614259862 := ()
def tw1262155122764527862 := ()
def tw5438098848517394742 := ()
def tw18297321796154650966 := ()
def tw14975142024169824662 := ()
def tw16652475572982721974 := ()
def tw12082964429294309846 := ()
def tw11613197436229833270 := ()
def tw1848306537356070582 := ()
def tw1487436077299530454 := ()
def tw7255133980857415382 := ()
def tw13280401184149030646 := ()
def tw3254728230056406902 := ()
def tw16669588256600572822 := ()
def tw14302137939595137079 := ()
def tw13314808755090277527 := ()
def tw11503615043998039351 := ()
def tw6126837238505516439 := ()
def tw12320637874260745655 := ()
def tw17708111051019366999 := ()
def tw2830213876086653623 := ()
def tw17699882074130775064 := ()
def tw16155827776486499416 := ()
def tw13844461829099226200 := ()
def tw4882298910725807288 := ()
def tw8346928254896497848 := ()
def tw3524269949156138232 := ()
def tw6270943633991454968 := ()
def tw1270522393739768056 := ()
def tw7043552275949564184 := ()
def tw8524457512787805496 := ()
def tw14951944640077273400 := ()
def tw11427692150972160312 := ()
def tw6318314381758304600 := ()
def tw10326058496351056248 := ()
def tw1441767962730236344 := ()
def tw9261697991388419512 := ()
def tw14233891208973671864 := ()
def tw1150342201594116568 := ()
def tw5127128468689792472 := ()
def tw3432580935131808408 := ()
def tw17631269066958697144 := ()
def tw5803560474544571160 := ()
def tw15232578547606591256 := ()
def tw7142561517108566808 := ()
def tw9937646589470920504 := ()
def tw5448438459786525656 := ()
def tw14941030398331987993 := ()
def tw6720200729119942713 := ()
def tw15192416394062078105 := ()
def tw15126590608088471801 := ()
def tw204994112713499897 := ()
def tw8140596554608368953 := ()
def tw15907755678320361945 := ()
def tw6372316018600110585 := ()
def tw6812678005753798137 := ()
def tw14192297285915499033 := ()
def tw2079780795046058553 := ()
def tw3896246614069999225 := ()
def tw16117751437132251833 := ()
def tw11905262424956291801 := ()
def tw16245878758222464793 := ()
def tw3352607104802420505 := ()
def tw4987225734471105337 := ()
def tw4309347479379225465 := ()
def tw8509096868484647833 := ()
def tw7606669571484872858 := ()
def tw14999925243511393466 := ()
def tw17812700312958462522 := ()
def tw7842718189910778522 := ()
def tw4843958160658333402 := ()
def tw611794589602466554 := ()
def tw12155391896812159770 := ()
def tw17309658685554611994 := ()
def tw4518581760181555002 := ()
def tw9510947648202365754 := ()
def tw3665580947748645690 := ()
def tw3416485599036773338 := ()
def tw11390024580977055803 := ()
def tw12939132989610876059 := ()
def tw18324672366996977851 := ()
def tw1499083312237692411 := ()
def tw5542727358528196187 := ()
def tw12656757791948956347 := ()
def tw13675511920292610875 := ()
def tw2689925037871644507 := ()
def tw11449959588898953051 := ()
def tw15387195282693710683 := ()
def tw3902066831741501371 := ()
def tw3137571096079464540 := ()
def tw12197716111164766396 := ()
def tw15121440748112696668 := ()
def tw17554743462535909948 := ()
def tw10759132879620515452 := ()
def tw2315698750403609276 := ()
def tw1032485331571006140 := ()
def tw14131315627696158492 := ()
def tw17638433476994353980 := ()
def tw4455443138310694812 := ()
def tw13368010760347709372 := ()
def tw36214002767240221 := ()
def tw10118008770659459101 := ()
def tw14538802561210511389 := ()
def tw11533140398415085757 := ()
def tw13679238447367168285 := ()
def tw15464021397330963837 := ()
def tw8363777984569157117 := ()
def tw14809699343981146653 := ()
def tw10176279215927394845 := ()
def tw7918251029264746077 := ()
def tw14914728298798712445 := ()
def tw9407703964743713405 := ()
def tw13025075992046075645 := ()
def tw1633960937542869917 := ()
def tw15701242698326774717 := ()
def tw1972896300353895357 := ()
def tw1695205906026479581 := ()
def tw13405124442738297950 := ()
def tw5656424584339854526 := ()
def tw7293611677963064638 := ()
def tw14216118380690411870 := ()
def tw13794681349080343902 := ()
def tw5159222112979227134 := ()
def tw16576827660230424062 := ()
def tw6897405184710447742 := ()
def tw10741174960566806174 := ()
def tw5199715116086145726 := ()
def tw13886020824398690014 := ()
def tw17024630223235003198 := ()
def tw14557059261420036926 := ()
def tw13731398470523536222 := ()
def tw4622996804422496254 := ()
def tw1817508279313660959 := ()
def tw9532334397753948191 := ()
def tw11351739549565787327 := ()
def tw16886363902383299935 := ()
def tw13524987862130609567 := ()
def tw2554968983140753951 := ()
def tw11422500061304046143 := ()
def tw13919229335052998239 := ()
def tw17657519764366011135 := ()
def tw2331582204213944095 := ()
def tw9584435626608348991 := ()
def tw2599096420355694431 := ()
def tw11620132633270928223 := ()
def tw1751154574424486815 := ()
def tw7629531303879145407 := ()
def tw394970530201546751 := ()
def tw12491426414635631094 := ()
end PySem.W.Fast
open PySem PySem.W PyProof.Rows
set_option maxRecDepth 100000 in
set_option maxHeartbeats 0 in
theorem PySem.Challenge.cw_yardplans_s01_answers_holds : PySem.Challenge.rw_yardplans_s01_answers.Holds := by
  w_on; k_headS; (case hw => exact ⟨[.list [.int 1]], by decide +kernel, by decide +kernel⟩)
  k_fillS
  refine L2.walk_specK (r := PySem.Challenge.rw_yardplans_s01_answers) (k := 20) (CX := L2.CX0) (ps := ["calls"]) (sp := YP.spAnswers) (by decide +kernel) rfl rfl ⟨rfl, by decide, by decide⟩ (fun w h Y => PySem.W.kIn_of Y) ?F ?S (fun _ _ _ _ z => z)
  case F =>
    intro w mg fa h Y KX G hmg
    refine' YP.fin_mk (YP.Txt.mk ?cP ?cB ?nP_sections ?nP_numbers ?nP_joined ?nP_borders ?nP_signals ?nB_plan ?nB_found ?mk_Plan ?mk_Box ?m_Plan_add_section ?m_Plan_add_join ?m_Plan_add_border ?m_Plan_add_signal ?m_Plan_section_kind ?m_Plan_section_name ?m_Plan_has_end ?m_Plan_is_taken ?m_Plan_border_ends ?m_Plan_signal_ends ?m_Plan_join_ends ?f_sections_of ?f_needed_points ?f_shared_sections ?f_in_conflict ?f_taken_in_turn ?f_most_at_once ?f_codes ?f_parted ?f_is_capital ?f_is_digit ?f_is_name ?f_is_end ?f_line_of ?f_end_word ?f_print_plan ?f_are_ends ?f_find_end ?f_is_at_plain ?f_read_section ?f_read_join ?f_read_border ?f_read_signal ?f_read_line ?f_read_text ?f_may_stop ?f_ways_on ?f_routes_from ?f_find_routes ?m_Box_hold ?m_Box_all_routes ?m_Box_has_routes ?f_answer_read ?f_answer_print ?f_answer_section ?f_answer_end ?f_answer_counts ?f_answer_routes ?f_answer_route ?f_answer_points ?f_answer_conflict ?f_answer_from ?f_answer_together ?f_is_rising ?f_answer_most ?f_answer_call ?f_split_calls ?f_answers ?c_PLAIN ?c_POINT ?c_LINE_END ?c_BLANK ?c_DOT ?c_DIGIT_ZERO ?c_LONGEST_NAME ?c_MOST_SECTIONS ?c_MOST_SIGNALS ?c_NO_FAULT ?c_NO_SUCH_LINE ?c_NAME_IS_THERE ?c_NO_SUCH_END ?c_END_IS_TAKEN ?c_NOT_JOINED ?c_NOT_PLAIN ?c_TOO_MANY ?c_LONGEST_TEXT ?c_MOST_ROUTES ?c_LONGEST_MOST ?t_END_COUNTS ?t_SECTION_WORDS ?t_THROUGH ?t_CALLS ?b_len ?b_list ?b_tuple ?b_sorted ?b_ord ?b_max ?b_all ?b_any ?b_enumerate ?b_reversed ?b_zip) hmg
    case mk_Plan =>
      refine' YP.mkG_mk KX G YP.bd_mk_Plan ?aC ?mk ?kc ?a ?i ?l ?c ?k
      (case aC => k_is)
      (case mk => k_is)
      (case kc => k_is)
      (case a => k_is)
      (case i => k_is)
      (case l => k_is)
      (case c => k_is)
      (case k => k_is)
    case mk_Box =>
      refine' YP.mkG_mk KX G YP.bd_mk_Box ?aC ?mk ?kc ?a ?i ?l ?c ?k
      (case aC => k_is)
      (case mk => k_is)
      (case kc => k_is)
      (case a => k_is)
      (case i => k_is)
      (case l => k_is)
      (case c => k_is)
      (case k => k_is)
    case cP =>
      refine' L2.Cls.mk ?pg ?hd ?po ?sa
      (case pg => k_is); (case hd => k_is); (case po => k_is); (case sa => k_is)
    case cB =>
      refine' L2.Cls.mk ?pg ?hd ?po ?sa
      (case pg => k_is); (case hd => k_is); (case po => k_is); (case sa => k_is)
    case nP_sections =>
      show PySem.W.findIn _ _ _ = some none
      k_is
    case nP_numbers =>
      show PySem.W.findIn _ _ _ = some none
      k_is
    case nP_joined =>
      show PySem.W.findIn _ _ _ = some none
      k_is
    case nP_borders =>
      show PySem.W.findIn _ _ _ = some none
      k_is
    case nP_signals =>
      show PySem.W.findIn _ _ _ = some none
      k_is
    case nB_plan =>
      show PySem.W.findIn _ _ _ = some none
      k_is
    case nB_found =>
      show PySem.W.findIn _ _ _ = some none
      k_is
    case m_Plan_add_section =>
      refine' YP.mthG_mk YP.bd_m_Plan_add_section ?a ?i ?l ?c ?k
      (case a => k_is); (case i => k_is); (case l => k_is); (case c => k_is); (case k => k_is)
    case m_Plan_add_join =>
      refine' YP.mthG_mk YP.bd_m_Plan_add_join ?a ?i ?l ?c ?k
      (case a => k_is); (case i => k_is); (case l => k_is); (case c => k_is); (case k => k_is)
    case m_Plan_add_border =>
      refine' YP.mthG_mk YP.bd_m_Plan_add_border ?a ?i ?l ?c ?k
      (case a => k_is); (case i => k_is); (case l => k_is); (case c => k_is); (case k => k_is)
    case m_Plan_add_signal =>
      refine' YP.mthG_mk YP.bd_m_Plan_add_signal ?a ?i ?l ?c ?k
      (case a => k_is); (case i => k_is); (case l => k_is); (case c => k_is); (case k => k_is)
    case m_Plan_section_kind =>
      refine' YP.mthG_mk YP.bd_m_Plan_section_kind ?a ?i ?l ?c ?k
      (case a => k_is); (case i => k_is); (case l => k_is); (case c => k_is); (case k => k_is)
    case m_Plan_section_name =>
      refine' YP.mthG_mk YP.bd_m_Plan_section_name ?a ?i ?l ?c ?k
      (case a => k_is); (case i => k_is); (case l => k_is); (case c => k_is); (case k => k_is)
    case m_Plan_has_end =>
      refine' YP.mthG_mk YP.bd_m_Plan_has_end ?a ?i ?l ?c ?k
      (case a => k_is); (case i => k_is); (case l => k_is); (case c => k_is); (case k => k_is)
    case m_Plan_is_taken =>
      refine' YP.mthG_mk YP.bd_m_Plan_is_taken ?a ?i ?l ?c ?k
      (case a => k_is); (case i => k_is); (case l => k_is); (case c => k_is); (case k => k_is)
    case m_Plan_border_ends =>
      refine' YP.mthG_mk YP.bd_m_Plan_border_ends ?a ?i ?l ?c ?k
      (case a => k_is); (case i => k_is); (case l => k_is); (case c => k_is); (case k => k_is)
    case m_Plan_signal_ends =>
      refine' YP.mthG_mk YP.bd_m_Plan_signal_ends ?a ?i ?l ?c ?k
      (case a => k_is); (case i => k_is); (case l => k_is); (case c => k_is); (case k => k_is)
    case m_Plan_join_ends =>
      refine' YP.mthG_mk YP.bd_m_Plan_join_ends ?a ?i ?l ?c ?k
      (case a => k_is); (case i => k_is); (case l => k_is); (case c => k_is); (case k => k_is)
    case f_sections_of =>
      refine' YP.funG_mk KX G YP.bd_f_sections_of ?a ?l ?c ?k
      (case a => k_is); (case l => k_is); (case c => k_is); (case k => k_is)
    case f_needed_points =>
      refine' YP.funG_mk KX G YP.bd_f_needed_points ?a ?l ?c ?k
      (case a => k_is); (case l => k_is); (case c => k_is); (case k => k_is)
    case f_shared_sections =>
      refine' YP.funG_mk KX G YP.bd_f_shared_sections ?a ?l ?c ?k
      (case a => k_is); (case l => k_is); (case c => k_is); (case k => k_is)
    case f_in_conflict =>
      refine' YP.funG_mk KX G YP.bd_f_in_conflict ?a ?l ?c ?k
      (case a => k_is); (case l => k_is); (case c => k_is); (case k => k_is)
    case f_taken_in_turn =>
      refine' YP.funG_mk KX G YP.bd_f_taken_in_turn ?a ?l ?c ?k
      (case a => k_is); (case l => k_is); (case c => k_is); (case k => k_is)
    case f_most_at_once =>
      refine' YP.funG_mk KX G YP.bd_f_most_at_once ?a ?l ?c ?k
      (case a => k_is); (case l => k_is); (case c => k_is); (case k => k_is)
    case f_codes =>
      refine' YP.funG_mk KX G YP.bd_f_codes ?a ?l ?c ?k
      (case a => k_is); (case l => k_is); (case c => k_is); (case k => k_is)
    case f_parted =>
      refine' YP.funG_mk KX G YP.bd_f_parted ?a ?l ?c ?k
      (case a => k_is); (case l => k_is); (case c => k_is); (case k => k_is)
    case f_is_capital =>
      refine' YP.funG_mk KX G YP.bd_f_is_capital ?a ?l ?c ?k
      (case a => k_is); (case l => k_is); (case c => k_is); (case k => k_is)
    case f_is_digit =>
      refine' YP.funG_mk KX G YP.bd_f_is_digit ?a ?l ?c ?k
      (case a => k_is); (case l => k_is); (case c => k_is); (case k => k_is)
    case f_is_name =>
      refine' YP.funG_mk KX G YP.bd_f_is_name ?a ?l ?c ?k
      (case a => k_is); (case l => k_is); (case c => k_is); (case k => k_is)
    case f_is_end =>
      refine' YP.funG_mk KX G YP.bd_f_is_end ?a ?l ?c ?k
      (case a => k_is); (case l => k_is); (case c => k_is); (case k => k_is)
    case f_line_of =>
      refine' YP.funG_mk KX G YP.bd_f_line_of ?a ?l ?c ?k
      (case a => k_is); (case l => k_is); (case c => k_is); (case k => k_is)
    case f_end_word =>
      refine' YP.funG_mk KX G YP.bd_f_end_word ?a ?l ?c ?k
      (case a => k_is); (case l => k_is); (case c => k_is); (case k => k_is)
    case f_print_plan =>
      refine' YP.funG_mk KX G YP.bd_f_print_plan ?a ?l ?c ?k
      (case a => k_is); (case l => k_is); (case c => k_is); (case k => k_is)
    case f_are_ends =>
      refine' YP.funG_mk KX G YP.bd_f_are_ends ?a ?l ?c ?k
      (case a => k_is); (case l => k_is); (case c => k_is); (case k => k_is)
    case f_find_end =>
      refine' YP.funG_mk KX G YP.bd_f_find_end ?a ?l ?c ?k
      (case a => k_is); (case l => k_is); (case c => k_is); (case k => k_is)
    case f_is_at_plain =>
      refine' YP.funG_mk KX G YP.bd_f_is_at_plain ?a ?l ?c ?k
      (case a => k_is); (case l => k_is); (case c => k_is); (case k => k_is)
    case f_read_section =>
      refine' YP.funG_mk KX G YP.bd_f_read_section ?a ?l ?c ?k
      (case a => k_is); (case l => k_is); (case c => k_is); (case k => k_is)
    case f_read_join =>
      refine' YP.funG_mk KX G YP.bd_f_read_join ?a ?l ?c ?k
      (case a => k_is); (case l => k_is); (case c => k_is); (case k => k_is)
    case f_read_border =>
      refine' YP.funG_mk KX G YP.bd_f_read_border ?a ?l ?c ?k
      (case a => k_is); (case l => k_is); (case c => k_is); (case k => k_is)
    case f_read_signal =>
      refine' YP.funG_mk KX G YP.bd_f_read_signal ?a ?l ?c ?k
      (case a => k_is); (case l => k_is); (case c => k_is); (case k => k_is)
    case f_read_line =>
      refine' YP.funG_mk KX G YP.bd_f_read_line ?a ?l ?c ?k
      (case a => k_is); (case l => k_is); (case c => k_is); (case k => k_is)
    case f_read_text =>
      refine' YP.funG_mk KX G YP.bd_f_read_text ?a ?l ?c ?k
      (case a => k_is); (case l => k_is); (case c => k_is); (case k => k_is)
    case f_may_stop =>
      refine' YP.funG_mk KX G YP.bd_f_may_stop ?a ?l ?c ?k
      (case a => k_is); (case l => k_is); (case c => k_is); (case k => k_is)
    case f_ways_on =>
      refine' YP.funG_mk KX G YP.bd_f_ways_on ?a ?l ?c ?k
      (case a => k_is); (case l => k_is); (case c => k_is); (case k => k_is)
    case f_routes_from =>
      refine' YP.funG_mk KX G YP.bd_f_routes_from ?a ?l ?c ?k
      (case a => k_is); (case l => k_is); (case c => k_is); (case k => k_is)
    case f_find_routes =>
      refine' YP.funG_mk KX G YP.bd_f_find_routes ?a ?l ?c ?k
      (case a => k_is); (case l => k_is); (case c => k_is); (case k => k_is)
    case m_Box_hold =>
      refine' YP.mthG_mk YP.bd_m_Box_hold ?a ?i ?l ?c ?k
      (case a => k_is); (case i => k_is); (case l => k_is); (case c => k_is); (case k => k_is)
    case m_Box_all_routes =>
      refine' YP.mthG_mk YP.bd_m_Box_all_routes ?a ?i ?l ?c ?k
      (case a => k_is); (case i => k_is); (case l => k_is); (case c => k_is); (case k => k_is)
    case m_Box_has_routes =>
      refine' YP.mthG_mk YP.bd_m_Box_has_routes ?a ?i ?l ?c ?k
      (case a => k_is); (case i => k_is); (case l => k_is); (case c => k_is); (case k => k_is)
    case f_answer_read =>
      refine' YP.funG_mk KX G YP.bd_f_answer_read ?a ?l ?c ?k
      (case a => k_is); (case l => k_is); (case c => k_is); (case k => k_is)
    case f_answer_print =>
      refine' YP.funG_mk KX G YP.bd_f_answer_print ?a ?l ?c ?k
      (case a => k_is); (case l => k_is); (case c => k_is); (case k => k_is)
    case f_answer_section =>
      refine' YP.funG_mk KX G YP.bd_f_answer_section ?a ?l ?c ?k
      (case a => k_is); (case l => k_is); (case c => k_is); (case k => k_is)
    case f_answer_end =>
      refine' YP.funG_mk KX G YP.bd_f_answer_end ?a ?l ?c ?k
      (case a => k_is); (case l => k_is); (case c => k_is); (case k => k_is)
    case f_answer_counts =>
      refine' YP.funG_mk KX G YP.bd_f_answer_counts ?a ?l ?c ?k
      (case a => k_is); (case l => k_is); (case c => k_is); (case k => k_is)
    case f_answer_routes =>
      refine' YP.funG_mk KX G YP.bd_f_answer_routes ?a ?l ?c ?k
      (case a => k_is); (case l => k_is); (case c => k_is); (case k => k_is)
    case f_answer_route =>
      refine' YP.funG_mk KX G YP.bd_f_answer_route ?a ?l ?c ?k
      (case a => k_is); (case l => k_is); (case c => k_is); (case k => k_is)
    case f_answer_points =>
      refine' YP.funG_mk KX G YP.bd_f_answer_points ?a ?l ?c ?k
      (case a => k_is); (case l => k_is); (case c => k_is); (case k => k_is)
    case f_answer_conflict =>
      refine' YP.funG_mk KX G YP.bd_f_answer_conflict ?a ?l ?c ?k
      (case a => k_is); (case l => k_is); (case c => k_is); (case k => k_is)
    case f_answer_from =>
      refine' YP.funG_mk KX G YP.bd_f_answer_from ?a ?l ?c ?k
      (case a => k_is); (case l => k_is); (case c => k_is); (case k => k_is)
    case f_answer_together =>
      refine' YP.funG_mk KX G YP.bd_f_answer_together ?a ?l ?c ?k
      (case a => k_is); (case l => k_is); (case c => k_is); (case k => k_is)
    case f_is_rising =>
      refine' YP.funG_mk KX G YP.bd_f_is_rising ?a ?l ?c ?k
      (case a => k_is); (case l => k_is); (case c => k_is); (case k => k_is)
    case f_answer_most =>
      refine' YP.funG_mk KX G YP.bd_f_answer_most ?a ?l ?c ?k
      (case a => k_is); (case l => k_is); (case c => k_is); (case k => k_is)
    case f_answer_call =>
      refine' YP.funG_mk KX G YP.bd_f_answer_call ?a ?l ?c ?k
      (case a => k_is); (case l => k_is); (case c => k_is); (case k => k_is)
    case f_split_calls =>
      refine' YP.funG_mk KX G YP.bd_f_split_calls ?a ?l ?c ?k
      (case a => k_is); (case l => k_is); (case c => k_is); (case k => k_is)
    case f_answers =>
      refine' YP.funG_mk KX G YP.bd_f_answers ?a ?l ?c ?k
      (case a => k_is); (case l => k_is); (case c => k_is); (case k => k_is)
    case c_PLAIN =>
      refine' YP.gi_mk KX G ?a
      (case a => k_is)
    case c_POINT =>
      refine' YP.gi_mk KX G ?a
      (case a => k_is)
    case c_LINE_END =>
      refine' YP.gi_mk KX G ?a
      (case a => k_is)
    case c_BLANK =>
      refine' YP.gi_mk KX G ?a
      (case a => k_is)
    case c_DOT =>
      refine' YP.gi_mk KX G ?a
      (case a => k_is)
    case c_DIGIT_ZERO =>
      refine' YP.gi_mk KX G ?a
      (case a => k_is)
    case c_LONGEST_NAME =>
      refine' YP.gi_mk KX G ?a
      (case a => k_is)
    case c_MOST_SECTIONS =>
      refine' YP.gi_mk KX G ?a
      (case a => k_is)
    case c_MOST_SIGNALS =>
      refine' YP.gi_mk KX G ?a
      (case a => k_is)
    case c_NO_FAULT =>
      refine' YP.gi_mk KX G ?a
      (case a => k_is)
    case c_NO_SUCH_LINE =>
      refine' YP.gi_mk KX G ?a
      (case a => k_is)
    case c_NAME_IS_THERE =>
      refine' YP.gi_mk KX G ?a
      (case a => k_is)
    case c_NO_SUCH_END =>
      refine' YP.gi_mk KX G ?a
      (case a => k_is)
    case c_END_IS_TAKEN =>
      refine' YP.gi_mk KX G ?a
      (case a => k_is)
    case c_NOT_JOINED =>
      refine' YP.gi_mk KX G ?a
      (case a => k_is)
    case c_NOT_PLAIN =>
      refine' YP.gi_mk KX G ?a
      (case a => k_is)
    case c_TOO_MANY =>
      refine' YP.gi_mk KX G ?a
      (case a => k_is)
    case c_LONGEST_TEXT =>
      refine' YP.gi_mk KX G ?a
      (case a => k_is)
    case c_MOST_ROUTES =>
      refine' YP.gi_mk KX G ?a
      (case a => k_is)
    case c_LONGEST_MOST =>
      refine' YP.gi_mk KX G ?a
      (case a => k_is)
    case t_END_COUNTS =>
      refine' YP.gt_mk KX G ?a (YP.mt_ends ?l)
      (case a => k_is); (case l => k_is)
    case t_SECTION_WORDS =>
      refine' YP.gt_mk KX G ?a (YP.mt_words ?l)
      (case a => k_is); (case l => k_is)
    case t_THROUGH =>
      refine' YP.gt_mk KX G ?a (YP.thr_mk ?la ?la0 ?la1 ?la2 ?lb00 ?lb01 ?lb10 ?lb11 ?lb12 ?lb20 ?lb21 ?lb22 ?lb23)
      (case a => k_is)
      (case la => k_is)
      (case la0 => k_is)
      (case la1 => k_is)
      (case la2 => k_is)
      (case lb00 => k_is)
      (case lb01 => k_is)
      (case lb10 => k_is)
      (case lb11 => k_is)
      (case lb12 => k_is)
      (case lb20 => k_is)
      (case lb21 => k_is)
      (case lb22 => k_is)
      (case lb23 => k_is)
    case t_CALLS =>
      refine' YP.gt_mk KX G ?a (YP.car_mk KX G ?la ?a0 ?lr0 ?a1 ?lr1 ?a2 ?lr2 ?a3 ?lr3 ?a4 ?lr4 ?a5 ?lr5 ?a6 ?lr6 ?a7 ?lr7 ?a8 ?lr8 ?a9 ?lr9 ?a10 ?lr10 ?a11 ?lr11)
      (case a => k_is)
      (case la => k_is)
      (case a0 => k_is)
      (case lr0 => k_is)
      (case a1 => k_is)
      (case lr1 => k_is)
      (case a2 => k_is)
      (case lr2 => k_is)
      (case a3 => k_is)
      (case lr3 => k_is)
      (case a4 => k_is)
      (case lr4 => k_is)
      (case a5 => k_is)
      (case lr5 => k_is)
      (case a6 => k_is)
      (case lr6 => k_is)
      (case a7 => k_is)
      (case lr7 => k_is)
      (case a8 => k_is)
      (case lr8 => k_is)
      (case a9 => k_is)
      (case lr9 => k_is)
      (case a10 => k_is)
      (case lr10 => k_is)
      (case a11 => k_is)
      (case lr11 => k_is)
    case b_len =>
      refine' PySem.W.mg_none_of KX G ?a
      (case a => k_is)
    case b_list =>
      refine' PySem.W.mg_none_of KX G ?a
      (case a => k_is)
    case b_tuple =>
      refine' PySem.W.mg_none_of KX G ?a
      (case a => k_is)
    case b_sorted =>
      refine' PySem.W.mg_none_of KX G ?a
      (case a => k_is)
    case b_ord =>
      refine' PySem.W.mg_none_of KX G ?a
      (case a => k_is)
    case b_max =>
      refine' PySem.W.mg_none_of KX G ?a
      (case a => k_is)
    case b_all =>
      refine' PySem.W.mg_none_of KX G ?a
      (case a => k_is)
    case b_any =>
      refine' PySem.W.mg_none_of KX G ?a
      (case a => k_is)
    case b_enumerate =>
      refine' PySem.W.mg_none_of KX G ?a
      (case a => k_is)
    case b_reversed =>
      refine' PySem.W.mg_none_of KX G ?a
      (case a => k_is)
    case b_zip =>
      refine' PySem.W.mg_none_of KX G ?a
      (case a => k_is)
  case S =>
    intro K H xs a hO hwi hask hx
    cases hx with
    | cons h1 h2 =>
      cases h2
      cases h1 with
      | lst hs ha =>
        have e := L2.ints_dw a.1 _ ha
        subst e
        have q : ((Codec.inLen 0 30000 a.1 && a.1.all (Codec.inInt 0 4294967295)) && true) = true := hwi
        rw [Bool.and_eq_true, Bool.and_eq_true] at q
        exact YP.req_mk (Codec.inNat_iff.mp q.1.1).2 (fun x hx => YP.inInt_nat (List.all_eq_true.mp q.1.2 x hx)) hask hs fun H' p hp => .lst (L2.SqL.of hp) (L2.dw_ints _)
#print axioms PySem.Challenge.cw_yardplans_s01_answers_holds
