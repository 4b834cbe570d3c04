import PyProof.Rows.All
import Wide.All
import OpenK.AllK
import Wide.FinOn
import PyProof.EqAt
import PyProof.EqKinds
import PyProof.TupleCall
import KE.BitLaws
import Open.SpecLaws
import KE.OsHead
import KE.OsGo
import PyProof.Rows.SetFrom
import PyProof.CollectWalk
import PyProof.Rows.SortShell
import PyProof.Rows.SortWalk
import KE.KDictList
import PyUw63
import PySem.Challenge.RW_lettersexchanged_s01_answers
section
set_option Elab.async false
set_option linter.all false
set_option maxRecDepth 100000
namespace L2
open PySem PySem.Spec PyProof.Rows
noncomputable abbrev Key := Sum Int Str
noncomputable def keyIs : Key → Value → Bool
  | .inl k, v => Value.isInt k v
  | .inr x, v => Value.isStrOf x v
noncomputable def keyH (w : World) : Key → Int
  | .inl k => hashInt k
  | .inr x => hashStr w x
theorem keyIs_shape : ∀ {k : Key} {v : Value}, keyIs k v = true → (∃ i t, k = Sum.inl i ∧ v = Value.int i t) ∨ (∃ x t, k = Sum.inr x ∧ v = Value.str x t)
  | .inl i, v, h => by
    obtain ⟨t, e⟩ := Value.isInt_shape (k := i) (v := v) h
    exact .inl ⟨i, t, rfl, e⟩
  | .inr x, v, h => by
    obtain ⟨t, e⟩ := Value.isStrOf_shape (x := x) (v := v) h
    exact .inr ⟨x, t, rfl, e⟩
theorem keyIs_int (i : Int) (t : Tok) : keyIs (.inl i) (.int i t) = true := by simp [keyIs, Value.isInt]
theorem keyIs_str (x : Str) (t : Tok) : keyIs (.inr x) (.str x t) = true := by simp [keyIs, Value.isStrOf]
theorem key_ll (a b : Int) : decide ((Sum.inl a : Key) = Sum.inl b) = (a == b) := by
  by_cases e : a = b
  · subst e; simp
  · have h : ¬ (Sum.inl a : Key) = Sum.inl b := fun q => e (Sum.inl.inj q)
    rw [decide_eq_false h]
    exact (beq_eq_false_iff_ne.mpr e).symm
theorem key_rr (a b : Str) : decide ((Sum.inr a : Key) = Sum.inr b) = decide (a = b) := by
  by_cases e : a = b
  · subst e; simp
  · have h : ¬ (Sum.inr a : Key) = Sum.inr b := fun q => e (Sum.inr.inj q)
    rw [decide_eq_false h, decide_eq_false e]
theorem key_lr (a : Int) (b : Str) : decide ((Sum.inl a : Key) = Sum.inr b) = false := decide_eq_false (fun q => nomatch q)
theorem key_rl (a : Str) (b : Int) : decide ((Sum.inr a : Key) = Sum.inl b) = false := decide_eq_false (fun q => nomatch q)
noncomputable def mixKind (prog : Program) (w : World) : PySem.KeyKind prog w Key where
  is := keyIs
  hash := keyH w
  inj := fun v a b ha hb => by
    rcases keyIs_shape ha with ⟨i, t, rfl, rfl⟩ | ⟨x, t, rfl, rfl⟩
    · rcases keyIs_shape hb with ⟨j, u, rfl, e⟩ | ⟨y, u, rfl, e⟩
      · injection e with e1 _; rw [e1]
      · exact nomatch e
    · rcases keyIs_shape hb with ⟨j, u, rfl, e⟩ | ⟨y, u, rfl, e⟩
      · exact nomatch e
      · injection e with e1 _; rw [e1]
  byValue := fun k v h => by
    rcases keyIs_shape h with ⟨i, t, rfl, rfl⟩ | ⟨x, t, rfl, rfl⟩ <;> rfl
  pyHash := fun hv h => by
    rcases keyIs_shape hv with ⟨i, t, rfl, rfl⟩ | ⟨x, t, rfl, rfl⟩
    · exact wpAny_pyHash_int h
    · exact wpAny_pyHash_str h
  eqBool := fun hu hv h => by
    rcases keyIs_shape hu with ⟨i, t, rfl, rfl⟩ | ⟨x, t, rfl, rfl⟩
    · rcases keyIs_shape hv with ⟨j, u, rfl, rfl⟩ | ⟨y, u, rfl, rfl⟩
      · rw [key_ll] at h; exact wpAny_eqBool_int h
      · rw [key_lr] at h; exact SeqAt.EqAt.int_str i t y u _ _ _ _ h
    · rcases keyIs_shape hv with ⟨j, u, rfl, rfl⟩ | ⟨y, u, rfl, rfl⟩
      · rw [key_rl] at h; exact SeqAt.EqAt.str_int x t j u _ _ _ _ h
      · rw [key_rr] at h; exact wpAny_eqBool_str h
  «strs» := fun k x t v h => by
    rcases keyIs_shape h with ⟨i, u, rfl, e⟩ | ⟨y, u, rfl, e⟩
    · exact nomatch e
    · injection e with e1 _
      subst e1
      cases v <;> rfl
theorem mixKind_int (prog : Program) (w : World) (i : Int) (t : Tok) : (mixKind prog w).is (.inl i) (.int i t) = true := keyIs_int i t
theorem mixKind_str (prog : Program) (w : World) (x : Str) (t : Tok) : (mixKind prog w).is (.inr x) (.str x t) = true := keyIs_str x t
end L2
namespace L2
open PySem PySem.Spec PyProof.Rows
inductive V where
  | non | bl (b : Bool) | int (i : Int) | str (x : Str) | byt (b : Array UInt8) | flt (b : UInt64) | ref (a : Addr) | ty (n : String)
  deriving DecidableEq
noncomputable def RelV : V → Value → Prop
  | .non, u => u = Value.none
  | .bl b, u => u = Value.bool b
  | .int i, u => ∃ t, u = Value.int i t
  | .str x, u => ∃ t, u = Value.str x t
  | .byt b, u => ∃ t, u = Value.bytes b t
  | .flt b, u => ∃ t, u = Value.float b t
  | .ref a, u => u = Value.ref a
  | .ty n, u => u = Value.type n
noncomputable abbrev Vals : List V → List Value → Prop := Paired RelV
theorem Vals.length {xs : List V} {us : List Value} (r : Vals xs us) : xs.length = us.length := Paired.length r
theorem Vals.get : ∀ {xs : List V} {us : List Value} {i : Nat} {x : V}, Vals xs us → xs[i]? = some x → ∃ u, us[i]? = some u ∧ RelV x u
  | _, _, _, _, .nil, e => by simp at e
  | _, _, 0, _, .cons r _, e => by simp at e; subst e; exact ⟨_, rfl, r⟩
  | _, _, i + 1, x, .cons _ t, e => by
    obtain ⟨u, h1, h2⟩ := Vals.get (i := i) (x := x) t (by simpa using e)
    exact ⟨u, by simpa using h1, h2⟩
theorem Vals.append : ∀ {xs ys : List V} {us ws : List Value}, Vals xs us → Vals ys ws → Vals (xs ++ ys) (us ++ ws)
  | _, _, _, _, .nil, s => s
  | _, _, _, _, .cons r t, s => .cons r (Vals.append t s)
theorem Vals.take : ∀ {xs : List V} {us : List Value} (n : Nat), Vals xs us → Vals (xs.take n) (us.take n)
  | _, _, 0, _ => .nil
  | _, _, _ + 1, .nil => .nil
  | _, _, n + 1, .cons r t => .cons r (Vals.take n t)
theorem Vals.drop : ∀ {xs : List V} {us : List Value} (n : Nat), Vals xs us → Vals (xs.drop n) (us.drop n)
  | _, _, 0, r => r
  | _, _, _ + 1, .nil => .nil
  | _, _, n + 1, .cons _ t => Vals.drop n t
noncomputable def RelO : Option V → Option Value → Prop
  | some v, some u => RelV v u
  | none, none => True
  | _, _ => False
noncomputable def KV {κ : Type} : List (κ × V) → List (κ × Value) → Prop := Paired fun (p : κ × V) (q : κ × Value) => p.1 = q.1 ∧ RelV p.2 q.2
noncomputable def kV : Key → V
  | .inl i => .int i
  | .inr x => .str x
inductive HO where
  | lst (xs : List V)
  | tup (xs : List V)
  | dK (kvs : List (Key × V)) | dT (kvs : List (List Key × V))
  | set (S : Int → Bool) (n : Nat)
  | ins (C dx : Addr) (fs : List (Str × V))
  | own (x : Addr)
  | xd (fs : List (Str × V))
  | met (f x : Addr)
  | rng (lo hi : Int)
  | frz (o : Obj) (u : HO)
  | tbl (ps : Array Value)
  | ext (φ : Heap → Prop)
noncomputable abbrev Hp := Addr → Option HO
noncomputable def upd (H : Hp) (a : Addr) (o : HO) : Hp := fun b => if b = a then some o else H b
theorem upd_same {H : Hp} {a : Addr} {o : HO} : upd H a o a = some o := by unfold upd; rw [if_pos rfl]
theorem upd_ne {H : Hp} {a b : Addr} {o : HO} (h : b ≠ a) : upd H a o b = H b := by unfold upd; rw [if_neg h]
theorem ne_of {H : Hp} {a b : Addr} {o u : HO} (h : H a = some o) (h' : H b = some u) (d : o ≠ u) : a ≠ b := by
  intro e; subst e; rw [h] at h'; exact d (Option.some.inj h')
theorem ne_of_none {H : Hp} {a b : Addr} {o : HO} (h : H a = some o) (h' : H b = none) : a ≠ b := by
  intro e; subst e; rw [h] at h'; cases h'
section
variable (P : Program) (w : World)
noncomputable def ObjOk (H : Hp) (h : Heap) (a : Addr) : HO → Prop
  | .lst xs => xs.length ≤ sizeLine ∧ ∃ (its : List Value) (n : Nat), Vals xs its ∧ h.get? a = some { cls := .type "list", data := .seq its.toArray n }
  | .tup xs => xs.length ≤ sizeLine ∧ ∃ its : List Value, Vals xs its ∧ IsTup h a its.toArray
  | .dK kvs => kvs.length ≤ sizeLine ∧ (a == sysModules) = false ∧ ∃ vs, KV kvs vs ∧ h.DictOf (mixKind P w) a vs
  | .dT kvs => kvs.length ≤ sizeLine ∧ (a == sysModules) = false ∧ ∃ xs : List (List Key × Addr × Value),
      Paired (fun (p : List Key × V) (q : List Key × Addr × Value) => p.1 = q.1 ∧ H q.2.1 = some (.tup (p.1.map kV)) ∧ RelV p.2 q.2.2) kvs xs ∧
      ∃ o es ep, h.get? a = some o ∧ o.ExactDict ∧ o.data = .dict es ep ∧ es.toList = xs.map (entryOfKey (tupleKind (mixKind P w))) ∧ (xs.map (·.1)).Nodup
  | .set S n => h.SetOf (intKind P w) a S n
  | .ins C dx fs => H dx = some (.own a) ∧ fs.length ≤ 1000 ∧ dx ≠ a ∧ h.get? a = some (PySem.W.instObj C dx) ∧
      ∃ mA, h.Ns1 dx mA ∧ (∀ f, RelO (fs.lookup f) (mA f)) ∧ PySem.Within mA (fs.map (·.1))
  | .own _ => ∃ o, h.get? a = some o
  | .xd fs => ∃ mA, h.Ns1 a mA ∧ ∀ f, RelO (fs.lookup f) (mA f)
  | .rng lo hi => ∃ t u v, h.get? a = some { cls := .type "range", data := .fields #[.int lo t, .int hi u, .int 1 v] }
  | .frz o u => h.get? a = some o ∧ ObjOk H h a u
  | .tbl ps => h.get? a = some { cls := .none, data := .fields ps }
  | .met f x => h.get? a = some (PySem.W.methodObj (.ref f) (.ref x))
  | .ext φ => φ h ∧ (∃ o, h.get? a = some o) ∧ ∀ h1 h2 : Heap, φ h1 → (∀ o, h1.get? a = some o → h2.get? a = some o) → φ h2
noncomputable def HOk (H : Hp) (h : Heap) : Prop := ∀ a o, H a = some o → ObjOk P w H h a o
end
section
variable {P : Program} {w : World} {H H' : Hp} {h h' : Heap} {a : Addr} {o : HO}
theorem ObjOk.lt (x : ObjOk P w H h a o) : a < h.objs.size := by
  cases o with
  | lst xs => obtain ⟨_, _, _, _, e⟩ := x; exact Heap.lt_size e
  | tup xs => obtain ⟨_, _, _, p⟩ := x; exact p.lt
  | dK kvs => obtain ⟨_, _, _, _, o, _, _, e, _⟩ := x; exact Heap.lt_size e
  | dT kvs => obtain ⟨_, _, _, _, o, _, _, e, _⟩ := x; exact Heap.lt_size e
  | set S n => obtain ⟨o, _, _, _, e, _⟩ := x; exact Heap.lt_size e
  | ins C dx fs => obtain ⟨_, _, _, e, _⟩ := x; exact Heap.lt_size e
  | own y => obtain ⟨_, e⟩ := x; exact Heap.lt_size e
  | xd fs => obtain ⟨_, ⟨_, _, _, e, _⟩, _⟩ := x; exact Heap.lt_size e
  | rng lo hi => obtain ⟨_, _, _, e⟩ := x; exact Heap.lt_size e
  | frz ob u => obtain ⟨e, _⟩ := x; exact Heap.lt_size e
  | tbl ps => exact Heap.lt_size (show h.get? a = some _ from x)
  | met f y => exact Heap.lt_size (show h.get? a = some _ from x)
  | ext φ => obtain ⟨_, ⟨_, e⟩, _⟩ := x; exact Heap.lt_size e
theorem Paired.mapP {α β : Type} {F G : α → β → Prop} : ∀ {l₁ : List α} {l₂ : List β}, Paired F l₁ l₂ → (∀ a b, F a b → G a b) → Paired G l₁ l₂
  | _, _, .nil, _ => .nil
  | _, _, .cons r t, f => .cons (f _ _ r) (Paired.mapP t f)
theorem ObjOk.stay (x : ObjOk P w H h a o) (k : ∀ b u, (b = a ∨ H b = some (.own a)) → h.get? b = some u → h'.get? b = some u)
    (ho : ∀ b, H b = some (.own a) → H' b = some (.own a)) (ht : ∀ b xs, H b = some (.tup xs) → H' b = some (.tup xs)) : ObjOk P w H' h' a o := by
  induction o with
  | lst xs => obtain ⟨z, its, n, r, e⟩ := x; exact ⟨z, its, n, r, k _ _ (.inl rfl) e⟩
  | tup xs => obtain ⟨z, its, r, ob, e, c⟩ := x; exact ⟨z, its, r, ob, k _ _ (.inl rfl) e, c⟩
  | dK kvs => obtain ⟨z, y, vs, r, ob, es, ep, e, c⟩ := x; exact ⟨z, y, vs, r, ob, es, ep, k _ _ (.inl rfl) e, c⟩
  | dT kvs =>
    obtain ⟨z, y, xs, r, ob, es, ep, e, c⟩ := x
    exact ⟨z, y, xs, Paired.mapP r fun p q z => ⟨z.1, ht _ _ z.2.1, z.2.2⟩, ob, es, ep, k _ _ (.inl rfl) e, c⟩
  | set S n => obtain ⟨ob, es, ep, t, e, c⟩ := x; exact ⟨ob, es, ep, t, k _ _ (.inl rfl) e, c⟩
  | ins C dx fs =>
    obtain ⟨d, z, ne, e, mA, ⟨od, es, ep, e2, c⟩, r⟩ := x
    exact ⟨ho _ d, z, ne, k _ _ (.inl rfl) e, mA, ⟨od, es, ep, k _ _ (.inr d) e2, c⟩, r⟩
  | own y => obtain ⟨ob, e⟩ := x; exact ⟨ob, k _ _ (.inl rfl) e⟩
  | xd fs => obtain ⟨mA, ⟨od, es, ep, e, c⟩, r⟩ := x; exact ⟨mA, ⟨od, es, ep, k _ _ (.inl rfl) e, c⟩, r⟩
  | rng lo hi => obtain ⟨t, u, v, e⟩ := x; exact ⟨t, u, v, k _ _ (.inl rfl) e⟩
  | frz ob u ih => obtain ⟨e, q⟩ := x; exact ⟨k _ _ (.inl rfl) e, ih q⟩
  | tbl ps =>
    have e : h.get? a = some { cls := .none, data := .fields ps } := x
    show h'.get? a = some { cls := .none, data := .fields ps }
    exact k a _ (.inl rfl) e
  | met f y =>
    have e : h.get? a = some (PySem.W.methodObj (.ref f) (.ref y)) := x
    show h'.get? a = some (PySem.W.methodObj (.ref f) (.ref y))
    exact k a _ (.inl rfl) e
  | ext φ => obtain ⟨p, ⟨o, e⟩, st⟩ := x; exact ⟨st _ _ p fun o q => k _ _ (.inl rfl) q, ⟨o, k _ _ (.inl rfl) e⟩, st⟩
theorem HOk.lt (x : HOk P w H h) (e : H a = some o) : a < h.objs.size := (x a o e).lt
theorem HOk.fresh (x : HOk P w H h) (e : h.objs.size ≤ a) : H a = none := by
  cases q : H a with
  | none => rfl
  | some u => exact absurd (Nat.lt_of_lt_of_le (x.lt q) e) (Nat.lt_irrefl _)
theorem HOk.kept (x : HOk P w H h) (k : ∀ b u, h.get? b = some u → h'.get? b = some u) : HOk P w H h' := fun a o e =>
  (x a o e).stay (fun b u _ q => k b u q) (fun _ q => q) fun _ _ q => q
theorem HOk.laid (x : HOk P w H h) (k : ∀ b u, h.get? b = some u → h'.get? b = some u) (hp : h.objs.size ≤ a) (new : ObjOk P w (upd H a o) h' a o) : HOk P w (upd H a o) h' := fun b u e => by
  have hn := x.fresh hp
  by_cases hb : b = a
  · subst hb; rw [upd_same] at e; cases e; exact new
  · rw [upd_ne hb] at e
    exact (x b u e).stay (fun c v _ q => k c v q) (fun c q => by rw [upd_ne (ne_of_none q hn)]; exact q) fun c xs q => by rw [upd_ne (ne_of_none q hn)]; exact q
end
noncomputable def Rd (H : Hp) (a : Addr) (u : HO) : Prop := H a = some u ∨ ∃ o, H a = some (.frz o u)
theorem Rd.ok {P : Program} {w : World} {H : Hp} {h : Heap} {a : Addr} {u : HO} (r : Rd H a u) (x : HOk P w H h) : ObjOk P w H h a u := by
  rcases r with r | ⟨o, r⟩
  · exact x a u r
  · obtain ⟨_, q⟩ := x a _ r
    exact q
noncomputable def Mut : Option HO → Prop
  | some (.lst _) => True
  | some (.dK _) => True
  | some (.dT _) => True
  | some (.set _ _) => True
  | some (.ins _ _ _) => True
  | some (.ext _) => True
  | _ => False
section
variable {P : Program} {w : World} {H : Hp} {h h' : Heap} {x e : Addr} {o' : HO}
theorem HOk.write (ok : HOk P w H h) (mu : Mut (H x)) (he : e = x ∨ H e = some (.own x)) (k : ∀ b u, b ≠ e → h.get? b = some u → h'.get? b = some u) (heo : ∃ u, h'.get? e = some u)
    (new : ObjOk P w (upd H x o') h' x o') : HOk P w (upd H x o') h' := fun b u q => by
  have nown : ∀ c y, H c = some (.own y) → c ≠ x := fun c y r z => by subst z; rw [r] at mu; exact mu
  have ntup : ∀ c xs, H c = some (.tup xs) → c ≠ x := fun c xs r z => by subst z; rw [r] at mu; exact mu
  by_cases hb : b = x
  · subst hb; rw [upd_same] at q; cases q; exact new
  · rw [upd_ne hb] at q
    by_cases hbe : b = e
    · have q' : H b = some (.own x) := by
        rcases he with z | z
        · exact absurd (hbe.trans z) hb
        · rw [hbe]; exact z
      rw [q] at q'; cases q'
      obtain ⟨v, hv⟩ := heo
      exact ⟨v, by rw [hbe]; exact hv⟩
    · refine (ok b u q).stay (fun c v hc r => k c v ?_ r) (fun c r => by rw [upd_ne (nown c b r)]; exact r) fun c xs r => by rw [upd_ne (ntup c xs r)]; exact r
      rcases hc with rfl | hc
      · exact hbe
      · rintro rfl
        rcases he with z | z
        · exact nown c b hc z
        · rw [hc] at z; cases z; exact hb rfl
end
structure Un (fs ex : List Addr) (H H' : Hp) (h h' : Heap) : Prop where
  keep : ∀ b o, h.get? b = some o → H b = none → b ∉ fs → b ∉ ex → h'.get? b = some o
  slot : ∀ b o, h.get? b = some o → H b = none → b ∈ fs → b ∉ ex → ∃ sl, h'.get? b = some { o with slots := sl }
  free : ∀ b o, h.get? b = some o → H b = none → b ∉ ex → H' b = none
  there : ∀ b o, h.get? b = some o → b ∉ ex → ∃ o', h'.get? b = some o'
  tups : ∀ b xs, H b = some (.tup xs) → H' b = some (.tup xs)
  frzs : ∀ b o u, H b = some (.frz o u) → H' b = some (.frz o u)
  tbls : ∀ b ps, H b = some (.tbl ps) → ∃ more, H' b = some (.tbl (ps ++ more))
section
variable {fs fs' ex ex' : List Addr} {H H1 H2 : Hp} {h h1 h2 h' : Heap} {a x e : Addr} {o : HO}
theorem Un.any (u : Un fs ex H H1 h h1) {b : Addr} {ob : Obj} (q : h.get? b = some ob) (n : H b = none) (hx : b ∉ ex) : ∃ sl, h1.get? b = some { ob with slots := sl } := by
  by_cases hb : b ∈ fs
  · exact u.slot b ob q n hb hx
  · exact ⟨ob.slots, u.keep b ob q n hb hx⟩
theorem Un.kept (k : ∀ b u, h.get? b = some u → h'.get? b = some u) : Un fs ex H H h h' :=
  ⟨fun b ob q _ _ _ => k b ob q, fun b ob q _ _ _ => ⟨ob.slots, k b ob q⟩, fun _ _ _ n _ => n, fun b ob q _ => ⟨ob, k b ob q⟩, fun _ _ q => q, fun _ _ _ q => q, fun _ ps q => ⟨#[], by rw [q]; simp⟩⟩
theorem Un.refl : Un fs ex H H h h := Un.kept fun _ _ q => q
theorem Un.laid (k : ∀ b u, h.get? b = some u → h'.get? b = some u) (hp : h.objs.size ≤ a) (hn : H a = none) : Un fs ex H (upd H a o) h h' where
  keep := fun b u q _ _ _ => k b u q
  slot := fun b u q _ _ _ => ⟨u.slots, k b u q⟩
  free := fun b u q n _ => by rw [upd_ne (Nat.ne_of_lt (Nat.lt_of_lt_of_le (Heap.lt_size q) hp))]; exact n
  there := fun b u q _ => ⟨u, k b u q⟩
  tups := fun b xs q => by rw [upd_ne (ne_of_none q hn)]; exact q
  frzs := fun b u xs q => by rw [upd_ne (ne_of_none q hn)]; exact q
  tbls := fun b ps q => ⟨#[], by rw [upd_ne (ne_of_none q hn), q]; simp⟩
theorem Un.write (mu : Mut (H x)) (he : e = x ∨ H e = some (.own x)) (k : ∀ b u, b ≠ e → h.get? b = some u → h'.get? b = some u) (heo : ∃ u, h'.get? e = some u) : Un fs ex H (upd H x o) h h' := by
  have hx : ∀ b, H b = none → b ≠ x := fun b n z => by subst z; rw [n] at mu; exact mu
  have hb : ∀ b, H b = none → b ≠ e := fun b n z => by
    subst z
    rcases he with r | r
    · exact hx b n r
    · rw [n] at r; cases r
  have hm : ∀ b u, H b = some u → ¬ Mut (some u) → b ≠ x := fun b u q nm z => by subst z; rw [q] at mu; exact nm mu
  refine ⟨fun b u q n _ _ => k b u (hb b n) q, fun b u q n _ _ => ⟨u.slots, k b u (hb b n) q⟩, fun b u q n _ => by rw [upd_ne (hx b n)]; exact n, fun b u q _ => ?_,
    fun b xs q => by rw [upd_ne (hm b _ q fun z => z)]; exact q, fun b u xs q => by rw [upd_ne (hm b _ q fun z => z)]; exact q, fun b ps q => ⟨#[], by rw [upd_ne (hm b _ q fun z => z), q]; simp⟩⟩
  by_cases hbe : b = e
  · subst hbe; exact heo
  · exact ⟨u, k b u hbe q⟩
end
noncomputable def trk (h : Heap) (H : Hp) : List Addr := (List.range h.objs.size).filter fun a => (H a).isSome
noncomputable def hidT (h : Heap) (H : Hp) : Heap := PySem.W.hideAll h (trk h H)
theorem hidT_size (h : Heap) (H : Hp) : (hidT h H).objs.size = h.objs.size := PySem.W.hideAll_size _ _
theorem hidT_get {h : Heap} {H : Hp} {b : Addr} {o : Obj} (e : h.get? b = some o) (n : H b = none) : (hidT h H).get? b = some o :=
  PySem.W.hideAll_get _ e fun hm => by
    have q : (H b).isSome = true := (List.mem_filter.mp hm).2
    rw [n] at q; simp at q
theorem of_hidT {h : Heap} {H : Hp} {b : Addr} {o : Obj} (e : (hidT h H).get? b = some o) : h.get? b = some o ∧ H b = none := by
  have e' : h.get? b = some o := PySem.W.of_hideAll (trk h H) e
  refine ⟨e', ?_⟩
  cases q : H b with
  | none => rfl
  | some x =>
    have hm : b ∈ trk h H := List.mem_filter.mpr ⟨List.mem_range.mpr (Heap.lt_size e'), by simp [q]⟩
    have z : (hidT h H).get? b = none := PySem.W.hideAll_none (trk h H) hm
    rw [z] at e; cases e
end L2
namespace L2
open PySem PySem.Spec PyProof.Rows
structure Mod (K : PySem.W.Frag) (mg : Str → Option Value) (base : Heap) : Prop where
  kin : K.In base
  glob : base.Ns mainGlobals mg
  blt : ∃ mb, base.Ns builtinsNs mb ∧ ∀ x : Str, x ≠ "__name__" → mb x = bootBuiltins x
  nolimit : base.NoLimit
structure Cx where
  prog : Program
  w : World
  K : PySem.W.Frag
  mg : Str → Option Value
  base : Heap
  A : Around
  N : List Str
  s_0 : Shared
  H_0 : Hp
  env : Env
  outer : List Env
  stack : List Env
  ex : List Addr
  fn : Str → Bool
  calm : Bool
  pn : List (Addr × Obj)
  xe : Value → Shared → Prop
noncomputable def frs (l : List Env) : List Addr := l.filterMap (·.frame)
noncomputable abbrev Cx.fs (X : Cx) : List Addr := frs X.outer
noncomputable def Vis (sc : Scope) (x : Str) : Prop := sc.names.lookup x = some .local ∨ sc.names.lookup x = some .cell ∨ sc.names.lookup x = some .free
noncomputable def Loc (sc : Scope) (x : Str) : Prop := sc.names.lookup x = some .local ∨ sc.names.lookup x = some .cell
noncomputable def Look (env : Env) (h : Heap) (m : Str → Option Value) (x : Str) (u : Value) : Prop :=
  (env.kindOf x = some .local ∧ m x = some u) ∨ ((env.kindOf x = some .cell ∨ env.kindOf x = some .free) ∧ ∃ c, env.cells.lookup x = some c ∧ h.IsCell c (some u))
structure Cx.Ok (X : Cx) : Prop where
  mod : Mod X.K X.mg X.base
  kind : X.env.scope.kind = .function
  glob : X.env.globals = mainGlobals
  blt : X.env.builtins = builtinsNs
  above : X.s_0.heap.objs.size ≤ X.env.locals
  inj : ∀ x y c, X.env.cells.lookup x = some c → X.env.cells.lookup y = some c → x = y
  has : ∀ x, (X.env.kindOf x = some .cell ∨ X.env.kindOf x = some .free) → ∃ c, X.env.cells.lookup x = some c
  cab : ∀ x c, X.fn x = true → X.env.cells.lookup x = some c → X.s_0.heap.objs.size ≤ c
  hd : X.calm = true → X.A.handled = none
  frames : X.A.frames = some X.stack
  stk : X.stack = X.outer ∨ (X.stack = X.env :: X.outer ∧ X.env.frame = some X.env.locals)
  exf : ∀ b ∈ X.ex, b ≠ X.env.locals ∧ ∀ x c, X.env.cells.lookup x = some c → c ≠ b
  bs : ∀ b o, X.base.get? b = some o → X.s_0.heap.get? b = some o ∧ X.H_0 b = none
  bsz : X.base.objs.size ≤ X.s_0.heap.objs.size
  noex : ∀ b o, X.base.get? b = some o → b ∉ X.ex
  exfs : ∀ b ∈ X.ex, b ∉ X.fs
  funs : X.s_0.heap.FunFrames X.base X.outer
  frf : ∀ b ∈ X.fs, X.H_0 b = none
structure Inv (X : Cx) (pins : List (Addr × Obj)) (σ : List (Option V)) (H : Hp) (s : Shared) : Prop where
  ok : X.Ok
  os : s.os = X.s_0.os
  bare : AllBare s.gens
  base : Un X.fs X.ex X.H_0 H X.s_0.heap s.heap
  loc : ∃ m, s.heap.Ns X.env.locals m ∧ ∀ (i : Nat) (x : Str) (v : V), X.N[i]? = some x → σ[i]? = some (some v) → Vis X.env.scope x → ∃ u, RelV v u ∧ Look X.env s.heap m x u
  cell : ∀ x c, X.env.cells.lookup x = some c → ∃ v, s.heap.IsCell c v
  free : H X.env.locals = none
  freeC : ∀ x c, X.env.cells.lookup x = some c → H c = none
  pin : ∀ p ∈ X.pn ++ pins, s.heap.get? p.1 = some p.2 ∧ H p.1 = none ∧ p.1 ≠ X.env.locals ∧ p.1 ∉ X.fs ∧ ∀ v, p.2.data ≠ .cell v
  hok : HOk X.prog X.w H s.heap
  len : σ.length = X.N.length
section
variable {X : Cx} {pins : List (Addr × Obj)} {σ : List (Option V)} {H H' : Hp} {s : Shared} {h' : Heap}
theorem Cx.Ok.nofr (ok : X.Ok) {b : Addr} {o : Obj} (e : X.base.get? b = some o) : b ∉ X.fs := fun hb => by
  have := (ok.funs.mem hb).1
  rw [e] at this; cases this
theorem Inv.bs (I : Inv X pins σ H s) : ∀ b o, X.base.get? b = some o → s.heap.get? b = some o ∧ H b = none := fun b o e =>
  ⟨I.base.keep b o (I.ok.bs b o e).1 (I.ok.bs b o e).2 (I.ok.nofr e) (I.ok.noex b o e), I.base.free b o (I.ok.bs b o e).1 (I.ok.bs b o e).2 (I.ok.noex b o e)⟩
theorem Inv.bk (I : Inv X pins σ H s) : ∀ b o, X.base.get? b = some o → s.heap.get? b = some o := fun b o e => (I.bs b o e).1
theorem Inv.mod (I : Inv X pins σ H s) : Mod X.K X.mg X.base := I.ok.mod
theorem Inv.kIn (I : Inv X pins σ H s) : X.K.In s.heap := I.ok.mod.kin.keeps I.bk
theorem Inv.lt (I : Inv X pins σ H s) : X.env.locals < s.heap.objs.size := let ⟨_, hn, _⟩ := I.loc; hn.lt
theorem Inv.sz (I : Inv X pins σ H s) : X.s_0.heap.objs.size ≤ s.heap.objs.size := Nat.le_trans I.ok.above (Nat.le_of_lt I.lt)
theorem Inv.nofs (I : Inv X pins σ H s) {a : Addr} (h : s.heap.objs.size ≤ a) : a ∉ X.fs := fun hb => by
  obtain ⟨_, o, ho, _⟩ := I.ok.funs.mem hb
  exact absurd (Nat.lt_of_lt_of_le (Heap.lt_size ho) (Nat.le_trans I.sz h)) (Nat.lt_irrefl _)
theorem Inv.cne (I : Inv X pins σ H s) : ∀ x c, X.env.cells.lookup x = some c → c ≠ X.env.locals := fun x c e z => by
  obtain ⟨v, o, ho, hd⟩ := I.cell x c e
  obtain ⟨m, ⟨o', es, ep, ho', hd', _⟩, _⟩ := I.loc
  rw [z, ho'] at ho; cases ho; rw [hd'] at hd; cases hd
theorem Inv.funs (I : Inv X pins σ H s) : s.heap.FunFrames X.base X.outer := by
  have all : ∀ (l : List Env), (∀ b ∈ frs l, b ∈ X.fs) → X.s_0.heap.FunFrames X.base l → s.heap.FunFrames X.base l := by
    intro l
    induction l with
    | nil => intro _ _; trivial
    | cons env r ih =>
      intro hs hl
      obtain ⟨hk, ⟨L, o, hf, hn, ho, hd⟩, hr⟩ := hl
      have hL : L ∈ X.fs := hs L (by unfold frs; rw [List.filterMap_cons, hf]; exact List.mem_cons_self)
      obtain ⟨sl, e⟩ := I.base.slot L o ho (I.ok.frf L hL) hL fun z => I.ok.exfs L z hL
      exact ⟨hk, ⟨L, _, hf, hn, e, hd⟩, ih (fun b hb => hs b (by unfold frs; rw [List.filterMap_cons, hf]; exact List.mem_cons_of_mem _ hb)) hr⟩
  exact all X.outer (fun _ hb => hb) I.ok.funs
theorem Inv.stack (I : Inv X pins σ H s) : s.heap.FunFrames X.base X.stack := by
  rcases I.ok.stk with e | ⟨e, hf⟩
  · rw [e]; exact I.funs
  · rw [e]
    obtain ⟨m, hn, _⟩ := I.loc
    refine .cons (by rw [I.ok.kind]; decide) hf hn ?_ I.funs
    exact Heap.get?_none_of_le (Nat.le_trans I.ok.bsz I.ok.above)
theorem Inv.stkSub (I : Inv X pins σ H s) : ∀ b ∈ frs X.stack, b ∈ X.env.locals :: X.fs := fun b hb => by
  rcases I.ok.stk with e | ⟨e, hf⟩
  · rw [e] at hb; exact List.mem_cons_of_mem _ hb
  · rw [e] at hb
    unfold frs at hb
    rw [List.filterMap_cons, hf] at hb
    exact hb
theorem Inv.stkFree (I : Inv X pins σ H s) : ∀ b ∈ frs X.stack, H b = none := fun b hb => by
  rcases List.mem_cons.mp (I.stkSub b hb) with e | hb
  · rw [e]; exact I.free
  · obtain ⟨_, o, ho, _⟩ := I.ok.funs.mem hb
    exact I.base.free b o ho (I.ok.frf b hb) fun z => I.ok.exfs b z hb
theorem Inv.step {g' : Array GenState} {t' : Nat} {d' : Drawn} {ch : List Addr} (I : Inv X pins σ H s)
    (hch : ∀ b ∈ ch, (b ∈ X.ex ∨ X.s_0.heap.objs.size ≤ b) ∧ b ≠ X.env.locals ∧ (∀ x c, X.env.cells.lookup x = some c → c ≠ b) ∧ ∀ p ∈ X.pn ++ pins, p.1 ≠ b)
    (keep : ∀ b o, b ≠ X.env.locals → b ∉ X.fs → b ∉ ch → s.heap.get? b = some o → H b = none → h'.get? b = some o)
    (slot : ∀ b o, b ≠ X.env.locals → b ∈ X.fs → b ∉ ch → s.heap.get? b = some o → H b = none → ∃ sl, h'.get? b = some { o with slots := sl }) (free : ∀ b o, b ∉ ch → s.heap.get? b = some o → H b = none → H' b = none)
    (there : ∀ b o, b ∉ ch → s.heap.get? b = some o → ∃ o', h'.get? b = some o')
    (tups : ∀ b xs, H b = some (.tup xs) → H' b = some (.tup xs)) (frzs : ∀ b o u, H b = some (.frz o u) → H' b = some (.frz o u)) (tbls : ∀ b ps, H b = some (.tbl ps) → ∃ more, H' b = some (.tbl (ps ++ more)))
    (ns : ∀ m, s.heap.Ns X.env.locals m → h'.Ns X.env.locals m) (hok : HOk X.prog X.w H' h') (hg : AllBare g') :
    Inv X pins σ H' { s with heap := h', gens := g', drawn := d', toks := t' } := by
  have neL : ∀ b o, X.s_0.heap.get? b = some o → b ≠ X.env.locals := fun b o e => Nat.ne_of_lt (Nat.lt_of_lt_of_le (Heap.lt_size e) I.ok.above)
  have neC : ∀ b o, X.s_0.heap.get? b = some o → b ∉ X.ex → b ∉ ch := fun b o e hx hb => by
    rcases (hch b hb).1 with z | z
    · exact hx z
    · exact absurd (Nat.lt_of_lt_of_le (Heap.lt_size e) z) (Nat.lt_irrefl _)
  have cellK : ∀ x c, X.env.cells.lookup x = some c → ∀ v, s.heap.IsCell c v → h'.IsCell c v := fun x c e v ⟨o, ho, hd⟩ => by
    have nch : c ∉ ch := fun z => (hch c z).2.2.1 x c e rfl
    by_cases hc : c ∈ X.fs
    · obtain ⟨sl, q⟩ := slot c o (I.cne x c e) hc nch ho (I.freeC x c e)
      exact ⟨_, q, hd⟩
    · exact ⟨o, keep c o (I.cne x c e) hc nch ho (I.freeC x c e), hd⟩
  refine ⟨I.ok, I.os, hg, ⟨fun b o e n hb hx => ?_, fun b o e n hb hx => ?_, fun b o e n hx => ?_, fun b o e hx => ?_, fun b xs e => tups b xs (I.base.tups b xs e), fun b o xs e => frzs b o xs (I.base.frzs b o xs e), fun b ps e => ?_⟩, ?_, fun x c e => ?_, ?_, fun x c e => ?_, fun p hp => ?_, hok, I.len⟩
  · exact keep b o (neL b o e) hb (neC b o e hx) (I.base.keep b o e n hb hx) (I.base.free b o e n hx)
  · obtain ⟨sl, e1⟩ := I.base.slot b o e n hb hx
    obtain ⟨sl', e2⟩ := slot b _ (neL b o e) hb (neC b o e hx) e1 (I.base.free b o e n hx)
    exact ⟨sl', e2⟩
  · obtain ⟨o', e1⟩ := I.base.there b o e hx
    exact free b o' (neC b o e hx) e1 (I.base.free b o e n hx)
  · obtain ⟨o', e1⟩ := I.base.there b o e hx
    exact there b o' (neC b o e hx) e1
  · obtain ⟨m1, e1⟩ := I.base.tbls b ps e
    obtain ⟨m2, e2⟩ := tbls b _ e1
    exact ⟨m1 ++ m2, by rw [e2, Array.append_assoc]⟩
  · obtain ⟨m, hn, hl⟩ := I.loc
    refine ⟨m, ns m hn, fun i x v e1 e2 e3 => ?_⟩
    obtain ⟨u, r, l⟩ := hl i x v e1 e2 e3
    refine ⟨u, r, ?_⟩
    rcases l with l | ⟨k, c, e, z⟩
    · exact .inl l
    · exact .inr ⟨k, c, e, cellK x c e _ z⟩
  · obtain ⟨v, z⟩ := I.cell x c e
    exact ⟨v, cellK x c e v z⟩
  · obtain ⟨m, ⟨o, _, _, ho, _⟩, _⟩ := I.loc
    exact free _ o (fun z => (hch _ z).2.1 rfl) ho I.free
  · obtain ⟨v, o, ho, hd⟩ := I.cell x c e
    exact free c o (fun z => (hch c z).2.2.1 x c e rfl) ho (I.freeC x c e)
  · obtain ⟨e, n, ne, nf, d⟩ := I.pin p hp
    have nch : p.1 ∉ ch := fun z => (hch p.1 z).2.2.2 p hp rfl
    exact ⟨keep p.1 p.2 ne nf nch e n, free p.1 p.2 nch e n, ne, nf, d⟩
theorem Inv.un {t' : Nat} (I : Inv X pins σ H s) (u : Un X.fs [] H H' s.heap h') (hok : HOk X.prog X.w H' h') : Inv X pins σ H' { s with heap := h', toks := t' } := by
  obtain ⟨m, ⟨o, es, ep, ho, r⟩, _⟩ := id I.loc
  obtain ⟨sl, hL⟩ := u.any ho I.free (by simp)
  exact I.step (g' := s.gens) (d' := s.drawn) (ch := []) (fun _ z => nomatch z) (fun b o _ hb _ e n => u.keep b o e n hb (by simp)) (fun b o _ hb _ e n => u.slot b o e n hb (by simp)) (fun b o _ e n => u.free b o e n (by simp)) (fun b o _ e => u.there b o e (by simp)) u.tups u.frzs u.tbls (fun m' hm => by
    obtain ⟨o', es', ep', ho', r'⟩ := hm
    rw [ho] at ho'; cases ho'
    exact ⟨_, es', ep', hL, r'⟩) hok I.bare
theorem Inv.call {g' : Array GenState} {t' : Nat} {d' : Drawn} {ch : List Addr} (I : Inv X pins σ H s) (u : Un (frs X.stack) ch H H' s.heap h') (hok : HOk X.prog X.w H' h') (hg : AllBare g')
    (hch : ∀ b ∈ ch, (b ∈ X.ex ∨ X.s_0.heap.objs.size ≤ b) ∧ b ≠ X.env.locals ∧ (∀ x c, X.env.cells.lookup x = some c → c ≠ b) ∧ ∀ p ∈ X.pn ++ pins, p.1 ≠ b) :
    Inv X pins σ H' { s with heap := h', gens := g', drawn := d', toks := t' } := by
  obtain ⟨m, ⟨o, es, ep, ho, r⟩, _⟩ := id I.loc
  obtain ⟨sl, hL⟩ := u.any ho I.free fun z => (hch _ z).2.1 rfl
  exact I.step (ch := ch) hch (fun b o hL hb hc e n => u.keep b o e n (fun z => (List.mem_cons.mp (I.stkSub b z)).elim hL hb) hc) (fun b o _ _ hc e n => u.any e n hc) (fun b o hc e n => u.free b o e n hc) (fun b o hc e => u.there b o e hc) u.tups u.frzs u.tbls (fun m' hm => by
    obtain ⟨o', es', ep', ho', r'⟩ := hm
    rw [ho] at ho'; cases ho'
    exact ⟨_, es', ep', hL, r'⟩) hok hg
theorem Inv.turned {t' : Nat} {it : Addr} (I : Inv X pins σ H s) (k : ∀ b o, b ≠ it → s.heap.get? b = some o → h'.get? b = some o) (hn : H it = none) (hL : it ≠ X.env.locals)
    (h1 : it ∈ X.ex ∨ X.s_0.heap.objs.size ≤ it) (h2 : ∀ x c, X.env.cells.lookup x = some c → c ≠ it) (h3 : ∀ p ∈ X.pn ++ pins, p.1 ≠ it) : Inv X pins σ H { s with heap := h', toks := t' } := by
  have nit : ∀ b u, H b = some u → b ≠ it := fun b u e z => by rw [z, hn] at e; cases e
  refine I.step (g' := s.gens) (d' := s.drawn) (ch := [it]) (fun b hb => ?_) (fun b o _ _ hc e _ => k b o (fun z => hc (by simp [z])) e) (fun b o _ _ hc e _ => ⟨o.slots, k b o (fun z => hc (by simp [z])) e⟩) (fun _ _ _ _ n => n)
    (fun b o hc e => ⟨o, k b o (fun z => hc (by simp [z])) e⟩) (fun _ _ e => e) (fun _ _ _ e => e) (fun b ps e => ⟨#[], by rw [e]; simp⟩) (fun m hm => ?_) (fun b u e => ?_) I.bare
  · have e : b = it := by simpa using hb
    subst e
    exact ⟨h1, hL, h2, h3⟩
  · obtain ⟨o, es, ep, ho, r⟩ := hm
    exact ⟨o, es, ep, k _ o (Ne.symm hL) ho, r⟩
  · refine (I.hok b u e).stay (fun c v hc q => k c v ?_ q) (fun _ q => q) fun _ _ q => q
    rcases hc with z | z
    · rw [z]; exact nit b u e
    · exact nit c _ z
theorem Inv.tok (I : Inv X pins σ H s) (t : Nat) : Inv X pins σ H { s with toks := t } := I.un (h' := s.heap) (t' := t) Un.refl I.hok
theorem Inv.kept {t' : Nat} (I : Inv X pins σ H s) (k : ∀ b u, s.heap.get? b = some u → h'.get? b = some u) : Inv X pins σ H { s with heap := h', toks := t' } := I.un (Un.kept k) (I.hok.kept k)
theorem Inv.laid {a : Addr} {o : HO} {t' : Nat} (I : Inv X pins σ H s) (k : ∀ b u, s.heap.get? b = some u → h'.get? b = some u) (hp : s.heap.objs.size ≤ a) (new : ObjOk X.prog X.w (upd H a o) h' a o) :
    Inv X pins σ (upd H a o) { s with heap := h', toks := t' } := I.un (Un.laid k hp (I.hok.fresh hp)) (I.hok.laid k hp new)
theorem Inv.write {x e : Addr} {o : HO} {t' : Nat} (I : Inv X pins σ H s) (mu : Mut (H x)) (he : e = x ∨ H e = some (.own x)) (k : ∀ b u, b ≠ e → s.heap.get? b = some u → h'.get? b = some u) (heo : ∃ u, h'.get? e = some u)
    (new : ObjOk X.prog X.w (upd H x o) h' x o) : Inv X pins σ (upd H x o) { s with heap := h', toks := t' } := I.un (Un.write mu he k heo) (I.hok.write mu he k heo new)
theorem Inv.weak {σ' : List (Option V)} (I : Inv X pins σ H s) (hl : σ'.length = σ.length) (w : ∀ (i : Nat) v, σ'[i]? = some (some v) → σ[i]? = some (some v)) : Inv X pins σ' H s :=
  ⟨I.ok, I.os, I.bare, I.base, let ⟨m, hn, hl'⟩ := I.loc; ⟨m, hn, fun i x v e1 e2 e3 => hl' i x v e1 (w i v e2) e3⟩, I.cell, I.free, I.freeC, I.pin, I.hok, hl.trans I.len⟩
theorem Inv.pins_of {pins' : List (Addr × Obj)} (I : Inv X pins σ H s) (h : ∀ p ∈ pins', s.heap.get? p.1 = some p.2 ∧ H p.1 = none ∧ p.1 ≠ X.env.locals ∧ p.1 ∉ X.fs ∧ ∀ v, p.2.data ≠ .cell v) : Inv X pins' σ H s :=
  ⟨I.ok, I.os, I.bare, I.base, I.loc, I.cell, I.free, I.freeC, fun p hp => (List.mem_append.mp hp).elim (fun z => I.pin p (List.mem_append_left _ z)) (h p), I.hok, I.len⟩
theorem nodup_ix {N : List Str} (hN : N.Nodup) {i j : Nat} {x : Str} (a : N[i]? = some x) (b : N[j]? = some x) : i = j := by
  obtain ⟨h1, e1⟩ := List.getElem?_eq_some_iff.mp a
  obtain ⟨h2, e2⟩ := List.getElem?_eq_some_iff.mp b
  exact (List.getElem_inj hN).mp (e1.trans e2.symm)
theorem store_ok2 {M : Model} {A : Around} {E : Value → Shared → Prop} {i : Nat} {x : Str} {v : V} {u : Value} {Q : Unit → Shared → Prop} (I : Inv X pins σ H s) (hN : X.N.Nodup) (hi : X.N[i]? = some x) (hx : Loc X.env.scope x) (r : RelV v u)
    (h : ∀ s', Inv X pins (σ.set i (some v)) H s' → (∃ a, Heap.SameBut a s.heap s'.heap ∧ (a = X.env.locals ∨ X.env.cells.lookup x = some a)) → Q () s') (hf : X.fn x = true ∨ X.env.scope.names.lookup x = some .local := by first | exact .inl rfl | exact .inr rfl | assumption) : wpAny M A (storeName X.env x u) Q E s := by
  obtain ⟨m, hn, hl⟩ := id I.loc
  have hcls : (X.env.scope.kind == .class || (X.env.scope.kind == .module && X.env.locals != X.env.globals)) = false := by rw [I.ok.kind]; rfl
  have hiσ : i < σ.length := by rw [I.len]; exact (List.getElem?_eq_some_iff.mp hi).1
  have cne := I.cne
  have tracked : ∀ {a : Addr} {h' : Heap}, (∃ o, s.heap.get? a = some o ∧ H a = none) → Heap.SameBut a s.heap h' → HOk X.prog X.w H h' := fun {a h'} ha hs b ob e => by
    obtain ⟨_, _, hfree⟩ := ha
    refine (I.hok b ob e).stay (fun c w' hc q => (hs.2 c ?_).trans q) (fun _ q => q) fun _ _ q => q
    rintro rfl
    rcases hc with rfl | hc
    · rw [hfree] at e; cases e
    · rw [hfree] at hc; cases hc
  rcases hx with hk | hk
  · refine wpAny_storeName_local hk hn (fun h' hn' hs => ?_) hcls
    obtain ⟨oL, _, _, hoL, _⟩ := id hn
    refine h _ ⟨I.ok, I.os, I.bare, ⟨fun b o e n hb hx => ?_, fun b o e n hb hx => ?_, I.base.free, fun b o e hx => ?_, I.base.tups, I.base.frzs, I.base.tbls⟩, ⟨_, hn', fun j y v' e1 e2 e3 => ?_⟩, fun y c e => ?_, I.free, I.freeC, fun p hp => ?_, tracked ⟨oL, hoL, I.free⟩ hs, by simpa using I.len⟩ ⟨_, hs, .inl rfl⟩
    · exact (hs.2 b (Nat.ne_of_lt (Nat.lt_of_lt_of_le (Heap.lt_size e) I.ok.above))).trans (I.base.keep b o e n hb hx)
    · obtain ⟨sl, e1⟩ := I.base.slot b o e n hb hx
      exact ⟨sl, (hs.2 b (Nat.ne_of_lt (Nat.lt_of_lt_of_le (Heap.lt_size e) I.ok.above))).trans e1⟩
    · obtain ⟨o', e1⟩ := I.base.there b o e hx
      exact ⟨o', (hs.2 b (Nat.ne_of_lt (Nat.lt_of_lt_of_le (Heap.lt_size e) I.ok.above))).trans e1⟩
    · by_cases hj : j = i
      · subst hj
        rw [hi] at e1; cases e1
        rw [List.getElem?_set_self hiσ] at e2
        cases e2
        exact ⟨u, r, .inl ⟨hk, by simp⟩⟩
      · rw [List.getElem?_set_ne (Ne.symm hj)] at e2
        obtain ⟨u', r', q⟩ := hl j y v' e1 e2 e3
        refine ⟨u', r', ?_⟩
        rcases q with ⟨k, e⟩ | ⟨k, c, e, z⟩
        · refine .inl ⟨k, ?_⟩
          have : y ≠ x := fun e => hj (nodup_ix hN e1 (e ▸ hi))
          simp [this, e]
        · exact .inr ⟨k, c, e, z.sameBut hs (cne y c e)⟩
    · obtain ⟨w', z⟩ := I.cell y c e
      exact ⟨w', z.sameBut hs (cne y c e)⟩
    · obtain ⟨e, n, ne, nf, d⟩ := I.pin p hp
      exact ⟨(hs.2 p.1 ne).trans e, n, ne, nf, d⟩
  · have hfn : X.fn x = true := by
      rcases hf with z | z
      · exact z
      · rw [z] at hk; cases hk
    obtain ⟨c, hc⟩ := I.ok.has x (.inl hk)
    obtain ⟨w', z⟩ := I.cell x c hc
    refine wpAny_storeName_cell I.ok.kind hk hc z (fun h' hc' hs => ?_)
    obtain ⟨oc, hoc, hocd⟩ := id z
    refine h { s with heap := h' } ⟨I.ok, I.os, I.bare, ⟨fun b o e n hb hx => ?_, fun b o e n hb hx => ?_, I.base.free, fun b o e hx => ?_, I.base.tups, I.base.frzs, I.base.tbls⟩, ⟨m, hn.sameBut hs (Ne.symm (cne x c hc)), fun j y v' e1 e2 e3 => ?_⟩, fun y c' e => ?_, I.free, I.freeC, fun p hp => ?_, tracked ⟨oc, hoc, I.freeC x c hc⟩ hs, by simpa using I.len⟩ ⟨c, hs, .inr hc⟩
    · exact (hs.2 b (Nat.ne_of_lt (Nat.lt_of_lt_of_le (Heap.lt_size e) (I.ok.cab x c hfn hc)))).trans (I.base.keep b o e n hb hx)
    · obtain ⟨sl, e1⟩ := I.base.slot b o e n hb hx
      exact ⟨sl, (hs.2 b (Nat.ne_of_lt (Nat.lt_of_lt_of_le (Heap.lt_size e) (I.ok.cab x c hfn hc)))).trans e1⟩
    · obtain ⟨o', e1⟩ := I.base.there b o e hx
      exact ⟨o', (hs.2 b (Nat.ne_of_lt (Nat.lt_of_lt_of_le (Heap.lt_size e) (I.ok.cab x c hfn hc)))).trans e1⟩
    · by_cases hj : j = i
      · subst hj
        rw [hi] at e1; cases e1
        rw [List.getElem?_set_self hiσ] at e2
        cases e2
        exact ⟨u, r, .inr ⟨.inl hk, c, hc, hc'⟩⟩
      · rw [List.getElem?_set_ne (Ne.symm hj)] at e2
        obtain ⟨u', r', q⟩ := hl j y v' e1 e2 e3
        refine ⟨u', r', ?_⟩
        rcases q with q | ⟨k, c', e, z'⟩
        · exact .inl q
        · refine .inr ⟨k, c', e, z'.sameBut hs ?_⟩
          rintro rfl
          exact hj (nodup_ix hN e1 (I.ok.inj _ _ _ e hc ▸ hi))
    · by_cases hcc : c' = c
      · subst hcc; exact ⟨_, hc'⟩
      · obtain ⟨w2, z2⟩ := I.cell y c' e
        exact ⟨w2, z2.sameBut hs hcc⟩
    · obtain ⟨e, n, ne, nf, d⟩ := I.pin p hp
      refine ⟨(hs.2 p.1 ?_).trans e, n, ne, nf, d⟩
      intro q
      rw [q, hoc] at e
      have q' : oc = p.2 := Option.some.inj e
      exact d w' (by rw [← q']; exact hocd)
theorem store_ok {M : Model} {A : Around} {E : Value → Shared → Prop} {i : Nat} {x : Str} {v : V} {u : Value} {Q : Unit → Shared → Prop} (I : Inv X pins σ H s) (hN : X.N.Nodup) (hi : X.N[i]? = some x) (hx : Loc X.env.scope x) (r : RelV v u)
    (h : ∀ s', Inv X pins (σ.set i (some v)) H s' → Q () s') (hf : X.fn x = true ∨ X.env.scope.names.lookup x = some .local := by first | exact .inl rfl | exact .inr rfl | assumption) : wpAny M A (storeName X.env x u) Q E s :=
  store_ok2 I hN hi hx r (fun s' I' _ => h s' I') hf
theorem Inv.call' {s' : Shared} {ch : List Addr} (I : Inv X pins σ H s) (ho : s'.os = s.os) (u : Un (frs X.stack) ch H H' s.heap s'.heap) (hok : HOk X.prog X.w H' s'.heap) (hg : AllBare s'.gens)
    (hch : ∀ b ∈ ch, (b ∈ X.ex ∨ X.s_0.heap.objs.size ≤ b) ∧ b ≠ X.env.locals ∧ (∀ x c, X.env.cells.lookup x = some c → c ≠ b) ∧ ∀ p ∈ X.pn ++ pins, p.1 ≠ b) : Inv X pins σ H' s' := by
  obtain ⟨h', g', d', t', o'⟩ := s'
  have e : o' = s.os := ho
  subst e
  exact I.call (g' := g') (t' := t') (d' := d') u hok hg hch
end
noncomputable abbrev XK := Value → Option Addr → Hp → Prop
noncomputable abbrev St := List (Option V)
noncomputable abbrev VK := V → Hp → Prop
noncomputable abbrev TE := St → Hp → VK → Prop
noncomputable abbrev TT := St → Hp → (Bool → Hp → Prop) → Prop
noncomputable abbrev TA := St → Hp → (List V → Hp → Prop) → Prop
structure Ends where
  nx : St → Hp → Prop
  rt : VK
  bk : St → Hp → Prop := fun _ _ => False
  ct : St → Hp → Prop := fun _ _ => False
noncomputable abbrev TS := Ends → St → Hp → Prop
noncomputable def EP (X : Cx) (pins : List (Addr × Obj)) (σ : St) (Q : VK) (u : Value) (s' : Shared) : Prop := ∃ v H', Inv X pins σ H' s' ∧ RelV v u ∧ Q v H'
noncomputable def TP (X : Cx) (pins : List (Addr × Obj)) (σ : St) (Q : Bool → Hp → Prop) (b : Bool) (s' : Shared) : Prop := ∃ H', Inv X pins σ H' s' ∧ Q b H'
noncomputable def AP (X : Cx) (pins : List (Addr × Obj)) (σ : St) (Q : List V → Hp → Prop) (us : List Value) (s' : Shared) : Prop := ∃ vs H', Inv X pins σ H' s' ∧ Vals vs us ∧ Q vs H'
noncomputable def SP (X : Cx) (pins : List (Addr × Obj)) (D : Ends) (f : Flow) (s' : Shared) : Prop :=
  match f with
  | .next => ∃ σ' H', Inv X pins σ' H' s' ∧ D.nx σ' H'
  | .brk => ∃ σ' H', Inv X pins σ' H' s' ∧ D.bk σ' H'
  | .cont => ∃ σ' H', Inv X pins σ' H' s' ∧ D.ct σ' H'
  | .ret u => ∃ v σ' H', Inv X pins σ' H' s' ∧ RelV v u ∧ D.rt v H'
noncomputable def PE (X : Cx) (e : Expr) (t : TE) : Prop :=
  ∀ (pins : List (Addr × Obj)) (s : Shared) (σ : St) (H : Hp) (Q : VK), Inv X pins σ H s → t σ H Q → wpAny (model X.prog X.w) X.A (eval e X.env) (EP X pins σ Q) X.xe s
noncomputable def PT (X : Cx) (e : Expr) (t : TT) : Prop :=
  ∀ (pins : List (Addr × Obj)) (s : Shared) (σ : St) (H : Hp) (Q : Bool → Hp → Prop), Inv X pins σ H s → t σ H Q → wpAny (model X.prog X.w) X.A (isTrue e X.env (eval e X.env)) (TP X pins σ Q) X.xe s
noncomputable def PW (X : Cx) (e : Expr) (t : TT) : Prop :=
  ∀ (whole : Sem Value) (pins : List (Addr × Obj)) (s : Shared) (σ : St) (H : Hp) (Q : Bool → Hp → Prop), Inv X pins σ H s → t σ H Q → wpAny (model X.prog X.w) X.A (isTrue e X.env whole) (TP X pins σ Q) X.xe s
theorem PW.pt {X : Cx} {e : Expr} {t : TT} (h : PW X e t) : PT X e t := h _
noncomputable def PA (X : Cx) (es : List Expr) (t : TA) : Prop :=
  ∀ (pos : Pos) (pins : List (Addr × Obj)) (s : Shared) (σ : St) (H : Hp) (Q : List V → Hp → Prop), Inv X pins σ H s → t σ H Q → wpAny (model X.prog X.w) X.A (spliced (backTo pos (starEach es X.env))) (AP X pins σ Q) X.xe s
noncomputable def PS (X : Cx) (st : Stmt) (t : TS) : Prop :=
  ∀ (pins : List (Addr × Obj)) (s : Shared) (σ : St) (H : Hp) (D : Ends), Inv X pins σ H s → t D σ H → wpAny (model X.prog X.w) X.A (exec st X.env) (SP X pins D) X.xe s
noncomputable def PSs (X : Cx) (st : List Stmt) (t : TS) : Prop :=
  ∀ (pins : List (Addr × Obj)) (s : Shared) (σ : St) (H : Hp) (D : Ends), Inv X pins σ H s → t D σ H → wpAny (model X.prog X.w) X.A (execs st X.env) (SP X pins D) X.xe s
theorem thn {α : Type} {t : Sem α} {Q Q' : α → Shared → Prop} {M : Model} {A : Around} {E : Value → Shared → Prop} {s : Shared} (h : wpAny M A t Q E s) (hQ : ∀ a s, Q a s → Q' a s) : wpAny M A t Q' E s := wpAny_mono h hQ fun _ _ x => x
end L2
namespace L2
open PySem PySem.Spec PyProof.Rows
section
variable {X : Cx}
inductive VarR (i : Nat) (σ : St) (H : Hp) (Q : VK) : Prop
  | mk (v : V) (e : σ[i]? = some (some v)) (q : Q v H)
noncomputable def tVar (i : Nat) : TE := fun σ H Q => VarR i σ H Q
noncomputable def tC (v : V) : TE := fun _ H Q => Q v H
theorem pe_var {i : Nat} {x : Str} {pos : Pos} (hN : X.N[i]? = some x) (hv : Vis X.env.scope x) (hd : (x == ("__debug__" : Str)) = false := by decide) (hcd : (x == ("__classdict__" : Str)) = false := by decide) : PE X (.Name x pos) (tVar i) := by
  intro pins s σ H Q I h
  obtain ⟨v, e, h⟩ := h
  obtain ⟨m, hn, hl⟩ := I.loc
  obtain ⟨u, r, l⟩ := hl i x v hN e hv
  have fin : EP X pins σ Q u s := ⟨v, H, I, r, h⟩
  rcases l with ⟨hk, hm⟩ | ⟨hk, c, hc, hcell⟩
  · exact wpAny_Name (wpAny_loadName_local I.ok.kind hk hn hm fin) hd
  · rcases hk with hk | hk
    · exact wpAny_Name (wpAny_loadName_cell I.ok.kind hk hc hcell fin) hd
    · exact wpAny_Name (wpAny_loadName_free I.ok.kind hk hc hcell fin hcd) hd
theorem pe_int {i j pos} : PE X (.Constant (.int i) j pos) (tC (.int i)) := fun _ _ _ H _ I h => wpAny_Constant_int ⟨.int i, H, I.tok _, ⟨_, rfl⟩, h⟩
theorem pe_bl {b j pos} : PE X (.Constant (.bool b) j pos) (tC (.bl b)) := fun _ _ _ H _ I h => Constant_bool ⟨.bl b, H, I, rfl, h⟩
theorem pe_non {j pos} : PE X (.Constant .none j pos) (tC .non) := fun _ _ _ H _ I h => Constant_none ⟨.non, H, I, rfl, h⟩
noncomputable def Gl (X : Cx) (x : Str) : Prop := X.env.kindOf x = some .globalImplicit
theorem ld_glob {E : Value → Shared → Prop} {pins : List (Addr × Obj)} {s : Shared} {σ : St} {H : Hp} {x : Str} {u : Value} {pos : Pos} {Q : Value → Shared → Prop} (I : Inv X pins σ H s) (hg : Gl X x) (hm : X.mg x = some u) (h : Q u s)
    (hd : (x == ("__debug__" : Str)) = false := by decide) : wpAny (model X.prog X.w) X.A (eval (.Name x pos) X.env) Q E s :=
  Calls.Name_function_global I.ok.kind hg (Calls.loadGlobal_global (by rw [I.ok.glob]; exact I.mod.glob.keeps I.bk) hm h) hd
theorem ld_blt {E : Value → Shared → Prop} {pins : List (Addr × Obj)} {s : Shared} {σ : St} {H : Hp} {x : Str} {u : Value} {pos : Pos} {Q : Value → Shared → Prop} (I : Inv X pins σ H s) (hg : Gl X x) (hm : X.mg x = none) (hv : bootBuiltins x = some u) (h : Q u s)
    (hn : x ≠ "__name__" := by decide) (hd : (x == ("__debug__" : Str)) = false := by decide) : wpAny (model X.prog X.w) X.A (eval (.Name x pos) X.env) Q E s := by
  obtain ⟨mb, h1, h2⟩ := I.mod.blt
  exact Calls.Name_function_global I.ok.kind hg (Calls.loadGlobal_builtin (by rw [I.ok.glob]; exact I.mod.glob.keeps I.bk) hm (by rw [I.ok.blt]; exact h1.keeps I.bk) ((h2 x hn).trans hv) h) hd
theorem pe_glob {x : Str} {v : V} {u : Value} {pos : Pos} (hg : Gl X x) (hm : X.mg x = some u) (r : RelV v u) (hd : (x == ("__debug__" : Str)) = false := by decide) : PE X (.Name x pos) (tC v) :=
  fun _ _ _ H _ I h => ld_glob I hg hm ⟨v, H, I, r, h⟩ hd
variable {a b : Expr} {ta tb : TE} {pos : Pos}
noncomputable def PC (X : Cx) (op : CmpOp) (a b : Expr) (t : TE) : Prop :=
  ∀ (pins : List (Addr × Obj)) (s : Shared) (σ : St) (H : Hp) (Q : VK), Inv X pins σ H s → t σ H Q →
    wpAny (model X.prog X.w) X.A (eval a X.env) (fun v s₁ => wpAny (model X.prog X.w) X.A (eval b X.env) (fun u s₂ => wpAny (model X.prog X.w) X.A (compareOp op v u) (EP X pins σ Q) X.xe s₂) X.xe s₁) X.xe s
inductive BlR (x : V) (H : Hp) (Q : Bool → Hp → Prop) : Prop
  | mk (c : Bool) (e : x = .bl c) (q : Q c H)
noncomputable def tB (t : TE) : TT := fun σ H Q => t σ H fun x H1 => BlR x H1 Q
theorem pt_cmp {op : CmpOp} {t : TE} (h : PC X op a b t) (h1 : behindInMarks op b = false := by first | exact nobehind _ (by decide) (by decide) | rfl) : PT X (.Compare a [op] [b] pos) (tB t) := by
  intro pins s σ H Q I hw
  refine wpAny_isTrue_Compare1 (thn (h pins s σ H _ I hw) fun v s1 h1 => thn h1 fun u s2 h2 => thn h2 fun c s3 ⟨x, H1, I1, r1, q1⟩ => ?_) h1
  obtain ⟨d, rfl, q⟩ := q1
  cases r1
  exact wpAny_truthy_bool ⟨H1, I1, q⟩
theorem pt_val {e : Expr} {t : TE} (h : PE X e t) (he : ∀ whole, isTrue e X.env whole = (do let v ← whole; standAt e.pos; holding [v] (truthy v)) := by intro _; rfl) : PT X e (tB t) := by
  intro pins s σ H Q I hw
  refine isTrue_plain (thn (h pins s σ H _ I hw) fun v s1 ⟨x, H1, I1, r1, q1⟩ => ?_) (he _)
  obtain ⟨d, rfl, q⟩ := q1
  cases r1
  exact wpAny_truthy_bool ⟨H1, I1, q⟩
variable {tA tB' : TT} {rest : List Expr}
noncomputable def tAnd (t u : TT) : TT := fun σ H Q => t σ H fun c H1 => if c = true then u σ H1 Q else Q false H1
noncomputable def tOr (t u : TT) : TT := fun σ H Q => t σ H fun c H1 => if c = true then Q true H1 else u σ H1 Q
noncomputable def tNot (t : TT) : TT := fun σ H Q => t σ H fun c H1 => Q (!c) H1
theorem pw_and1 (ha : PT X a tA) : PW X (.BoolOp .And [a] pos) tA := by
  intro wh pins s σ H Q I h
  refine isTrue_and (thn (ha pins s σ H Q I h) fun c s1 e => ?_)
  cases c with
  | true => exact isTrue_and_nil e
  | false => exact e
theorem pw_or1 (ha : PT X a tA) : PW X (.BoolOp .Or [a] pos) tA := by
  intro wh pins s σ H Q I h
  refine isTrue_or (thn (ha pins s σ H Q I h) fun c s1 e => ?_)
  cases c with
  | false => exact isTrue_or_nil e
  | true => exact e
theorem pw_and (ha : PT X a tA) (hb : PW X (.BoolOp .And (b :: rest) pos) tB') : PW X (.BoolOp .And (a :: b :: rest) pos) (tAnd tA tB') := by
  intro wh pins s σ H Q I h
  refine isTrue_and (thn (ha pins s σ H _ I h) fun c s1 ⟨H1, I1, q1⟩ => ?_)
  cases c with
  | true => exact hb wh pins s1 σ H1 Q I1 q1
  | false => exact ⟨H1, I1, q1⟩
theorem pw_or (ha : PT X a tA) (hb : PW X (.BoolOp .Or (b :: rest) pos) tB') : PW X (.BoolOp .Or (a :: b :: rest) pos) (tOr tA tB') := by
  intro wh pins s σ H Q I h
  refine isTrue_or (thn (ha pins s σ H _ I h) fun c s1 ⟨H1, I1, q1⟩ => ?_)
  cases c with
  | true => exact ⟨H1, I1, q1⟩
  | false => exact hb wh pins s1 σ H1 Q I1 q1
theorem pt_not (ha : PT X a tA) : PT X (.UnaryOp .Not a pos) (tNot tA) := by
  intro pins s σ H Q I h
  exact isTrue_not (ha pins s σ H (fun c H1 => Q (!c) H1) I h)
end
end L2
namespace L2
open PySem PySem.Spec PyProof.Rows
noncomputable def SqL (K : PySem.W.Frag) (H : Hp) (a : Addr) (xs : List V) : Prop :=
  Rd H a (.lst xs) ∨
    ∃ (o : Obj) (its : Array Value) (n : Nat), K.lookup a = some o ∧ o.cls = .type "list" ∧ o.dict = none ∧ o.data = .seq its n ∧ its.size ≤ sizeLine ∧ Vals xs its.toList
noncomputable def SqT (K : PySem.W.Frag) (H : Hp) (a : Addr) (xs : List V) : Prop :=
  Rd H a (.tup xs) ∨
    ∃ (o : Obj) (its : Array Value) (n : Nat), K.lookup a = some o ∧ o.cls = .type "tuple" ∧ o.data = .seq its n ∧ its.size ≤ sizeLine ∧ Vals xs its.toList
noncomputable def absV : Value → Option V
  | .none => some .non
  | .bool b => some (.bl b)
  | .int i _ => some (.int i)
  | .str x _ => some (.str x)
  | .bytes b _ => some (.byt b)
  | .float b _ => some (.flt b)
  | .ref a => some (.ref a)
  | .type n => some (.ty n)
  | _ => none
theorem RelV.abs {x : V} {u : Value} (r : RelV x u) : absV u = some x := by
  cases x with
  | non => cases r; rfl
  | bl _ => cases r; rfl
  | int _ => obtain ⟨t, rfl⟩ := r; rfl
  | str _ => obtain ⟨t, rfl⟩ := r; rfl
  | byt _ => obtain ⟨t, rfl⟩ := r; rfl
  | flt _ => obtain ⟨t, rfl⟩ := r; rfl
  | ref _ => cases r; rfl
  | ty _ => cases r; rfl
theorem RelV.inj {x y : V} {u : Value} (r : RelV x u) (q : RelV y u) : x = y := Option.some.inj (r.abs.symm.trans q.abs)
theorem Vals.inj : ∀ {xs ys : List V} {us : List Value}, Vals xs us → Vals ys us → xs = ys
  | _, _, _, .nil, .nil => rfl
  | _, _, _, .cons r t, .cons r' t' => by rw [r.inj r', Vals.inj t t']
section
variable {X : Cx} {pins : List (Addr × Obj)} {σ : St} {H : Hp} {s : Shared} {a : Addr} {xs ys : List V}
theorem SqL.of {K : PySem.W.Frag} (h : H a = some (.lst xs)) : SqL K H a xs := .inl (.inl h)
theorem SqT.of {K : PySem.W.Frag} (h : H a = some (.tup xs)) : SqT K H a xs := .inl (.inl h)
theorem Inv.list (I : Inv X pins σ H s) (h : SqL X.K H a xs) : ∃ its : List Value, Vals xs its ∧ PlainL s.heap a its.toArray ∧ xs.length ≤ sizeLine := by
  rcases h with h | ⟨o, its, n, hk, hc, hd, hs, hz, r⟩
  · obtain ⟨z, its, n, r, e⟩ := h.ok I.hok
    exact ⟨its, r, ⟨_, n, e, rfl, rfl, rfl⟩, z⟩
  · refine ⟨its.toList, r, ⟨o, n, I.kIn a o hk, hc, hd, by simpa using hs⟩, ?_⟩
    have e := r.length
    simp only [Array.length_toList] at e
    omega
theorem Inv.tuple (I : Inv X pins σ H s) (h : SqT X.K H a xs) : ∃ its : List Value, Vals xs its ∧ IsTup s.heap a its.toArray ∧ xs.length ≤ sizeLine := by
  rcases h with h | ⟨o, its, n, hk, hc, hs, hz, r⟩
  · obtain ⟨z, its, r, p⟩ := h.ok I.hok
    exact ⟨its, r, p, z⟩
  · refine ⟨its.toList, r, ⟨o, I.kIn a o hk, hc, n, by simpa using hs⟩, ?_⟩
    have e := r.length
    simp only [Array.length_toList] at e
    omega
theorem Inv.list_inj (I : Inv X pins σ H s) (h : SqL X.K H a xs) (h' : SqL X.K H a ys) : xs = ys := by
  obtain ⟨its, r, ⟨o, n, e, _, _, d⟩, _⟩ := I.list h
  obtain ⟨its', r', ⟨o', n', e', _, _, d'⟩, _⟩ := I.list h'
  rw [e] at e'; cases e'
  rw [d] at d'
  injection d' with d1 _
  have : its = its' := by simpa using congrArg Array.toList d1
  subst this
  exact r.inj r'
theorem Inv.tuple_inj (I : Inv X pins σ H s) (h : SqT X.K H a xs) (h' : SqT X.K H a ys) : xs = ys := by
  obtain ⟨its, r, ⟨o, e, _, n, d⟩, _⟩ := I.tuple h
  obtain ⟨its', r', ⟨o', e', _, n', d'⟩, _⟩ := I.tuple h'
  rw [e] at e'; cases e'
  rw [d] at d'
  injection d' with d1 _
  have : its = its' := by simpa using congrArg Array.toList d1
  subst this
  exact r.inj r'
end
noncomputable abbrev Cx.wish (X : Cx) (E : Value → Shared → Prop) : Cx := { X with xe := E }
noncomputable abbrev Cx.nox (X : Cx) : Cx := X.wish fun _ _ => False
theorem Cx.Ok.wish {X : Cx} (ok : X.Ok) (E : Value → Shared → Prop) : (X.wish E).Ok :=
  ⟨ok.mod, ok.kind, ok.glob, ok.blt, ok.above, ok.inj, ok.has, ok.cab, ok.hd, ok.frames, ok.stk, ok.exf, ok.bs, ok.bsz, ok.noex, ok.exfs, ok.funs, ok.frf⟩
theorem Cx.Ok.unwish {X : Cx} {E : Value → Shared → Prop} (ok : (X.wish E).Ok) : X.Ok :=
  ⟨ok.mod, ok.kind, ok.glob, ok.blt, ok.above, ok.inj, ok.has, ok.cab, ok.hd, ok.frames, ok.stk, ok.exf, ok.bs, ok.bsz, ok.noex, ok.exfs, ok.funs, ok.frf⟩
section
variable {X : Cx} {pins : List (Addr × Obj)} {σ : St} {H : Hp} {s : Shared} {E : Value → Shared → Prop}
theorem Inv.wish (I : Inv X pins σ H s) (E : Value → Shared → Prop) : Inv (X.wish E) pins σ H s := ⟨I.ok.wish E, I.os, I.bare, I.base, I.loc, I.cell, I.free, I.freeC, I.pin, I.hok, I.len⟩
theorem Inv.unwish (I : Inv (X.wish E) pins σ H s) : Inv X pins σ H s := ⟨I.ok.unwish, I.os, I.bare, I.base, I.loc, I.cell, I.free, I.freeC, I.pin, I.hok, I.len⟩
theorem SP.unwish {D : Ends} {f : Flow} {s' : Shared} (h : SP (X.wish E) pins D f s') : SP X pins D f s' := by
  cases f with
  | next => obtain ⟨σ', H', I, q⟩ := h; exact ⟨σ', H', I.unwish, q⟩
  | brk => obtain ⟨σ', H', I, q⟩ := h; exact ⟨σ', H', I.unwish, q⟩
  | cont => obtain ⟨σ', H', I, q⟩ := h; exact ⟨σ', H', I.unwish, q⟩
  | ret u => obtain ⟨v, σ', H', I, r, q⟩ := h; exact ⟨v, σ', H', I.unwish, r, q⟩
theorem PSs.nox {st : List Stmt} {t : TS} (h : PSs X.nox st t) : PSs X st t := fun pins s σ H D I hw =>
  wpAny_mono (h pins s σ H D (I.wish _) hw) (fun _ _ q => q.unwish) fun _ _ z => False.elim z
end
section
variable {X : Cx} {st : Stmt} {rest : List Stmt} {t u : TS} {e : Expr} {te : TE} {pos : Pos}
noncomputable def tNext : TS := fun D σ H => D.nx σ H
noncomputable def tSeq (t u : TS) : TS := fun D σ H => t { D with nx := u D } σ H
theorem pss_nil : PSs X [] tNext := fun _ _ σ H _ I h => wpAny_execs_nil ⟨σ, H, I, h⟩
theorem pss_cons (h1 : PS X st t) (h2 : PSs X rest u) : PSs X (st :: rest) (tSeq t u) := by
  intro pins s σ H D I h
  refine wpAny_execs_cons (thn (h1 pins s σ H { D with nx := u D } I h) fun f s1 q => ?_)
  cases f with
  | next =>
    obtain ⟨σ', H', I', q⟩ := q
    exact h2 pins s1 σ' H' D I' q
  | ret v => exact q
  | brk => exact q
  | cont => exact q
theorem pss_one (h1 : PS X st t) : PSs X [st] t := by
  intro pins s σ H D I h
  refine wpAny_execs_cons (thn (h1 pins s σ H D I h) fun f s1 q => ?_)
  cases f with
  | next => exact wpAny_execs_nil q
  | ret v => exact q
  | brk => exact q
  | cont => exact q
theorem Inv.quiet {pins : List (Addr × Obj)} {σ : St} {H : Hp} {s : Shared} (I : Inv X pins σ H s) : interactive X.env = false := by simp [interactive, I.ok.kind]
noncomputable def tDrop (te : TE) : TS := fun D σ H => te σ H fun _ H1 => D.nx σ H1
theorem ps_expr (he : PE X e te) (hs : swapsWith e none pos.line X.env = pure false := by rfl) : PS X (.Expr e pos) (tDrop te) := by
  intro pins s σ H D I h
  exact wpAny_Expr_any (thn (he pins s σ H _ I h) fun v s1 ⟨x, H1, I1, r1, q1⟩ => ⟨σ, H1, I1, q1⟩) I.quiet hs
noncomputable def tRet (te : TE) : TS := fun D σ H => te σ H D.rt
theorem ps_ret (he : PE X e te) : PS X (.Return (some e) pos) (tRet te) := by
  intro pins s σ H D I h
  exact wpAny_Return_some (thn (he pins s σ H _ I h) fun v s1 ⟨x, H1, I1, r1, q1⟩ => ⟨x, σ, H1, I1, r1, q1⟩)
noncomputable def tIfS (c : TT) (t u : TS) : TS := fun D σ H => c σ H fun b H1 => if b = true then t D σ H1 else u D σ H1
theorem ps_if {c : Expr} {a b : List Stmt} {tc : TT} (hc : PT X c tc) (ha : PSs X a t) (hb : PSs X b u) : PS X (.If c a b pos) (tIfS tc t u) := by
  intro pins s σ H D I h
  refine wpAny_If (thn (hc pins s σ H _ I h) fun d s1 ⟨H1, I1, q1⟩ => ?_)
  cases d with
  | true => exact ha pins s1 σ H1 D I1 q1
  | false => exact hb pins s1 σ H1 D I1 q1
end
noncomputable abbrev TG := V → St → Hp → (St → Hp → Prop) → Prop
noncomputable abbrev TGs := List V → St → Hp → (St → Hp → Prop) → Prop
noncomputable def PG (X : Cx) (target : Expr) (t : TG) : Prop :=
  ∀ (pins : List (Addr × Obj)) (s : Shared) (σ : St) (H : Hp) (v : V) (u : Value) (Q : St → Hp → Prop), Inv X pins σ H s → RelV v u → t v σ H Q →
    wpAny (model X.prog X.w) X.A (assign target X.env u) (fun _ s' => ∃ σ' H', Inv X pins σ' H' s' ∧ Q σ' H') X.xe s
noncomputable def PGs (X : Cx) (ts : List Expr) (t : TGs) : Prop :=
  ∀ (pins : List (Addr × Obj)) (s : Shared) (σ : St) (H : Hp) (vs : List V) (us : List Value) (Q : St → Hp → Prop), Inv X pins σ H s → Vals vs us → t vs σ H Q →
    wpAny (model X.prog X.w) X.A (assignInOrder ((assignEach ts X.env).map (·.2)) us) (fun _ s' => ∃ σ' H', Inv X pins σ' H' s' ∧ Q σ' H') X.xe s
section
variable {X : Cx} {pos : Pos}
noncomputable def gName (i : Nat) : TG := fun v σ H Q => Q (σ.set i (some v)) H
theorem pg_name {i : Nat} {x : Str} (hN : X.N.Nodup) (hi : X.N[i]? = some x) (hx : Loc X.env.scope x) (hf : X.fn x = true ∨ X.env.scope.names.lookup x = some .local := by first | exact .inl rfl | exact .inr rfl | assumption) : PG X (.Name x pos) (gName i) := by
  intro pins s σ H v u Q I r h
  exact wpAny_assign_Name (store_ok I hN hi hx r (fun s' I' => ⟨_, H, I', h⟩) hf)
noncomputable def gNil : TGs := fun vs σ H Q => vs = [] ∧ Q σ H
inductive GConsR (vs : List V) (R : V → List V → Prop) : Prop
  | mk (v : V) (r : List V) (e : vs = v :: r) (q : R v r)
noncomputable def gCons (t : TG) (u : TGs) : TGs := fun vs σ H Q => GConsR vs fun v r => t v σ H fun σ' H' => u r σ' H' Q
theorem pgs_nil : PGs X [] gNil := by
  intro pins s σ H vs us Q I r h
  obtain ⟨e, h⟩ := h
  subst e
  cases r
  exact assignInOrder_nil ⟨σ, H, I, h⟩
theorem pgs_cons {e : Expr} {es : List Expr} {t : TG} {u : TGs} (h1 : PG X e t) (h2 : PGs X es u)
    (hs : (assignEach (e :: es) X.env).map (·.2) = assign e X.env :: (assignEach es X.env).map (·.2) := by rfl) : PGs X (e :: es) (gCons t u) := by
  intro pins s σ H vs us Q I r h
  obtain ⟨v, vr, e1, h⟩ := h
  subst e1
  cases r with
  | cons r rr =>
    rw [hs]
    refine assignInOrder_cons (thn (h1 pins s σ H _ _ _ I r h) fun _ s1 ⟨σ1, H1, I1, q1⟩ => ?_)
    exact h2 pins s1 σ1 H1 _ _ Q I1 rr q1
inductive GTupR (K : PySem.W.Frag) (n : Nat) (v : V) (H : Hp) (R : List V → Prop) : Prop
  | mk (a : Addr) (xs : List V) (e : v = .ref a) (hq : SqT K H a xs) (hl : xs.length = n) (q : R xs)
noncomputable def gTup (K : PySem.W.Frag) (n : Nat) (t : TGs) : TG := fun v σ H Q => GTupR K n v H fun xs => t xs σ H Q
theorem pg_tup {es : List Expr} {k : Nat} {t : TGs} {n : Nat} (hc : X.calm = true) (h : PGs X es t)
    (hn : (assignEach es X.env).length = n := by rfl) (hst : (assignEach es X.env).findIdx? (·.1) = none := by rfl) : PG X (.Tuple es k pos) (gTup X.K n t) := by
  intro pins s σ H v u Q I r hw
  obtain ⟨a, xs, e1, hq, hl, hw⟩ := hw
  subst e1
  cases r
  obtain ⟨its, rv, ht, hz⟩ := I.tuple hq
  refine assign_Tuple_tuple (I.ok.hd hc) ht (by simp [hn, ← hl, rv.length]) hst fun h' hx => ?_
  have I1 : Inv X pins σ H { s with heap := h' } := I.kept (t' := s.toks) fun b o e => hx b o (Nat.ne_of_lt (Heap.lt_size e)) e
  exact h pins _ σ H xs _ Q I1 (by simpa using rv) hw
noncomputable def tAsg (te : TE) (g : TG) : TS := fun D σ H => te σ H fun x H1 => g x σ H1 D.nx
theorem ps_set {i : Nat} {x : Str} {e : Expr} {te : TE} {pos' : Pos} (hN : X.N.Nodup) (hi : X.N[i]? = some x) (hx : Loc X.env.scope x) (he : PE X e te) (hs : swapsWith e (some (.Name x pos')) pos.line X.env = pure false := by rfl) (hf : X.fn x = true ∨ X.env.scope.names.lookup x = some .local := by first | exact .inl rfl | exact .inr rfl | assumption) :
    PS X (.Assign [.Name x pos'] e pos) (tAsg te (gName i)) := by
  intro pins s σ H D I h
  refine wpAny_Assign_Name (thn (he pins s σ H _ I h) fun v s1 ⟨y, H1, I1, r1, q1⟩ => ?_) hs
  exact store_ok I1 hN hi hx r1 (fun s2 I2 => ⟨_, H1, I2, q1⟩) hf
end
section
variable {X : Cx} {pos : Pos}
noncomputable def tWhile (c : TT) (tb : TS) : TS := fun D σ H => ∃ W : Nat → St → Hp → Prop, (∃ m, W m σ H) ∧ ∀ m σ H, W m σ H →
  c σ H fun b H1 => if b = true then ∃ N : St → Hp → Prop, (∀ σ' H', N σ' H' → ∃ m', m' < m ∧ W m' σ' H') ∧ tb { D with nx := N, ct := N, bk := D.nx } σ H1 else D.nx σ H1
theorem ps_while {c : Expr} {body : List Stmt} {tc : TT} {tb : TS} (hp : PassesOwn (model X.prog X.w) X.A X.env X.xe) (hc : PT X c tc) (hb : PSs X body tb) : PS X (.While c body [] pos) (tWhile tc tb) := by
  intro pins s σ H D I h
  obtain ⟨W, ⟨m0, w0⟩, turn⟩ := h
  refine wpAny_While (codeAny_whileLoop (fun n s' => ∃ σ' H', Inv X pins σ' H' s' ∧ W n σ' H') ?_ m0 ⟨σ, H, I, w0⟩)
  rintro n s1 ⟨σ1, H1, I1, w1⟩
  refine wpAny_passesOwn hp (thn (hc pins s1 σ1 H1 _ I1 (turn n σ1 H1 w1)) fun b s2 ⟨H2, I2, q2⟩ => ?_)
  cases b with
  | true =>
    obtain ⟨N, hN, q2⟩ := q2
    rw [if_pos rfl]
    refine wpAny_passesOwn hp (thn (hb pins s2 σ1 H2 _ I2 q2) fun f s3 q3 => ?_)
    cases f with
    | next =>
      obtain ⟨σ3, H3, I3, n3⟩ := q3
      obtain ⟨m', hm, w3⟩ := hN σ3 H3 n3
      exact ⟨m', hm, σ3, H3, I3, w3⟩
    | cont =>
      obtain ⟨σ3, H3, I3, n3⟩ := q3
      obtain ⟨m', hm, w3⟩ := hN σ3 H3 n3
      exact ⟨m', hm, σ3, H3, I3, w3⟩
    | brk => exact q3
    | ret v => exact q3
  | false =>
    rw [if_neg Bool.false_ne_true]
    exact wpAny_execs_nil ⟨σ1, H2, I2, q2⟩
end
structure It where
  go : Nat → Hp → Prop
  yld : Nat → Hp → V → Hp → Prop
  stop : Nat → Hp → Prop
noncomputable def FpOk (X : Cx) (pins : List (Addr × Obj)) (H : Hp) (b : Addr) : Prop :=
  H b = none ∧ b ≠ X.env.locals ∧ b ∉ X.fs ∧ (b ∈ X.ex ∨ X.s_0.heap.objs.size ≤ b) ∧ (∀ x c, X.env.cells.lookup x = some c → c ≠ b) ∧ ∀ p ∈ X.pn ++ pins, p.1 ≠ b
theorem Inv.fpOk {X : Cx} {pins : List (Addr × Obj)} {σ : St} {H H' : Hp} {s : Shared} {b : Addr} (I : Inv X pins σ H s) (hb : s.heap.objs.size ≤ b) (hn : H' b = none) : FpOk X pins H' b := by
  refine ⟨hn, Nat.ne_of_gt (Nat.lt_of_lt_of_le I.lt hb), I.nofs hb, .inr (Nat.le_trans I.sz hb), fun x c e z => ?_, fun p hp z => ?_⟩
  · obtain ⟨v, q⟩ := I.cell x c e
    exact absurd (Nat.lt_of_lt_of_le q.lt (by rw [z]; exact hb)) (Nat.lt_irrefl _)
  · exact absurd (Nat.lt_of_lt_of_le (Heap.lt_size (I.pin p hp).1) (by rw [z]; exact hb)) (Nat.lt_irrefl _)
structure Turn (P : Program) (w : World) (K : PySem.W.Frag) (tg : Expr) (J : It) (fp : List Addr) (it : Addr) (tn : Nat → Heap → Prop) : Prop where
  mem : it ∈ fp
  obj : ∀ i h, tn i h → ∀ b ∈ fp, ∃ o, h.get? b = some o ∧ ∀ v, o.data ≠ .cell v
  keep : ∀ i h h', tn i h → (∀ b ∈ fp, ∀ o, h.get? b = some o → h'.get? b = some o) → tn i h'
  item : ∀ (X : Cx), X.prog = P → X.w = w → X.K = K → X.calm = true → ∀ (i : Nat) (pins : List (Addr × Obj)) (s : Shared) (σ : St) (H : Hp) (E : Value → Shared → Prop), Inv X pins σ H s → (∀ b ∈ fp, FpOk X pins H b) → tn i s.heap → J.go i H →
    wpAny (model P w) X.A (pyNext (.ref it)) (fun r s1 => ∃ u, r = some u ∧
      wpAny (model P w) X.A (letOwnedTupleGo tg (.ref it) u) (fun _ s2 => ∃ x H', Inv X pins σ H' s2 ∧ RelV x u ∧ J.yld i H x H' ∧ tn (i + 1) s2.heap ∧ ∀ b ∈ fp, H' b = none) E s1) E s
  done : ∀ (X : Cx), X.prog = P → X.w = w → X.K = K → X.calm = true → ∀ (i : Nat) (pins : List (Addr × Obj)) (s : Shared) (σ : St) (H : Hp) (E : Value → Shared → Prop), Inv X pins σ H s → (∀ b ∈ fp, FpOk X pins H b) → tn i s.heap → J.stop i H →
    wpAny (model P w) X.A (pyNext (.ref it)) (fun r s1 => r = none ∧ Inv X pins σ H s1) E s
  self : ∀ (A : Around) (i : Nat) (s : Shared) (Q : Value → Shared → Prop) (E : Value → Shared → Prop), tn i s.heap → Q (.ref it) s → wpAny (model P w) A (pyIter (.ref it)) Q E s
noncomputable abbrev TI := St → Hp → (It → Hp → Prop) → Prop
noncomputable def PIE (X : Cx) (pins : List (Addr × Obj)) (σ : St) (tg : Expr) (R : It → Hp → Prop) (itv : Value) (s2 : Shared) : Prop :=
  ∃ (it : Addr) (fp : List Addr) (tn : Nat → Heap → Prop) (J : It) (H' : Hp), itv = .ref it ∧ Inv X pins σ H' s2 ∧ Turn X.prog X.w X.K tg J fp it tn ∧ tn 0 s2.heap ∧ (∀ b ∈ fp, FpOk X pins H' b) ∧ R J H'
noncomputable def PI (X : Cx) (tg iter : Expr) (wi : TI) : Prop :=
  ∀ (pins : List (Addr × Obj)) (s : Shared) (σ : St) (H : Hp) (R : It → Hp → Prop), Inv X pins σ H s → wi σ H R →
    wpAny (model X.prog X.w) X.A (eval iter X.env) (fun v s1 => wpAny (model X.prog X.w) X.A (pyIter v) (PIE X pins σ tg R) X.xe s1) X.xe s
theorem go_of {M : Model} {A : Around} {E : Value → Shared → Prop} {s : Shared} {tg : Expr} {it : Addr} {u : Value} {o : Obj} {n : String} {vs : Array Value} {Q : Unit → Shared → Prop} (ho : s.heap.get? it = some o) (hc : o.cls = .type n) (hd : o.data = .fields vs)
    (hn : ["enumerate", "zip", "dict_itemiterator", "dict_reverseitemiterator", "odict_iterator", "itertools.zip_longest", "itertools.pairwise"].contains n = false) (hQ : Q () s) : wpAny M A (letOwnedTupleGo tg (.ref it) u) Q E s := by
  unfold letOwnedTupleGo
  cases tg <;> first
    | exact wpAny_pure hQ
    | (cases u <;> first
        | exact wpAny_pure hQ
        | (refine wpAny_bind (wpAny_load ho ?_)
           rw [hc, hd]
           show wpAny M A (if (["enumerate", "zip", "dict_itemiterator", "dict_reverseitemiterator", "odict_iterator", "itertools.zip_longest", "itertools.pairwise"].contains n && vs[0]? == some (rawInt _)) = true then _ else _) Q E s
           rw [if_neg (by intro h; rw [hn, Bool.false_and] at h; cases h)]
           exact wpAny_pure hQ))
noncomputable def Itl (K : PySem.W.Frag) (a : Addr) : It :=
  ⟨fun i H => ∃ xs x, SqL K H a xs ∧ xs[i]? = some x, fun i H x H' => H' = H ∧ ∀ xs, SqL K H a xs → xs[i]? = some x, fun i H => ∃ xs, SqL K H a xs ∧ xs.length ≤ i⟩
noncomputable def Itt (K : PySem.W.Frag) (a : Addr) : It :=
  ⟨fun i H => ∃ xs x, SqT K H a xs ∧ xs[i]? = some x, fun i H x H' => H' = H ∧ ∀ xs, SqT K H a xs → xs[i]? = some x, fun i H => ∃ xs, SqT K H a xs ∧ xs.length ≤ i⟩
noncomputable def Itr (lo : Int) (n : Nat) : It := ⟨fun i _ => i < n, fun i H x H' => H' = H ∧ x = .int (lo + i), fun i _ => n ≤ i⟩
theorem turn_list {P : Program} {w : World} {K : PySem.W.Frag} {tg : Expr} (a it : Addr) : Turn P w K tg (Itl K a) [it] it (fun i h => h.IsListIter it a i) where
  mem := by simp
  obj := fun i h st b hb => by
    have e : b = it := by simpa using hb
    subst e
    obtain ⟨o, e, c, d⟩ := st
    exact ⟨o, e, fun v z => by rw [d] at z; cases z⟩
  keep := fun i h h' st k => st.at fun o e => k it (by simp) o e
  item := by
    intro X hP hw hK hc i pins s σ H E I hf st hg
    subst hP hw hK
    obtain ⟨xs, x, hq, hx⟩ := hg
    obtain ⟨its, rv, p, hz⟩ := I.list hq
    obtain ⟨u, hu, ru⟩ := rv.get hx
    obtain ⟨f0, f1, f2, f3, f4, f5⟩ := hf it (by simp)
    refine wpAny_pyNext_list_item st p.isList (x := u) (by simpa using hu) fun h' st' sb => ?_
    have I1 : Inv X pins σ H { s with heap := h' } := I.turned (t' := s.toks) (fun b o hb e => (sb.2 b hb).trans e) f0 f1 f3 f4 f5
    obtain ⟨o, e, c, d⟩ := id st'
    exact ⟨u, rfl, go_of (s := { s with heap := h' }) e c d (by decide) ⟨x, H, I1, ru, ⟨rfl, fun ys hy => by rw [I.list_inj hy hq]; exact hx⟩, st', fun b hb => (hf b hb).1⟩⟩
  done := by
    intro X hP hw hK hc i pins s σ H E I hf st hg
    subst hP hw hK
    obtain ⟨xs, hq, hx⟩ := hg
    obtain ⟨its, rv, p, hz⟩ := I.list hq
    obtain ⟨f0, f1, f2, f3, f4, f5⟩ := hf it (by simp)
    have hl := rv.length
    exact wpAny_pyNext_list_end (I.ok.hd hc) st p.isList (by simp; omega) fun h' eb => ⟨rfl, I.turned (t' := s.toks) (fun b o hb e => eb b o hb e) f0 f1 f3 f4 f5⟩
  self := fun _ _ _ _ _ st h => wpAny_pyIter_listiter st h
theorem turn_tuple {P : Program} {w : World} {K : PySem.W.Frag} {tg : Expr} (a it : Addr) : Turn P w K tg (Itt K a) [it] it (fun i h => h.IsTupleIter it a i) where
  mem := by simp
  obj := fun i h st b hb => by
    have e : b = it := by simpa using hb
    subst e
    obtain ⟨o, e, c, d⟩ := st
    exact ⟨o, e, fun v z => by rw [d] at z; cases z⟩
  keep := fun i h h' st k => st.at fun o e => k it (by simp) o e
  item := by
    intro X hP hw hK hc i pins s σ H E I hf st hg
    subst hP hw hK
    obtain ⟨xs, x, hq, hx⟩ := hg
    obtain ⟨its, rv, p, hz⟩ := I.tuple hq
    obtain ⟨u, hu, ru⟩ := rv.get hx
    obtain ⟨f0, f1, f2, f3, f4, f5⟩ := hf it (by simp)
    refine wpAny_pyNext_tuple_item st (show s.heap.IsTuple a its.toArray from p) (x := u) (by simpa using hu) fun h' st' sb => ?_
    have I1 : Inv X pins σ H { s with heap := h' } := I.turned (t' := s.toks) (fun b o hb e => (sb.2 b hb).trans e) f0 f1 f3 f4 f5
    obtain ⟨o, e, c, d⟩ := id st'
    exact ⟨u, rfl, go_of (s := { s with heap := h' }) e c d (by decide) ⟨x, H, I1, ru, ⟨rfl, fun ys hy => by rw [I.tuple_inj hy hq]; exact hx⟩, st', fun b hb => (hf b hb).1⟩⟩
  done := by
    intro X hP hw hK hc i pins s σ H E I hf st hg
    subst hP hw hK
    obtain ⟨xs, hq, hx⟩ := hg
    obtain ⟨its, rv, p, hz⟩ := I.tuple hq
    obtain ⟨f0, f1, f2, f3, f4, f5⟩ := hf it (by simp)
    have hl := rv.length
    exact wpAny_pyNext_tuple_end (I.ok.hd hc) st (show s.heap.IsTuple a its.toArray from p) (by simp; omega) fun h' eb => ⟨rfl, I.turned (t' := s.toks) (fun b o hb e => eb b o hb e) f0 f1 f3 f4 f5⟩
  self := fun _ _ _ _ _ st h => wpAny_pyIter_tupleiter st h
theorem turn_range {P : Program} {w : World} {K : PySem.W.Frag} {tg : Expr} (it : Addr) (lo : Int) (n : Nat) : Turn P w K tg (Itr lo n) [it] it (fun i h => IsRangeIter h it (lo + (i : Nat) * 1) ((n : Int) - (i : Nat)) 1) where
  mem := by simp
  obj := fun i h st b hb => by
    have e : b = it := by simpa using hb
    subst e
    exact ⟨_, st, fun v z => by
      have z' : Data.fields _ = Data.cell v := z
      cases z'⟩
  keep := fun i h h' st k => k it (by simp) _ st
  item := by
    intro X hP hw hK hc i pins s σ H E I hf st hg
    subst hP hw hK
    obtain ⟨f0, f1, f2, f3, f4, f5⟩ := hf it (by simp)
    have W := Walks.range (prog := X.prog) (w := X.w) (I.ok.hd hc) it lo 1 n
    refine W.item i s _ _ hg st fun v h' tk hv st' kk => ?_
    obtain ⟨t, rfl⟩ := hv
    have I1 : Inv X pins σ H { s with heap := h', toks := tk } := I.turned (fun b o hb e => kk b o (by simpa using hb) e) f0 f1 f3 f4 f5
    refine ⟨_, rfl, go_of (s := { s with heap := h', toks := tk }) (n := "range_iterator") st' rfl rfl (by decide) ⟨.int (lo + i), H, I1, ⟨t, ?_⟩, ⟨rfl, rfl⟩, st', fun b hb => (hf b hb).1⟩⟩
    rw [Int.mul_one]
  done := by
    intro X hP hw hK hc i pins s σ H E I hf st hg
    subst hP hw hK
    obtain ⟨f0, f1, f2, f3, f4, f5⟩ := hf it (by simp)
    exact wpAny_pyNext_range_end (I.ok.hd hc) st (by have : n ≤ i := hg; omega) fun h' eb => ⟨rfl, I.turned (t' := s.toks) (fun b o hb e => eb b o hb e) f0 f1 f3 f4 f5⟩
  self := fun _ _ _ _ _ st h => wpAny_pyIter_rangeiter st h
end L2
namespace L2
open PySem PySem.Spec PyProof.Rows
section
variable {X : Cx} {tg : Expr}
inductive IListR (K : PySem.W.Frag) (x : V) (H1 : Hp) (R : It → Hp → Prop) : Prop
  | mk (a : Addr) (e : x = .ref a) (h : ∃ xs, SqL K H1 a xs) (q : R (Itl K a) H1)
noncomputable def iList (K : PySem.W.Frag) (tl : TE) : TI := fun σ H R => tl σ H fun x H1 => IListR K x H1 R
noncomputable def iTup (K : PySem.W.Frag) (tl : TE) : TI := fun σ H R => tl σ H fun x H1 => ∃ a, x = .ref a ∧ (∃ xs, SqT K H1 a xs) ∧ R (Itt K a) H1
theorem pi_list {l : Expr} {tl : TE} (hl : PE X l tl) : PI X tg l (iList X.K tl) := by
  intro pins s σ H R I h
  refine thn (hl pins s σ H _ I h) fun v s1 ⟨x, H1, I1, r1, q1⟩ => ?_
  obtain ⟨a, e, ⟨xs, hq⟩, q⟩ := q1
  subst e
  cases r1
  obtain ⟨its, rv, p, hz⟩ := I1.list hq
  refine wpAny_pyIter_list p.isList ?_
  refine ⟨s1.heap.objs.size, [s1.heap.objs.size], _, _, H1, rfl, I1.kept (t' := s1.toks) fun b o e => Heap.get?_push_of_some _ e, turn_list a _, ⟨_, Heap.get?_push_size _ rfl, rfl, rfl⟩, fun b hb => ?_, q⟩
  have e : b = s1.heap.objs.size := by simpa using hb
  subst e
  exact I1.fpOk (Nat.le_refl _) (I1.hok.fresh (Nat.le_refl _))
theorem pi_tup {l : Expr} {tl : TE} (hl : PE X l tl) : PI X tg l (iTup X.K tl) := by
  intro pins s σ H R I h
  refine thn (hl pins s σ H _ I h) fun v s1 ⟨x, H1, I1, r1, q1⟩ => ?_
  obtain ⟨a, e, ⟨xs, hq⟩, q⟩ := q1
  subst e
  cases r1
  obtain ⟨its, rv, p, hz⟩ := I1.tuple hq
  refine wpAny_pyIter_tuple (show s1.heap.IsTuple a its.toArray from p) ?_
  refine ⟨s1.heap.objs.size, [s1.heap.objs.size], _, _, H1, rfl, I1.kept (t' := s1.toks) fun b o e => Heap.get?_push_of_some _ e, turn_tuple a _, ⟨_, Heap.get?_push_size _ rfl, rfl, rfl⟩, fun b hb => ?_, q⟩
  have e : b = s1.heap.objs.size := by simpa using hb
  subst e
  exact I1.fpOk (Nat.le_refl _) (I1.hok.fresh (Nat.le_refl _))
theorem range_it {pins : List (Addr × Obj)} {σ : St} {H : Hp} {s : Shared} {R : It → Hp → Prop} {E : Value → Shared → Prop} {lo hi : Int} {t u v : Tok} {tk : Nat} (I : Inv X pins σ H s) (h1 : -(2 ^ 62) ≤ lo) (h2 : lo < 2 ^ 62) (h3 : -(2 ^ 62) ≤ hi) (h4 : hi < 2 ^ 62)
    (q : R (Itr lo (hi - lo).toNat) H) : wpAny (model X.prog X.w) X.A (pyIter (.ref s.heap.objs.size)) (PIE X pins σ tg R) E { s with heap := s.heap.push { cls := .type "range", data := .fields #[.int lo t, .int hi u, .int 1 v] }, toks := tk } := by
  refine wpAny_pyIter_range (IsRange.new ..) (small_one h1 h2 h3 h4) ?_
  have I1 : Inv X pins σ H { s with heap := s.heap.push { cls := .type "range", data := .fields #[.int lo t, .int hi u, .int 1 v] }, toks := tk } := I.kept fun b o e => Heap.get?_push_of_some _ e
  refine ⟨(s.heap.push { cls := .type "range", data := .fields #[.int lo t, .int hi u, .int 1 v] }).objs.size, [(s.heap.push { cls := .type "range", data := .fields #[.int lo t, .int hi u, .int 1 v] }).objs.size], _, _, H, rfl,
    I1.kept (t' := tk) fun b o e => Heap.get?_push_of_some _ e, turn_range _ lo (hi - lo).toNat, ?_, fun b hb => ?_, q⟩
  · have e1 : lo + ((0 : Nat) : Int) * 1 = lo := by simp
    have e2 : (((hi - lo).toNat : Nat) : Int) - ((0 : Nat) : Int) = Builtin.Range.rangeSize lo hi 1 := by rw [rangeSize_one]; split <;> omega
    show IsRangeIter _ _ (lo + ((0 : Nat) : Int) * 1) ((((hi - lo).toNat : Nat) : Int) - ((0 : Nat) : Int)) 1
    rw [e1, e2]
    exact Heap.get?_push_size _ rfl
  · have e : b = (s.heap.push { cls := .type "range", data := .fields #[.int lo t, .int hi u, .int 1 v] }).objs.size := by simpa using hb
    subst e
    exact I1.fpOk (Nat.le_refl _) (I1.hok.fresh (Nat.le_refl _))
noncomputable def iRng1 (ta : TA) : TI := fun σ H R => ta σ H fun vs H1 => ∃ j : Int, vs = [.int j] ∧ -(2 ^ 62) ≤ j ∧ j < 2 ^ 62 ∧ R (Itr 0 j.toNat) H1
theorem pi_range1 {a : Expr} {ta : TA} {p pos : Pos} (hg : Gl X "range") (hm : X.mg "range" = none) (ha : PA X [a] ta) (hs : starEach [a] X.env = [(false, eval a X.env)] := by rfl) : PI X tg (.Call (.Name "range" p) [a] [] pos) (iRng1 ta) := by
  intro pins s σ H R I h
  refine Call_ (ld_blt I hg hm boot_range (PyProof.Rows.callWith_type1 (thn (ha pos pins s σ H _ I h) fun us s1 ⟨vs, H1, I1, r1, q1⟩ => ?_) hs rfl))
  obtain ⟨j, e, q1, q2, q⟩ := q1
  subst e
  cases r1 with
  | cons r rr =>
    cases rr
    obtain ⟨t, rfl⟩ := r
    exact call_range_1 (range_it I1 (by omega) (by omega) q1 q2 (by simpa using q))
noncomputable def tFor (wi : TI) (g : TG) (tb : TS) : TS := fun D σ H => wi σ H fun J H1 => ∃ W : Nat → Nat → St → Hp → Prop, (∃ m, W 0 m σ H1) ∧ ∀ i m σ H, W i m σ H →
  (J.stop i H ∧ D.nx σ H) ∨ (J.go i H ∧ ∃ N : St → Hp → Prop, (∀ σ' H', N σ' H' → ∃ m', m' < m ∧ W (i + 1) m' σ' H') ∧ ∀ x H', J.yld i H x H' → g x σ H' fun σ2 H2 => tb { D with nx := N, ct := N, bk := D.nx } σ2 H2)
noncomputable def pinsAt (fp : List Addr) (h : Heap) : List (Addr × Obj) := fp.filterMap fun b => (h.get? b).map fun o => (b, o)
theorem mem_pinsAt {fp : List Addr} {h : Heap} {b : Addr} {o : Obj} (hb : b ∈ fp) (e : h.get? b = some o) : (b, o) ∈ pinsAt fp h := List.mem_filterMap.mpr ⟨b, hb, by rw [e]; rfl⟩
theorem of_pinsAt {fp : List Addr} {h : Heap} {p : Addr × Obj} (hp : p ∈ pinsAt fp h) : p.1 ∈ fp ∧ h.get? p.1 = some p.2 := by
  obtain ⟨b, hb, e⟩ := List.mem_filterMap.mp hp
  cases q : h.get? b with
  | none => rw [q] at e; cases e
  | some o =>
    rw [q] at e
    have e' : (b, o) = p := Option.some.inj e
    subst e'
    exact ⟨hb, q⟩
theorem Inv.pinned {pins : List (Addr × Obj)} {σ : St} {H : Hp} {s : Shared} {fp : List Addr} (I : Inv X pins σ H s) (hf : ∀ b ∈ fp, FpOk X pins H b) (ho : ∀ b ∈ fp, ∃ o, s.heap.get? b = some o ∧ ∀ v, o.data ≠ .cell v) : Inv X (pins ++ pinsAt fp s.heap) σ H s :=
  I.pins_of fun p hp => (List.mem_append.mp hp).elim (fun z => I.pin p (List.mem_append_right _ z)) fun z => by
    obtain ⟨hb, e⟩ := of_pinsAt z
    obtain ⟨f0, f1, f2, _⟩ := hf p.1 hb
    obtain ⟨o, e', d⟩ := ho p.1 hb
    rw [e] at e'; cases e'
    exact ⟨e, f0, f1, f2, d⟩
theorem Inv.unpinned {pins pl : List (Addr × Obj)} {σ : St} {H : Hp} {s : Shared} (I : Inv X (pins ++ pl) σ H s) : Inv X pins σ H s := I.pins_of fun p hp => I.pin p (List.mem_append_right _ (List.mem_append_left _ hp))
theorem ps_for {iter : Expr} {body : List Stmt} {wi : TI} {g : TG} {tb : TS} {pos : Pos} (hp : PassesOwn (model X.prog X.w) X.A X.env X.xe) (hc : X.calm = true) (hi : PI X tg iter wi) (hg : PG X tg g) (hb : PSs X body tb)
    (hs : ∀ x, foldedSetIterable iter X.env x = pure x := by intro _; rfl) : PS X (.For tg iter body [] pos) (tFor wi g tb) := by
  intro pins s σ H D I h
  refine wpAny_For (thn (hi pins s σ H _ I h) fun v s1 h1 => thn h1 fun itv s2 h2 => ?_) hs
  obtain ⟨it, fp, tn, J, H2, e, I2, T, st2, f2, W, ⟨m0, w0⟩, turn⟩ := h2
  subst e
  have stat : ∀ {H' : Hp}, (∀ b ∈ fp, H' b = none) → ∀ b ∈ fp, FpOk X pins H' b := fun hn b hb => ⟨hn b hb, (f2 b hb).2⟩
  refine codeAny_forLoop_any (fun n s' => ∃ i σ' H', Inv X pins σ' H' s' ∧ tn i s'.heap ∧ (∀ b ∈ fp, H' b = none) ∧ W i n σ' H') ?_ m0 ⟨0, σ, H2, I2, st2, fun b hb => (f2 b hb).1, w0⟩
  rintro n s3 ⟨i, σ3, H3, I3, st3, fr3, w3⟩
  rcases turn i n σ3 H3 w3 with ⟨stop, qn⟩ | ⟨go, N, hN, step⟩
  · refine wpAny_passesOwn hp (thn (T.done X rfl rfl rfl hc i pins s3 σ3 H3 X.xe I3 (stat fr3) st3 stop) fun r s4 ⟨hr, I4⟩ => ?_)
    subst hr
    exact wpAny_execs_nil ⟨σ3, H3, I4, qn⟩
  · refine wpAny_passesOwn hp (thn (T.item X rfl rfl rfl hc i pins s3 σ3 H3 X.xe I3 (stat fr3) st3 go) fun r s4 ⟨u, hr, h4⟩ => ?_)
    subst hr
    refine wpAny_passesOwn hp (thn h4 fun _ s5 ⟨x, H5, I5, r5, y5, st5, fr5⟩ => ?_)
    have I5' := I5.pinned (stat fr5) (T.obj _ _ st5)
    refine wpAny_passesOwn hp (thn (hg _ s5 σ3 H5 x u _ I5' r5 (step x H5 y5)) fun _ s6 ⟨σ6, H6, I6, q6⟩ => ?_)
    refine wpAny_passesOwn hp (thn (hb _ s6 σ6 H6 _ I6 q6) fun f s7 q7 => ?_)
    have again : ∀ {σ7 : St} {H7 : Hp}, Inv X (pins ++ pinsAt fp s5.heap) σ7 H7 s7 → N σ7 H7 → ∃ m, m < n ∧ ∃ i σ' H', Inv X pins σ' H' s7 ∧ tn i s7.heap ∧ (∀ b ∈ fp, H' b = none) ∧ W i m σ' H' := fun {σ7 H7} I7 n7 => by
      obtain ⟨m', hm, w7⟩ := hN σ7 H7 n7
      refine ⟨m', hm, i + 1, σ7, H7, I7.unpinned, T.keep _ _ _ st5 fun b hb o e => (I7.pin (b, o) (List.mem_append_right _ (List.mem_append_right _ (mem_pinsAt hb e)))).1, fun b hb => ?_, w7⟩
      obtain ⟨o, e, d⟩ := T.obj _ _ st5 b hb
      exact (I7.pin (b, o) (List.mem_append_right _ (List.mem_append_right _ (mem_pinsAt hb e)))).2.1
    cases f with
    | next => obtain ⟨σ7, H7, I7, n7⟩ := q7; exact again I7 n7
    | cont => obtain ⟨σ7, H7, I7, n7⟩ := q7; exact again I7 n7
    | brk => obtain ⟨σ7, H7, I7, q7⟩ := q7; exact ⟨σ7, H7, I7.unpinned, q7⟩
    | ret v => obtain ⟨x7, σ7, H7, I7, r7, q7⟩ := q7; exact ⟨x7, σ7, H7, I7.unpinned, r7, q7⟩
end
theorem for_list {K : PySem.W.Frag} {a : Addr} {xs : List V} {g : TG} {tb : TS} {D : Ends} {σ : St} {H : Hp} (Pv : Nat → St → Hp → Prop) (h0 : Pv 0 σ H) (hl : ∀ i σ H, i ≤ xs.length → Pv i σ H → SqL K H a xs)
    (hs : ∀ i x σ H, xs[i]? = some x → Pv i σ H → g x σ H fun σ2 H2 => tb { D with nx := Pv (i + 1), ct := Pv (i + 1), bk := D.nx } σ2 H2) (hd : ∀ σ H, Pv xs.length σ H → D.nx σ H) :
    ∃ W : Nat → Nat → St → Hp → Prop, (∃ m, W 0 m σ H) ∧ ∀ i m σ H, W i m σ H →
      ((Itl K a).stop i H ∧ D.nx σ H) ∨ ((Itl K a).go i H ∧ ∃ N : St → Hp → Prop, (∀ σ' H', N σ' H' → ∃ m', m' < m ∧ W (i + 1) m' σ' H') ∧ ∀ x H', (Itl K a).yld i H x H' → g x σ H' fun σ2 H2 => tb { D with nx := N, ct := N, bk := D.nx } σ2 H2) := by
  refine ⟨fun i m σ H => m = xs.length - i ∧ i ≤ xs.length ∧ Pv i σ H, ⟨xs.length, by simp, Nat.zero_le _, h0⟩, ?_⟩
  rintro i m σ H ⟨rfl, hi, p⟩
  have q := hl i σ H hi p
  by_cases hlt : i < xs.length
  · refine .inr ⟨⟨xs, xs[i], q, by simp [hlt]⟩, Pv (i + 1), fun σ' H' p' => ⟨xs.length - (i + 1), by omega, rfl, hlt, p'⟩, fun x H' y => ?_⟩
    obtain ⟨e, y⟩ := y
    subst e
    exact hs i x σ _ (y xs q) p
  · have e : i = xs.length := by omega
    subst e
    exact .inl ⟨⟨xs, q, Nat.le_refl _⟩, hd σ H p⟩
theorem for_range {lo : Int} {n : Nat} {g : TG} {tb : TS} {D : Ends} {σ : St} {H : Hp} (Pv : Nat → St → Hp → Prop) (h0 : Pv 0 σ H)
    (hs : ∀ i σ H, i < n → Pv i σ H → g (.int (lo + i)) σ H fun σ2 H2 => tb { D with nx := Pv (i + 1), ct := Pv (i + 1), bk := D.nx } σ2 H2) (hd : ∀ σ H, Pv n σ H → D.nx σ H) :
    ∃ W : Nat → Nat → St → Hp → Prop, (∃ m, W 0 m σ H) ∧ ∀ i m σ H, W i m σ H →
      ((Itr lo n).stop i H ∧ D.nx σ H) ∨ ((Itr lo n).go i H ∧ ∃ N : St → Hp → Prop, (∀ σ' H', N σ' H' → ∃ m', m' < m ∧ W (i + 1) m' σ' H') ∧ ∀ x H', (Itr lo n).yld i H x H' → g x σ H' fun σ2 H2 => tb { D with nx := N, ct := N, bk := D.nx } σ2 H2) := by
  refine ⟨fun i m σ H => m = n - i ∧ i ≤ n ∧ Pv i σ H, ⟨n, by simp, Nat.zero_le _, h0⟩, ?_⟩
  rintro i m σ H ⟨rfl, hi, p⟩
  by_cases hlt : i < n
  · refine .inr ⟨hlt, Pv (i + 1), fun σ' H' p' => ⟨n - (i + 1), by omega, rfl, hlt, p'⟩, fun x H' y => ?_⟩
    obtain ⟨e, y⟩ := y
    subst e y
    exact hs i σ _ hlt p
  · have e : i = n := by omega
    subst e
    exact .inl ⟨Nat.le_refl _, hd σ H p⟩
end L2
namespace L2
open PySem PySem.Spec PyProof.Rows
noncomputable abbrev R2 := V → V → Hp → VK → Prop
noncomputable def OpR (X : Cx) (f : Value → Value → Sem Value) (r : R2) : Prop :=
  ∀ (pins : List (Addr × Obj)) (s : Shared) (σ : St) (H : Hp) (x y : V) (v u : Value) (Q : VK), Inv X pins σ H s → RelV x v → RelV y u → r x y H Q →
    wpAny (model X.prog X.w) X.A (f v u) (EP X pins σ Q) X.xe s
noncomputable def UnR (X : Cx) (f : Value → Sem Value) (r : V → Hp → VK → Prop) : Prop :=
  ∀ (pins : List (Addr × Obj)) (s : Shared) (σ : St) (H : Hp) (x : V) (v : Value) (Q : VK), Inv X pins σ H s → RelV x v → r x H Q →
    wpAny (model X.prog X.w) X.A (f v) (EP X pins σ Q) X.xe s
noncomputable def CallR (X : Cx) (f : Value) (r : List V → Hp → VK → Prop) : Prop :=
  ∀ (pins : List (Addr × Obj)) (s : Shared) (σ : St) (H : Hp) (xs : List V) (us : List Value) (Q : VK), Inv X pins σ H s → Vals xs us → r xs H Q →
    wpAny (model X.prog X.w) X.A (call f us) (EP X pins σ Q) X.xe s
noncomputable def TruR (X : Cx) (r : V → Hp → (Bool → Hp → Prop) → Prop) : Prop :=
  ∀ (pins : List (Addr × Obj)) (s : Shared) (σ : St) (H : Hp) (x : V) (v : Value) (Q : Bool → Hp → Prop), Inv X pins σ H s → RelV x v → r x H Q →
    wpAny (model X.prog X.w) X.A (truthy v) (TP X pins σ Q) X.xe s
noncomputable def tOp (r : R2) (ta tb : TE) : TE := fun σ H Q => ta σ H fun x H1 => tb σ H1 fun y H2 => r x y H2 Q
noncomputable def tUn (r : V → Hp → VK → Prop) (ta : TE) : TE := fun σ H Q => ta σ H fun x H1 => r x H1 Q
inductive RIC (C : Int → Int → Prop) (g : Int → Int → V) (x y : V) (H : Hp) (Q : VK) : Prop
  | mk (i j : Int) (ex : x = .int i) (ey : y = .int j) (c : C i j) (q : Q (g i j) H)
noncomputable def rI (C : Int → Int → Prop) (g : Int → Int → V) : R2 := fun x y H Q => RIC C g x y H Q
inductive RI0 (g : Int → Int → V) (x y : V) (H : Hp) (Q : VK) : Prop
  | mk (i j : Int) (ex : x = .int i) (ey : y = .int j) (q : Q (g i j) H)
noncomputable def rI0 (g : Int → Int → V) : R2 := fun x y H Q => RI0 g x y H Q
noncomputable def rU (g : Int → V) : V → Hp → VK → Prop := fun x H Q => ∃ i, x = .int i ∧ Q (g i) H
section
variable {X : Cx} {a b c : Expr} {ta tb tc : TE} {pos : Pos}
theorem binT (ha : PE X a ta) (hb : PE X b tb) {pins : List (Addr × Obj)} {s : Shared} {σ : St} {H : Hp} {R : V → V → Hp → Prop} (I : Inv X pins σ H s)
    (h : ta σ H fun x H1 => tb σ H1 fun y H2 => R x y H2) {Q : Value → Shared → Prop} {f : Value → Value → Sem Value}
    (hf : ∀ v u s2 x y H2, Inv X pins σ H2 s2 → RelV x v → RelV y u → R x y H2 → wpAny (model X.prog X.w) X.A (f v u) Q X.xe s2) :
    wpAny (model X.prog X.w) X.A (eval a X.env) (fun v s₁ => wpAny (model X.prog X.w) X.A (eval b X.env) (fun u s₂ => wpAny (model X.prog X.w) X.A (f v u) Q X.xe s₂) X.xe s₁) X.xe s := by
  refine thn (ha pins s σ H _ I h) fun v s1 ⟨x, H1, I1, r1, q1⟩ => ?_
  refine thn (hb pins s1 σ H1 _ I1 q1) fun u s2 ⟨y, H2, I2, r2, q2⟩ => ?_
  exact hf v u s2 x y H2 I2 r1 r2 q2
theorem pe_op {op : Operator} {r : R2} (ho : OpR X (binaryOp op) r) (ha : PE X a ta) (hb : PE X b tb) : PE X (.BinOp a op b pos) (tOp r ta tb) := by
  intro pins s σ H Q I h
  exact wpAny_BinOp (binT ha hb I h fun v u s2 x y H2 I2 rx ry q => ho pins s2 σ H2 x y v u Q I2 rx ry q)
theorem pe_un {op : UnaryOp} {r : V → Hp → VK → Prop} (ho : UnR X (unaryOp op) r) (ha : PE X a ta) : PE X (.UnaryOp op a pos) (tUn r ta) := by
  intro pins s σ H Q I h
  exact UnaryOp_ (thn (ha pins s σ H _ I h) fun v s1 ⟨x, H1, I1, r1, q1⟩ => ho pins s1 σ H1 x v Q I1 r1 q1)
theorem opI {f : Value → Value → Sem Value} {C : Int → Int → Prop} {g : Int → Int → Int}
    (rule : ∀ (i j : Int) (t u : Tok) (s : Shared) (Q : Value → Shared → Prop) (E : Value → Shared → Prop), C i j → Q (.int (g i j) s.toks) { s with toks := s.toks + 1 } → wpAny (model X.prog X.w) X.A (f (.int i t) (.int j u)) Q E s) :
    OpR X f (rI C fun i j => .int (g i j)) := by
  intro pins s σ H x y v u Q I rx ry h
  obtain ⟨i, j, rfl, rfl, hc, q⟩ := h
  obtain ⟨t, rfl⟩ := rx
  obtain ⟨t', rfl⟩ := ry
  exact rule i j t t' s _ _ hc ⟨.int (g i j), H, I.tok _, ⟨_, rfl⟩, q⟩
theorem opI0 {f : Value → Value → Sem Value} {g : Int → Int → Int}
    (rule : ∀ (i j : Int) (t u : Tok) (s : Shared) (Q : Value → Shared → Prop) (E : Value → Shared → Prop), Q (.int (g i j) s.toks) { s with toks := s.toks + 1 } → wpAny (model X.prog X.w) X.A (f (.int i t) (.int j u)) Q E s) :
    OpR X f (rI0 fun i j => .int (g i j)) := by
  intro pins s σ H x y v u Q I rx ry h
  obtain ⟨i, j, rfl, rfl, q⟩ := h
  obtain ⟨t, rfl⟩ := rx
  obtain ⟨t', rfl⟩ := ry
  exact rule i j t t' s _ _ ⟨.int (g i j), H, I.tok _, ⟨_, rfl⟩, q⟩
theorem opB0 {f : Value → Value → Sem Value} {g : Int → Int → Bool}
    (rule : ∀ (i j : Int) (t u : Tok) (s : Shared) (Q : Value → Shared → Prop) (E : Value → Shared → Prop), Q (.bool (g i j)) s → wpAny (model X.prog X.w) X.A (f (.int i t) (.int j u)) Q E s) :
    OpR X f (rI0 fun i j => .bl (g i j)) := by
  intro pins s σ H x y v u Q I rx ry h
  obtain ⟨i, j, rfl, rfl, q⟩ := h
  obtain ⟨t, rfl⟩ := rx
  obtain ⟨t', rfl⟩ := ry
  exact rule i j t t' s _ _ ⟨.bl (g i j), H, I, rfl, q⟩
noncomputable def CPow (i j : Int) : Prop := 0 ≤ j ∧ j ≤ 1000000 ∧ i.natAbs < 2 ^ 64
theorem two_pow_nn (k : Nat) : (0 : Int) ≤ 2 ^ k := by
  rw [two_pow_cast]
  exact Int.natCast_nonneg _
theorem op_add : OpR X (binaryOp .Add) (rI0 fun i j => .int (i + j)) := opI0 fun _ _ _ _ _ _ _ q => add_int q
theorem op_sub : OpR X (binaryOp .Sub) (rI0 fun i j => .int (i - j)) := opI0 fun _ _ _ _ _ _ _ q => sub_int q
theorem op_shl : OpR X (binaryOp .LShift) (rI CPow fun i j => .int (i * 2 ^ j.toNat)) := opI fun _ _ _ _ _ _ _ hc q => lshift_int_small hc.1 hc.2.1 hc.2.2 q
theorem op_shr : OpR X (binaryOp .RShift) (rI (fun _ j => 0 ≤ j) fun i j => .int (i / 2 ^ j.toNat)) := opI fun i j _ _ _ _ _ hc q =>
  rshift_int hc (by rw [Int.fdiv_eq_ediv_of_nonneg i (two_pow_nn _)]; exact q)
theorem op_and : OpR X (binaryOp .BitAnd) (rI0 fun i j => .int (Builtin.bitAnd i j)) := opI0 fun _ _ _ _ _ _ _ q => and_int q
theorem op_or : OpR X (binaryOp .BitOr) (rI0 fun i j => .int (Builtin.bitOr i j)) := opI0 fun _ _ _ _ _ _ _ q => or_int q
theorem unI {f : Value → Sem Value} {g : Int → Int}
    (rule : ∀ (i : Int) (t : Tok) (s : Shared) (Q : Value → Shared → Prop) (E : Value → Shared → Prop), Q (.int (g i) s.toks) { s with toks := s.toks + 1 } → wpAny (model X.prog X.w) X.A (f (.int i t)) Q E s) :
    UnR X f (rU fun i => .int (g i)) := by
  intro pins s σ H x v Q I rx h
  obtain ⟨i, rfl, q⟩ := h
  obtain ⟨t, rfl⟩ := rx
  exact rule i t s _ _ ⟨.int (g i), H, I.tok _, ⟨_, rfl⟩, q⟩
theorem un_neg : UnR X (unaryOp .USub) (rU fun i => .int (-i)) := unI fun _ _ _ _ _ q => neg_int q
end
noncomputable def scal : V → V → Bool
  | .non, .non => true | .non, .int _ => true | .int _, .non => true | .non, .bl _ => true | .bl _, .non => true | .non, .str _ => true | .str _, .non => true
  | .int _, .int _ => true | .bl _, .bl _ => true | .str _, .str _ => true | .byt _, .byt _ => true
  | .int _, .str _ => true | .str _, .int _ => true | .bl _, .str _ => true | .str _, .bl _ => true
  | _, _ => false
noncomputable def rEq : R2 := fun x y H Q => scal x y = true ∧ Q (.bl (decide (x = y))) H
noncomputable def rNe : R2 := fun x y H Q => scal x y = true ∧ Q (.bl (!decide (x = y))) H
theorem dec_int {i j : Int} : decide (V.int i = V.int j) = (i == j) := by
  rw [Bool.eq_iff_iff]
  simp
theorem dec_bl {i j : Bool} : decide (V.bl i = V.bl j) = (i == j) := by
  rw [Bool.eq_iff_iff]
  simp
theorem dec_str {i j : Str} : decide (V.str i = V.str j) = (i == j) := by
  rw [Bool.eq_iff_iff]
  simp
theorem dec_byt {i j : Array UInt8} : decide (V.byt i = V.byt j) = (i.toList == j.toList) := by
  rw [Bool.eq_iff_iff]
  cases i
  cases j
  simp
section
variable {X : Cx} {a b c : Expr} {ta tb tc : TE} {pos : Pos}
theorem fin_bl {pins : List (Addr × Obj)} {σ : St} {H : Hp} {s : Shared} {Q : VK} {k k' : Bool} (I : Inv X pins σ H s) (q : Q (.bl k) H) (e : k = k') : EP X pins σ Q (.bool k') s := by
  subst e
  exact ⟨.bl k, H, I, rfl, q⟩
theorem op_eq : OpR X (compareOp .Eq) rEq := by
  intro pins s σ H x y v u Q I rx ry h
  obtain ⟨hs, q⟩ := h
  cases x with
  | non =>
    cases rx
    cases y with
    | non => cases ry; exact PySem.EqNone.eq_none_none (fin_bl I q (by simp))
    | bl j => cases ry; exact PySem.EqNone.eq_none_bool (fin_bl I q (by simp))
    | int j => obtain ⟨t', rfl⟩ := ry; exact PySem.EqNone.eq_none_int (fin_bl I q (by simp))
    | str j => obtain ⟨t', rfl⟩ := ry; exact PySem.EqNone.eq_none_str (fin_bl I q (by simp))
    | _ => exact absurd (show false = true from hs) Bool.false_ne_true
  | bl i =>
    cases rx
    cases y with
    | non => cases ry; exact PySem.EqNone.eq_bool_none (fin_bl I q (by simp))
    | bl j => cases ry; exact eq_bool (fin_bl I q dec_bl)
    | str j => obtain ⟨t', rfl⟩ := ry; exact PySem.EqMixed.eq_bool_str (fin_bl I q (by simp))
    | _ => exact absurd (show false = true from hs) Bool.false_ne_true
  | int i =>
    obtain ⟨t, rfl⟩ := rx
    cases y with
    | non => cases ry; exact PySem.EqNone.eq_int_none (fin_bl I q (by simp))
    | int j => obtain ⟨t', rfl⟩ := ry; exact eq_int (fin_bl I q dec_int)
    | str j => obtain ⟨t', rfl⟩ := ry; exact PySem.EqMixed.eq_int_str (fin_bl I q (by simp))
    | _ => exact absurd (show false = true from hs) Bool.false_ne_true
  | str i =>
    obtain ⟨t, rfl⟩ := rx
    cases y with
    | non => cases ry; exact PySem.EqNone.eq_str_none (fin_bl I q (by simp))
    | bl j => cases ry; exact PySem.EqMixed.eq_str_bool (fin_bl I q (by simp))
    | int j => obtain ⟨t', rfl⟩ := ry; exact PySem.EqMixed.eq_str_int (fin_bl I q (by simp))
    | str j => obtain ⟨t', rfl⟩ := ry; exact eq_str (fin_bl I q dec_str)
    | _ => exact absurd (show false = true from hs) Bool.false_ne_true
  | byt i =>
    obtain ⟨t, rfl⟩ := rx
    cases y with
    | byt j => obtain ⟨t', rfl⟩ := ry; exact PySem.W.eq_bytes (fin_bl I q dec_byt)
    | _ => exact absurd (show false = true from hs) Bool.false_ne_true
  | _ => cases y <;> exact absurd (show false = true from hs) Bool.false_ne_true
theorem op_ne : OpR X (compareOp .NotEq) rNe := by
  intro pins s σ H x y v u Q I rx ry h
  obtain ⟨hs, q⟩ := h
  cases x with
  | non =>
    cases rx
    cases y with
    | non => cases ry; exact PySem.EqNone.ne_none_none (fin_bl I q (by simp))
    | bl j => cases ry; exact PySem.EqNone.ne_none_bool (fin_bl I q (by simp))
    | int j => obtain ⟨t', rfl⟩ := ry; exact PySem.EqNone.ne_none_int (fin_bl I q (by simp))
    | str j => obtain ⟨t', rfl⟩ := ry; exact PySem.EqNone.ne_none_str (fin_bl I q (by simp))
    | _ => exact absurd (show false = true from hs) Bool.false_ne_true
  | bl i =>
    cases rx
    cases y with
    | non => cases ry; exact PySem.EqNone.ne_bool_none (fin_bl I q (by simp))
    | bl j => cases ry; exact ne_bool (fin_bl I q (congrArg not dec_bl))
    | str j => obtain ⟨t', rfl⟩ := ry; exact PySem.EqMixed.ne_bool_str (fin_bl I q (by simp))
    | _ => exact absurd (show false = true from hs) Bool.false_ne_true
  | int i =>
    obtain ⟨t, rfl⟩ := rx
    cases y with
    | non => cases ry; exact PySem.EqNone.ne_int_none (fin_bl I q (by simp))
    | int j => obtain ⟨t', rfl⟩ := ry; exact ne_int (fin_bl I q (congrArg not dec_int))
    | str j => obtain ⟨t', rfl⟩ := ry; exact PySem.EqMixed.ne_int_str (fin_bl I q (by simp))
    | _ => exact absurd (show false = true from hs) Bool.false_ne_true
  | str i =>
    obtain ⟨t, rfl⟩ := rx
    cases y with
    | non => cases ry; exact PySem.EqNone.ne_str_none (fin_bl I q (by simp))
    | bl j => cases ry; exact PySem.EqMixed.ne_str_bool (fin_bl I q (by simp))
    | int j => obtain ⟨t', rfl⟩ := ry; exact PySem.EqMixed.ne_str_int (fin_bl I q (by simp))
    | str j => obtain ⟨t', rfl⟩ := ry; exact ne_str (fin_bl I q (congrArg not dec_str))
    | _ => exact absurd (show false = true from hs) Bool.false_ne_true
  | byt i =>
    obtain ⟨t, rfl⟩ := rx
    cases y with
    | byt j => obtain ⟨t', rfl⟩ := ry; exact PySem.W.ne_bytes (fin_bl I q (congrArg not dec_byt))
    | _ => exact absurd (show false = true from hs) Bool.false_ne_true
  | _ => cases y <;> exact absurd (show false = true from hs) Bool.false_ne_true
theorem op_lt : OpR X (compareOp .Lt) (rI0 fun i j => .bl (decide (i < j))) := opB0 fun _ _ _ _ _ _ _ q => lt_int q
theorem op_le : OpR X (compareOp .LtE) (rI0 fun i j => .bl (decide (i ≤ j))) := opB0 fun _ _ _ _ _ _ _ q => le_int q
theorem op_gt : OpR X (compareOp .Gt) (rI0 fun i j => .bl (decide (j < i))) := opB0 fun _ _ _ _ _ _ _ q => gt_int q
theorem op_ge : OpR X (compareOp .GtE) (rI0 fun i j => .bl (decide (j ≤ i))) := opB0 fun _ _ _ _ _ _ _ q => ge_int q
theorem op_isN : OpR X (compareOp .Is) (fun x y H Q => y = .non ∧ Q (.bl (decide (x = .non))) H) := by
  intro pins s σ H x y v u Q I rx ry h
  obtain ⟨rfl, q⟩ := h
  cases ry
  refine is_none_gen (fin_bl I q ?_)
  cases x <;> first
    | (cases rx; rfl)
    | (obtain ⟨t, rfl⟩ := rx; rfl)
theorem op_notN : OpR X (compareOp .IsNot) (fun x y H Q => y = .non ∧ Q (.bl (!decide (x = .non))) H) := by
  intro pins s σ H x y v u Q I rx ry h
  obtain ⟨rfl, q⟩ := h
  cases ry
  refine isnot_none_gen (fin_bl I q ?_)
  cases x <;> first
    | (cases rx; rfl)
    | (obtain ⟨t, rfl⟩ := rx; rfl)
theorem nomark (b : Expr) {op : CmpOp} (h : op ≠ .In := by decide) (h2 : op ≠ .NotIn := by decide) : behindInMarks op b = false := by
  have e1 : (op == CmpOp.In) = false := by cases op <;> first | rfl | exact absurd rfl h
  have e2 : (op == CmpOp.NotIn) = false := by cases op <;> first | rfl | exact absurd rfl h2
  cases b <;> simp [behindInMarks, e1, e2]
theorem pe_cmpR {op : CmpOp} {r : R2} (ho : OpR X (compareOp op) r) (ha : PE X a ta) (hb : PE X b tb) (hm : behindInMarks op b = false) : PE X (.Compare a [op] [b] pos) (tOp r ta tb) := by
  intro pins s σ H Q I h
  exact wpAny_Compare1 (binT ha hb I h fun v u s2 x y H2 I2 rx ry q => ho pins s2 σ H2 x y v u Q I2 rx ry q) hm
noncomputable def tTest (t : TE) : TT := fun σ H Q => t σ H fun x H' => BlR x H' Q
theorem pt_cmpR {op : CmpOp} {r : R2} (ho : OpR X (compareOp op) r) (ha : PE X a ta) (hb : PE X b tb) (hm : behindInMarks op b = false) : PT X (.Compare a [op] [b] pos) (tTest (tOp r ta tb)) := by
  intro pins s σ H Q I h
  refine wpAny_isTrue_Compare1 (thn (ha pins s σ H _ I h) fun v s1 ⟨x, H1, I1, r1, q1⟩ => thn (hb pins s1 σ H1 _ I1 q1) fun u s2 ⟨y, H2, I2, r2, q2⟩ =>
    thn (ho pins s2 σ H2 x y v u _ I2 r1 r2 q2) fun c s3 ⟨z, H3, I3, r3, k, e, q3⟩ => ?_) hm
  subst e
  cases r3
  exact wpAny_truthy_bool ⟨H3, I3, q3⟩
noncomputable def tChain (r r' : R2) (ta tb tc : TE) : TE := fun σ H Q => ta σ H fun x H1 => tb σ H1 fun y H2 => r x y H2 fun z H3 => ∃ k, z = .bl k ∧
  (if k = true then tc σ H3 fun w' H4 => r' y w' H4 Q else Q (.bl false) H3)
theorem pt_chain {op op' : CmpOp} {r r' : R2} (ho : OpR X (compareOp op) r) (ho' : OpR X (compareOp op') r') (ha : PE X a ta) (hb : PE X b tb) (hc : PE X c tc)
    (hm : lastMarks [op, op'] [b, c] = false := by with_unfolding_all rfl) : PT X (.Compare a [op, op'] [b, c] pos) (tTest (tChain r r' ta tb tc)) := by
  intro pins s σ H Q I h
  refine isTrue_chain (thn (ha pins s σ H _ I h) fun v s1 ⟨x, H1, I1, r1, q1⟩ => test_link (thn (hb pins s1 σ H1 _ I1 q1) fun u s2 ⟨y, H2, I2, r2, q2⟩ =>
    thn (ho pins s2 σ H2 x y v u _ I2 r1 r2 q2) fun d s3 ⟨z, H3, I3, r3, k, e, q3⟩ => ?_)) hm
  subst e
  cases r3
  refine wpAny_truthy_bool ?_
  cases k with
  | false =>
    obtain ⟨k', e', q'⟩ := q3
    cases e'
    exact ite_ff ⟨H3, I3, q'⟩
  | true =>
    refine ite_tt (test_last (thn (hc pins s3 σ H3 _ I3 q3) fun w' s4 ⟨z', H4, I4, r4, q4⟩ => thn (ho' pins s4 σ H4 y z' u w' _ I4 r2 r4 q4) fun d' s5 ⟨z2, H5, I5, r5, k2, e2, q5⟩ => ?_))
    subst e2
    cases r5
    exact wpAny_truthy_bool ⟨H5, I5, q5⟩
noncomputable def TruV (K : PySem.W.Frag) (x : V) (H : Hp) (k : Bool) : Prop :=
  match x with
  | .non => k = false
  | .bl b => k = b
  | .int i => k = (i != 0)
  | .str y => y.length ≤ sizeLine ∧ k = ((y.length : Int) != 0)
  | .byt y => y.size ≤ sizeLine ∧ k = ((y.size : Int) != 0)
  | .ref p => (∃ xs, SqL K H p xs ∧ k = !xs.isEmpty) ∨ (∃ xs, SqT K H p xs ∧ k = !xs.isEmpty) ∨ ∃ kvs, H p = some (.dK kvs) ∧ k = !kvs.isEmpty
  | _ => False
theorem isEmpty_kv {κ : Type} {kvs : List (κ × V)} {vs : List (κ × Value)} (r : KV kvs vs) : (!vs.isEmpty) = !kvs.isEmpty := by
  cases r <;> rfl
theorem isEmpty_of {xs : List V} {its : List Value} (r : Vals xs its) : (!its.toArray.isEmpty) = !xs.isEmpty := by
  cases r <;> simp
theorem line63 : (sizeLine : Nat) < 2 ^ 63 := by rw [sizeLine_eq]; decide
theorem tru_ok : TruR X (fun x H Q => ∃ k, TruV X.K x H k ∧ Q k H) := by
  intro pins s σ H x v Q I rx h
  obtain ⟨k, e, q⟩ := h
  have hl := line63
  have hs : sizeLine = 16777216 := sizeLine_eq
  cases x with
  | non =>
    cases rx
    have e' : k = false := e
    subst e'
    exact truthy_none ⟨H, I, q⟩
  | bl b =>
    cases rx
    have e' : k = b := e
    subst e'
    exact wpAny_truthy_bool ⟨H, I, q⟩
  | int i =>
    obtain ⟨t, rfl⟩ := rx
    have e' : k = (i != 0) := e
    subst e'
    exact PySem.P.truthy_int ⟨H, I, q⟩
  | str y =>
    obtain ⟨t, rfl⟩ := rx
    obtain ⟨hy, e'⟩ : y.length ≤ sizeLine ∧ k = ((y.length : Int) != 0) := e
    subst e'
    exact PySem.P.truthy_str (by omega) ⟨H, I.tok _, q⟩
  | byt y =>
    obtain ⟨t, rfl⟩ := rx
    obtain ⟨hy, e'⟩ : y.size ≤ sizeLine ∧ k = ((y.size : Int) != 0) := e
    subst e'
    exact PySem.W.truthy_bytes (by omega) ⟨H, I.tok _, q⟩
  | ref p =>
    cases rx
    have e' : (∃ xs, SqL X.K H p xs ∧ k = !xs.isEmpty) ∨ (∃ xs, SqT X.K H p xs ∧ k = !xs.isEmpty) ∨ ∃ kvs, H p = some (.dK kvs) ∧ k = !kvs.isEmpty := e
    rcases e' with ⟨xs, hx, e'⟩ | ⟨xs, hx, e'⟩ | ⟨kvs, hx, e'⟩
    · subst e'
      obtain ⟨its, r, pl, hz⟩ := I.list hx
      have hlen := r.length
      exact wpAny_truthy_list pl.isList (by simp only [List.size_toArray]; omega) ⟨H, I.tok _, by rw [isEmpty_of r]; exact q⟩
    · subst e'
      obtain ⟨its, r, pl, hz⟩ := I.tuple hx
      have hlen := r.length
      exact truthy_tuple pl (by simp only [List.size_toArray]; omega) ⟨H, I.tok _, by rw [isEmpty_of r]; exact q⟩
    · subst e'
      obtain ⟨hz, hS, vs, r, m⟩ : kvs.length ≤ sizeLine ∧ (p == sysModules) = false ∧ ∃ vs, KV kvs vs ∧ s.heap.DictOf (mixKind X.prog X.w) p vs := I.hok p _ hx
      have hlen : kvs.length = vs.length := Paired.length r
      exact wpAny_truthy_dict hS m (by omega) ⟨H, I.tok _, by rw [isEmpty_kv r]; exact q⟩
  | _ => exact (show False from e).elim
inductive TruthR (K : PySem.W.Frag) (x : V) (H' : Hp) (Q : Bool → Hp → Prop) : Prop
  | mk (k : Bool) (t : TruV K x H' k) (q : Q k H')
noncomputable def tTru (K : PySem.W.Frag) (t : TE) : TT := fun σ H Q => t σ H fun x H' => TruthR K x H' Q
theorem pt_truth (ha : PE X a ta) (he : ∀ whole, isTrue a X.env whole = (do let v ← whole; standAt a.pos; holding [v] (truthy v))) :
    PT X a (tTru X.K ta) := by
  intro pins s σ H Q I h
  exact isTrue_plain (thn (ha pins s σ H _ I h) fun v s1 ⟨x, H1, I1, r1, q1⟩ => tru_ok pins s1 σ H1 x v Q I1 r1 (by obtain ⟨k, t, q⟩ := q1; exact ⟨k, t, q⟩)) (he _)
theorem vals1 {x : V} {us : List Value} (r : Vals [x] us) : ∃ u, us = [u] ∧ RelV x u := by
  cases r with
  | cons r1 r2 => cases r2; exact ⟨_, rfl, r1⟩
end
end L2
namespace L2
open PySem PySem.Spec PyProof.Rows
structure ObjM (h : Heap) (x dx C : Addr) (mA : Str → Option Value) : Prop where
  obj : h.get? x = some (PySem.W.instObj C dx)
  ns : h.Ns1 dx mA
  ne : dx ≠ x
theorem lookIn_ns {h : Heap} {dx : Addr} {mA : Str → Option Value} (n : h.Ns1 dx mA) : ∃ od, h.get? dx = some od ∧ ∀ name, PySem.W.lookIn name od = some (mA name) := by
  obtain ⟨o, es, ep, ho, hd, hk, _, hm⟩ := n
  refine ⟨o, ho, fun name => ?_⟩
  have e := hm name
  unfold nsFind findBy at e
  rw [← Array.find?_toList] at e
  unfold PySem.W.lookIn
  rw [hd]
  dsimp only
  split
  · rename_i y q
    rw [q] at e
    exact congrArg some e
  · rename_i q
    rw [q] at e
    have a : es.toList.any (·.refKey) = false := by
      rw [List.any_eq_false]
      intro y hy
      obtain ⟨z, t, hkey⟩ := hk y (Array.mem_toList_iff.mp hy)
      simp [DictEntry.refKey, hkey]
    have a' : ¬ es.toList.any (·.refKey) = true := by rw [a]; exact Bool.false_ne_true
    rw [if_neg a']
    exact congrArg some e
theorem ObjM.look {h : Heap} {x dx C : Addr} {mA : Str → Option Value} (I : ObjM h x dx C mA) : ∃ od, PySem.W.InstAt h x (PySem.W.instObj C dx) C (some od) ∧ ∀ name, PySem.W.lookIn name od = some (mA name) :=
  let ⟨od, ho, hl⟩ := lookIn_ns I.ns
  ⟨od, ⟨I.obj, rfl, rfl, ho⟩, hl⟩
section
variable {prog : Program} {w : World} {A : Around} {E : Value → Shared → Prop} {s : Shared} {K : PySem.W.Frag} {x dx C f : Addr} {mA : Str → Option Value} {name : Str} {v : Value}
theorem get_map {expr : Bool} {Q : Value → Shared → Prop} (X : K.In s.heap) (I : ObjM s.heap x dx C mA) (hg : PySem.W.plainGet K C name = true) (hh : PySem.W.hasDictIn K C = true)
    (ha : PySem.W.findIn K (.ref C) name = some none) (hv : mA name = some v) (hv' : PySem.W.handedIn v = true) (h : Q v { s with toks := s.toks + 1 }) :
    wpAny (model prog w) A (getAttr (.ref x) name expr) Q E s := by
  obtain ⟨od, J, hl⟩ := I.look
  exact PySem.W.get_value X J (PySem.W.plainGet_of hg).1 (PySem.W.findObj_own hh ha rfl (by rw [hl, hv])) hv' h
theorem get_meth {pl : Sem Bool} {Q : Value × List Value → Shared → Prop} (X : K.In s.heap) (I : ObjM s.heap x dx C mA) (hg : PySem.W.plainGet K C name = true)
    (hf : PySem.W.findIn K (.ref C) name = some (some (.ref f))) (ht : PySem.W.isFn K (.ref f) = true) (hv : mA name = none) (h : Q (.ref f, [.ref x]) s) :
    wpAny (model prog w) A (getMethod (.ref x) name pl) Q E s := by
  obtain ⟨od, J, hl⟩ := I.look
  exact PySem.W.method_fn X J (PySem.W.plainGet_of hg).1 (PySem.W.plainGet_of hg).2 hf (beq_iff_eq.mp ht) (by show (PySem.W.lookIn name od).map (·.isSome) = some false; rw [hl, hv]; rfl) h
theorem set_map {ns : List Str} {Q : Unit → Shared → Prop} (X : K.In s.heap) (I : ObjM s.heap x dx C mA)
    (hs : PySem.W.findIn K (.ref C) "__setattr__" = some (some (.builtin "object.__setattr__"))) (hp : PySem.W.plainOver K C = true) (ht : PySem.W.takerIn K C name = some none) (hh : PySem.W.hasDictIn K C = true)
    (hw : PySem.Within mA ns) (hsz : ns.length ≤ sizeLine)
    (h : ∀ h', ObjM h' x dx C (fun y => if y = name then some v else mA y) → Heap.SameBut dx s.heap h' → Q () { s with heap := h', toks := s.toks + 2 }) :
    wpAny (model prog w) A (setAttr (.ref x) name v) Q E s := by
  obtain ⟨od, J, hl⟩ := I.look
  refine PySem.W.set_plain X J hs (PySem.W.osa_open (s := { s with toks := s.toks + 1 }) (r := none) X J hp ht fun b => ?_)
  obtain ⟨cd, hc, hd'⟩ := PySem.W.any_some hh
  have hx : s.heap.get? x = some ⟨.ref C, some dx, .plain, #[]⟩ := I.obj
  refine wpAny_bind (wpAny_pure (wpAny_bind (wpAny_bind (wpAny_loadPart hx (wpAny_bind (PySem.W.Looks.here (s := { s with toks := s.toks + 1 }) (PySem.W.looks_clsIn X hc) ?_))))))
  rw [hd']
  refine wpAny_pure (a := some dx) (wpAny_bind (wpAny_pure (wpAny_bind ?_)))
  refine wpAny_nsSet1 (s := { s with toks := s.toks + 1 }) I.ns fun h' hn2 hs2 => ?_
  obtain ⟨oD, esD, epD, hoD, hdD, hcD⟩ := hn2.count (PySem.Within.cons name v hw)
  refine wpAny_bind (wpAny_lookBehind hoD (by rw [hdD]; exact pastItsLine_dict (Nat.le_trans hcD (by rw [List.length_cons]; omega))) ?_)
  exact wpAny_pure (h _ ⟨(hs2.2 _ (Ne.symm I.ne)).trans I.obj, hn2, I.ne⟩ hs2)
theorem make_map {R : Result → Shared → Prop} {vs : List Value} {kw : List (Str × Value)} (X : K.In s.heap) (hm : PySem.W.makesIn K C = true)
    (hi : PySem.W.findIn K (.ref C) "__init__" = some (some (.ref f))) (hf : PySem.W.typeIn K (.ref f) = some (.type "function"))
    (h : codeAny (model prog w) (A.under (.builtin "type.__call__" ⟨.ref C :: vs, kw⟩)) (.call (.ref f) ⟨.ref (s.heap.objs.size + 1) :: vs, kw⟩) (PySem.W.InitBack (s.heap.objs.size + 1) R)
      { s with heap := (s.heap.push PySem.W.emptyDict).push (PySem.W.instObj C s.heap.objs.size) }) :
    codeAny (model prog w) A (.call (.ref C) ⟨vs, kw⟩) R s := by
  obtain ⟨hh, g, d, t, os⟩ := s
  exact PySem.W.make_core (PySem.W.makes_of X hm) (PySem.W.looks_findIn X hi) (fun self => PySem.W.bind_fn X self hf) (.inl rfl) h
end
noncomputable def putF (f : Str) (v : V) : List (Str × V) → List (Str × V)
  | [] => [(f, v)]
  | (g, x) :: r => if g = f then (g, v) :: r else (g, x) :: putF f v r
theorem lookup_putF (f g : Str) (v : V) : ∀ fs : List (Str × V), (putF f v fs).lookup g = if g = f then some v else fs.lookup g
  | [] => by
    show List.lookup g [(f, v)] = _
    by_cases h : g = f
    · have hb : (g == f) = true := beq_iff_eq.mpr h
      simp only [List.lookup, hb, if_pos h]
    · have hb : (g == f) = false := beq_eq_false_iff_ne.mpr h
      simp only [List.lookup, hb, if_neg h]
  | (k, x) :: r => by
    have ih := lookup_putF f g v r
    rw [show putF f v ((k, x) :: r) = (if k = f then (k, v) :: r else (k, x) :: putF f v r) from rfl]
    by_cases hk : k = f
    · rw [if_pos hk]
      by_cases h : g = k
      · have hb : (g == k) = true := beq_iff_eq.mpr h
        simp only [List.lookup, hb, if_pos (h.trans hk)]
      · have hb : (g == k) = false := beq_eq_false_iff_ne.mpr h
        simp only [List.lookup, hb, if_neg (fun e : g = f => h (e.trans hk.symm))]
    · rw [if_neg hk]
      by_cases h : g = k
      · have hb : (g == k) = true := beq_iff_eq.mpr h
        simp only [List.lookup, hb, if_neg (fun e : g = f => hk (h.symm.trans e))]
      · have hb : (g == k) = false := beq_eq_false_iff_ne.mpr h
        simp only [List.lookup, hb]
        exact ih
theorem keys_putF (f : Str) (v : V) : ∀ fs : List (Str × V), f ∈ (putF f v fs).map (·.1) ∧ ∀ g, g ∈ fs.map (·.1) → g ∈ (putF f v fs).map (·.1)
  | [] => ⟨by simp [putF], fun g h => by simp at h⟩
  | (k, x) :: r => by
    obtain ⟨i1, i2⟩ := keys_putF f v r
    rw [show putF f v ((k, x) :: r) = (if k = f then (k, v) :: r else (k, x) :: putF f v r) from rfl]
    by_cases hk : k = f
    · rw [if_pos hk]
      subst hk
      exact ⟨by simp, fun g h => by simpa using h⟩
    · rw [if_neg hk]
      refine ⟨?_, fun g h => ?_⟩
      · rw [List.map_cons]
        exact List.mem_cons_of_mem _ i1
      · rw [List.map_cons] at h ⊢
        rcases List.mem_cons.mp h with e | e
        · exact List.mem_cons.mpr (.inl e)
        · exact List.mem_cons_of_mem _ (i2 g e)
theorem length_putF (f : Str) (v : V) : ∀ fs : List (Str × V), (putF f v fs).length ≤ fs.length + 1
  | [] => by simp [putF]
  | (k, x) :: r => by
    have ih := length_putF f v r
    rw [show putF f v ((k, x) :: r) = (if k = f then (k, v) :: r else (k, x) :: putF f v r) from rfl]
    by_cases hk : k = f
    · rw [if_pos hk, List.length_cons, List.length_cons]; omega
    · rw [if_neg hk, List.length_cons, List.length_cons]; omega
theorem RelO.some_of {v : V} {o : Option Value} (r : RelO (some v) o) : ∃ u, o = some u ∧ RelV v u := by
  cases o with
  | none => exact (show False from r).elim
  | some u => exact ⟨u, rfl, r⟩
theorem RelO.none_of {o : Option Value} (r : RelO none o) : o = none := by
  cases o with
  | none => rfl
  | some u => exact (show False from r).elim
theorem handed_of {v : V} {u : Value} (r : RelV v u) : PySem.W.handedIn u = true := by
  cases v with
  | non => cases (show u = Value.none from r); rfl
  | bl b => cases (show u = Value.bool b from r); rfl
  | int i => obtain ⟨t, e⟩ := (show ∃ t, u = Value.int i t from r); cases e; rfl
  | str x => obtain ⟨t, e⟩ := (show ∃ t, u = Value.str x t from r); cases e; rfl
  | byt b => obtain ⟨t, e⟩ := (show ∃ t, u = Value.bytes b t from r); cases e; rfl
  | flt b => obtain ⟨t, e⟩ := (show ∃ t, u = Value.float b t from r); cases e; rfl
  | ref a => cases (show u = Value.ref a from r); rfl
  | ty n => cases (show u = Value.type n from r); rfl
section
variable {P : Program} {w : World} {H H' : Hp} {h h' : Heap} {a C dx : Addr} {fs fs' : List (Str × V)}
theorem ins_get (hok : HOk P w H h) (e : H a = some (.ins C dx fs)) : ∃ mA, ObjM h a dx C mA ∧ (∀ f, RelO (fs.lookup f) (mA f)) ∧ PySem.Within mA (fs.map (·.1)) ∧ fs.length ≤ 1000 ∧ H dx = some (.own a) := by
  obtain ⟨d, z, ne, ob, mA, n, r, q⟩ := (show ObjOk P w H h a (.ins C dx fs) from hok a _ e)
  exact ⟨mA, ⟨ob, n, ne⟩, r, q, z, d⟩
end
structure Cls (K : PySem.W.Frag) (C : Addr) : Prop where
  pg : PySem.W.plainGet K C Str.empty = true
  hd : PySem.W.hasDictIn K C = true
  po : PySem.W.plainOver K C = true
  sa : PySem.W.findIn K (.ref C) "__setattr__" = some (some (.builtin "object.__setattr__"))
theorem Cls.get {K : PySem.W.Frag} {C : Addr} (c : Cls K C) (f : Str) : PySem.W.plainGet K C f = true := c.pg
noncomputable def NoAttr (K : PySem.W.Frag) (C : Addr) (f : Str) : Prop := PySem.W.findIn K (.ref C) f = some none
theorem NoAttr.taker {K : PySem.W.Frag} {C : Addr} {f : Str} (n : NoAttr K C f) : PySem.W.takerIn K C f = some none := by
  unfold PySem.W.takerIn
  rw [show PySem.W.findIn K (.ref C) f = some none from n]
  rfl
structure Meth (K : PySem.W.Frag) (C : Addr) (m : Str) (f : Addr) : Prop where
  at_ : PySem.W.findIn K (.ref C) m = some (some (.ref f))
  fn : PySem.W.isFn K (.ref f) = true
  kp : PySem.W.keepIn K (.ref f) = true
section
variable {X : Cx} {pins : List (Addr × Obj)} {σ : St} {H : Hp} {s : Shared} {a C dx : Addr} {fs : List (Str × V)} {f : Str} {v : V} {A : Around} {E : Value → Shared → Prop}
theorem getattr_ok {b : Bool} {Q : Value → Shared → Prop} (I : Inv X pins σ H s) (e : H a = some (.ins C dx fs)) (c : Cls X.K C) (n : NoAttr X.K C f) (l : fs.lookup f = some v)
    (h : ∀ u s', Inv X pins σ H s' → RelV v u → Q u s') : wpAny (model X.prog X.w) A (getAttr (.ref a) f b) Q E s := by
  obtain ⟨mA, O, r, _, _, _⟩ := ins_get I.hok e
  obtain ⟨u, hu, ru⟩ := RelO.some_of (v := v) (o := mA f) (by rw [← l]; exact r f)
  exact get_map I.kIn O (c.get f) c.hd n hu (handed_of ru) (h u _ (I.tok _) ru)
theorem getmeth_ok {m : Str} {g : Addr} {pl : Sem Bool} {Q : Value × List Value → Shared → Prop} (I : Inv X pins σ H s) (e : H a = some (.ins C dx fs)) (c : Cls X.K C) (k : Meth X.K C m g) (l : fs.lookup m = none)
    (h : Q (.ref g, [.ref a]) s) : wpAny (model X.prog X.w) A (getMethod (.ref a) m pl) Q E s := by
  obtain ⟨mA, O, r, _, _, _⟩ := ins_get I.hok e
  have hn : mA m = none := RelO.none_of (by rw [← l]; exact r m)
  exact get_meth I.kIn O (c.get m) k.at_ k.fn hn h
theorem setattr_ok {y : V} {u : Value} {Q : Unit → Shared → Prop} (I : Inv X pins σ H s) (e : H a = some (.ins C dx fs)) (c : Cls X.K C) (n : NoAttr X.K C f) (hl : fs.length < 1000) (ry : RelV y u)
    (h : ∀ s', Inv X pins σ (upd H a (.ins C dx (putF f y fs))) s' → Q () s') : wpAny (model X.prog X.w) A (setAttr (.ref a) f u) Q E s := by
  obtain ⟨mA, O, r, wi, _, ho⟩ := ins_get I.hok e
  have hz : (fs.map (·.1)).length ≤ sizeLine := by rw [List.length_map, sizeLine_eq]; omega
  refine set_map I.kIn O c.sa c.po n.taker c.hd wi hz fun h' O' sb => h _ ?_
  have hd : ∃ o, h'.get? dx = some o := let ⟨o, _, _, e', _⟩ := O'.ns; ⟨o, e'⟩
  refine I.write (x := a) (e := dx) (by rw [e]; exact True.intro) (.inr ho) (fun b q hb z => (sb.2 b hb).trans z) hd ?_
  refine ⟨by rw [upd_ne O.ne]; exact ho, ?_, O.ne, O'.obj, _, O'.ns, fun g => ?_, fun g hg => ?_⟩
  · have := length_putF f y fs; omega
  · show RelO ((putF f y fs).lookup g) (if g = f then some u else mA g)
    rw [lookup_putF]
    by_cases q : g = f
    · rw [if_pos q, if_pos q]; exact ry
    · rw [if_neg q, if_neg q]; exact r g
  · by_cases q : g = f
    · rw [q]; exact (keys_putF f y fs).1
    · refine (keys_putF f y fs).2 g (wi g fun z => hg ?_)
      show (if g = f then some u else mA g) = none
      rw [if_neg q]; exact z
theorem Inv.made (I : Inv X pins σ H s) : Inv X pins σ (upd (upd H s.heap.objs.size (.own (s.heap.objs.size + 1))) (s.heap.objs.size + 1) (.ins C s.heap.objs.size []))
    { s with heap := (s.heap.push PySem.W.emptyDict).push (PySem.W.instObj C s.heap.objs.size) } := by
  have e1 : (s.heap.push PySem.W.emptyDict).get? s.heap.objs.size = some PySem.W.emptyDict := Heap.get?_push_size s.heap rfl
  have e2 : ((s.heap.push PySem.W.emptyDict).push (PySem.W.instObj C s.heap.objs.size)).get? (s.heap.objs.size + 1) = some (PySem.W.instObj C s.heap.objs.size) := by
    have := Heap.get?_push_size (s.heap.push PySem.W.emptyDict) (o := PySem.W.instObj C s.heap.objs.size) rfl
    rwa [Heap.size_push] at this
  have e3 : (s.heap.push PySem.W.emptyDict).Ns s.heap.objs.size (fun _ => none) := ⟨PySem.W.emptyDict, #[], _, e1, rfl, (fun e he => absurd he (by simp)), fun _ => rfl⟩
  have I1 := I.laid (a := s.heap.objs.size) (o := .own (s.heap.objs.size + 1)) (h' := s.heap.push PySem.W.emptyDict) (t' := s.toks) (fun b u q => Heap.get?_push_of_some _ q) (Nat.le_refl _) ⟨_, e1⟩
  refine I1.laid (a := s.heap.objs.size + 1) (o := .ins C s.heap.objs.size []) (t' := s.toks) (fun b u q => Heap.get?_push_of_some _ q) (Nat.le_of_eq (Heap.size_push _ _)) ?_
  have ne : s.heap.objs.size ≠ s.heap.objs.size + 1 := Nat.ne_of_lt (Nat.lt_succ_self _)
  refine ⟨by rw [upd_ne ne, upd_same], Nat.zero_le _, ne, e2, fun _ => none, (Heap.Ns1.of_empty e3).at fun o q => Heap.get?_push_of_some _ q, fun _ => True.intro, fun y hy => absurd rfl hy⟩
theorem attr_of {prog : Program} {w : World} {env : Env} {e : Expr} {f : Str} {pos : Pos} {s : Shared} {Q : Value → Shared → Prop} (hb : attributeBase e f env (eval e env) = eval e env)
    (h : wpAny (model prog w) A (eval e env) (fun o s₁ => wpAny (model prog w) A (getAttr o f true) Q E s₁) E s) : wpAny (model prog w) A (eval (.Attribute e f pos) env) Q E s :=
  Attribute_any_ h (by rw [arm_eval_Attribute, hb])
end
inductive FldR (K : PySem.W.Frag) (f : Str) (x : V) (H1 : Hp) (Q : VK) : Prop
  | mk (a C dx : Addr) (fs : List (Str × V)) (v : V) (e : x = .ref a) (h : H1 a = some (.ins C dx fs)) (c : Cls K C) (n : NoAttr K C f) (l : fs.lookup f = some v) (q : Q v H1)
noncomputable def tFld (K : PySem.W.Frag) (ta : TE) (f : Str) : TE := fun σ H Q => ta σ H fun x H1 => FldR K f x H1 Q
inductive SFldR (K : PySem.W.Frag) (f : Str) (x y : V) (H2 : Hp) (N : Hp → Prop) : Prop
  | mk (a C dx : Addr) (fs : List (Str × V)) (e : x = .ref a) (h : H2 a = some (.ins C dx fs)) (c : Cls K C) (n : NoAttr K C f) (l : fs.length < 1000) (q : N (upd H2 a (.ins C dx (putF f y fs))))
noncomputable def sFld (K : PySem.W.Frag) (ta tv : TE) (f : Str) : TS := fun D σ H => tv σ H fun y H1 => ta σ H1 fun x H2 => SFldR K f x y H2 (D.nx σ)
section
variable {X : Cx} {o e value : Expr} {f : Str} {pos pos' tpos : Pos} {ta tv : TE}
theorem pe_fld (he : PE X e ta) (hb : attributeBase e f X.env (eval e X.env) = eval e X.env) : PE X (.Attribute e f pos) (tFld X.K ta f) := by
  intro pins s σ H Q I h
  refine attr_of hb (thn (he pins s σ H _ I h) fun u s1 ⟨x, H1, I1, rx, a, C, dx, fs, v, ex, ea, c, n, l, q⟩ => ?_)
  subst ex
  obtain rfl : u = Value.ref a := rx
  exact getattr_ok I1 ea c n l fun u' s2 I2 ru => ⟨v, H1, I2, ru, q⟩
theorem ps_fld (ha : PE X o ta) (hv : PE X value tv) (hs : swapsWith value (some (.Attribute o f pos')) pos.line X.env = pure false) : PS X (.Assign [.Attribute o f pos'] value pos) (sFld X.K ta tv f) := by
  intro pins s σ H D I h
  refine plainObj_wpAny_Assign_Attribute (thn (hv pins s σ H _ I h) fun u s1 ⟨y, H1, I1, ry, q⟩ => thn (ha pins s1 σ H1 _ I1 q) fun ov s2 ⟨x, H2, I2, rx, a, C, dx, fs, ex, ea, c, n, l, q2⟩ => ?_) hs
  subst ex
  obtain rfl : ov = Value.ref a := rx
  exact setattr_ok I2 ea c n l ry fun s3 I3 => ⟨σ, _, I3, q2⟩
end
section
variable {X : Cx} {pins : List (Addr × Obj)} {σ : St} {H : Hp} {s : Shared} {A : Around} {E : Value → Shared → Prop} {Q : Value → Shared → Prop} {c : Value} {b : Bool}
end
end L2
namespace L2
open PySem PySem.Spec PyProof.Rows
structure Room (k : Nat) (A : Around) : Prop where
  hd : A.handled = none
  dp : A.depth + 3 * k + 5 < recursionLimit
  un : A.units + 16 * k + 200 < cLine
theorem Room.mono {j k : Nat} {A : Around} (r : Room k A) (h : j ≤ k) : Room j A := ⟨r.hd, by have := r.dp; omega, by have := r.un; omega⟩
theorem Room.deeper {k : Nat} {A : Around} (r : Room (k + 1) A) (env : Env) : Room k (A.deeper env) :=
  ⟨r.hd, by have := r.dp; show A.depth + 1 + 3 * k + 5 < _; omega, by have := r.un; show A.units + 3 + 16 * k + 200 < _; omega⟩
theorem make_depth {A : Around} {C : Addr} {us : List Value} {kw : List (Str × Value)} : (A.under (.builtin "type.__call__" ⟨.ref C :: us, kw⟩)).depth = A.depth + 1 := by
  first | rfl | simp [Around.under, Code.weight, Code.isCreation, Code.isGuard, Code.isCaller, Code.frames, Code.isFrame, guardIds]
theorem make_units {A : Around} {C : Addr} {us : List Value} {kw : List (Str × Value)} : (A.under (.builtin "type.__call__" ⟨.ref C :: us, kw⟩)).units = A.units + 1 := by
  first | rfl | simp [Around.under, Code.cUnits, Code.frames, Code.isFrame]
theorem Room.make {k : Nat} {A : Around} (r : Room (k + 1) A) (C : Addr) (us : List Value) (kw : List (Str × Value)) : Room k (A.under (.builtin "type.__call__" ⟨.ref C :: us, kw⟩)) :=
  ⟨r.hd, by have := r.dp; rw [make_depth]; omega, by have := r.un; rw [make_units]; omega⟩
theorem Room.depth {k : Nat} {A : Around} (r : Room k A) : A.depth < recursionLimit := by have := r.dp; omega
theorem Room.units {k : Nat} {A : Around} (r : Room k A) : A.units + 64 < cLine := by have := r.un; omega
noncomputable def tNil : TA := fun _ H Q => Q [] H
noncomputable def tCons (ta : TE) (tr : TA) : TA := fun σ H Q => ta σ H fun x H1 => tr σ H1 fun xs H2 => Q (x :: xs) H2
section
variable {X : Cx} {e : Expr} {es : List Expr} {te : TE} {t : TA} {pos : Pos}
theorem pa_nil : PA X [] tNil := fun _ _ _ _ H Q I h => Calls.spliced_nil ⟨[], H, I, .nil, h⟩
theorem pa_cons (ha : PE X e te) (hr : PA X es t) (hs : starEach (e :: es) X.env = (false, eval e X.env) :: starEach es X.env := by rfl) : PA X (e :: es) (tCons te t) := by
  intro pos pins s σ H Q I h
  rw [hs]
  show wpAny _ _ (spliced ((false, eval e X.env) :: backTo pos (starEach es X.env))) _ _ s
  refine Calls.spliced_cons (thn (ha pins s σ H _ I h) fun u s1 ⟨x, H1, I1, r1, q1⟩ => ?_)
  exact thn (hr pos pins s1 σ H1 _ I1 q1) fun us s2 ⟨xs, H2, I2, r2, q2⟩ => ⟨x :: xs, H2, I2, .cons r1 r2, q2⟩
noncomputable def tTup (t : TA) : TE := fun σ H Q => t σ H fun xs H1 => xs.length ≤ sizeLine ∧ ∀ p, H1 p = none → Q (.ref p) (upd H1 p (.tup xs))
noncomputable def tLst (t : TA) : TE := fun σ H Q => t σ H fun xs H1 => xs.length ≤ sizeLine ∧ ∀ p, H1 p = none → Q (.ref p) (upd H1 p (.lst xs))
theorem pe_tup {x1} (h : PA X es t) : PE X (.Tuple es x1 pos) (tTup t) := by
  intro pins s σ H Q I hq
  refine wpAny_Tuple_spliced (thn (h pos pins s σ H _ I hq) fun us s1 ⟨xs, H1, I1, r, z, q⟩ => ⟨by rw [← r.length]; exact z, ?_⟩)
  have hf : H1 s1.heap.objs.size = none := I1.hok.fresh (Nat.le_refl _)
  refine ⟨.ref s1.heap.objs.size, upd H1 s1.heap.objs.size (.tup xs), I1.laid (t' := s1.toks) (fun b u e => Heap.get?_push_of_some _ e) (Nat.le_refl _) ?_, rfl, q _ hf⟩
  exact ⟨z, us, r, ⟨_, Heap.get?_push_size _ rfl, rfl, _, rfl⟩⟩
theorem pe_lst (h : PA X es t) : PE X (.List es pos) (tLst t) := by
  intro pins s σ H Q I hq
  refine wpAny_List_spliced (thn (h pos pins s σ H _ I hq) fun us s1 ⟨xs, H1, I1, r, z, q⟩ => ⟨by rw [← r.length]; exact z, ?_⟩)
  have hf : H1 s1.heap.objs.size = none := I1.hok.fresh (Nat.le_refl _)
  refine ⟨.ref s1.heap.objs.size, upd H1 s1.heap.objs.size (.lst xs), I1.laid (t' := s1.toks) (fun b u e => Heap.get?_push_of_some _ e) (Nat.le_refl _) ?_, rfl, q _ hf⟩
  exact ⟨z, us, 0, r, Heap.get?_push_size _ rfl⟩
end
noncomputable abbrev Sp := List V → Hp → VK → XK → Prop
noncomputable abbrev CXT := List Env → Hp → Shared → XK → Value → Shared → Prop
structure Env0 (P : Program) (w : World) (K : PySem.W.Frag) (mg : Str → Option Value) (base : Heap) (A : Around) (outer : List Env) (s : Shared) (H : Hp) : Prop where
  frames : A.frames = some outer
  mod : Mod K mg base
  bs : ∀ b o, base.get? b = some o → s.heap.get? b = some o ∧ H b = none
  bsz : base.objs.size ≤ s.heap.objs.size
  funs : s.heap.FunFrames base outer
  frf : ∀ b ∈ frs outer, H b = none
  hok : HOk P w H s.heap
  bare : AllBare s.gens
noncomputable def CE (outer : List Env) (P : Program) (w : World) (H : Hp) (s : Shared) (Q : VK) (u : Value) (s' : Shared) : Prop :=
  ∃ v H', s'.os = s.os ∧ AllBare s'.gens ∧ Un (frs outer) [] H H' s.heap s'.heap ∧ HOk P w H' s'.heap ∧ RelV v u ∧ Q v H'
noncomputable def CR (CX : CXT) (outer : List Env) (P : Program) (w : World) (H : Hp) (s : Shared) (Q : VK) (E : XK) (r : Result) (s' : Shared) : Prop :=
  match r with
  | .ok (.ret u) => CE outer P w H s Q u s'
  | .ok _ => False
  | .error e => CX outer H s E e s'
structure FnOk (P : Program) (w : World) (K : PySem.W.Frag) (mg : Str → Option Value) (base : Heap) (CX : CXT) (k : Nat) (f : Addr) (fd : FuncData) (ps : List Str) (sp : Sp) : Prop where
  len : ∀ vs H Q E, sp vs H Q E → vs.length = ps.length
  run : ∀ (A : Around) (outer : List Env) (s : Shared) (H : Hp) (args : Args) (us : List Value) (vs : List V) (Q : VK) (E : XK), Room k A → Env0 P w K mg base A outer s H → BindsTo s fd args (ps.zip us) → Vals vs us → sp vs H Q E →
    codeAny (model P w) A (.call (.ref f) args) (CR CX outer P w H s Q E) s
theorem FnOk.mono {P : Program} {w : World} {K : PySem.W.Frag} {mg : Str → Option Value} {base : Heap} {CX : CXT} {j k : Nat} {f : Addr} {fd : FuncData} {ps : List Str} {sp : Sp} (F : FnOk P w K mg base CX j f fd ps sp) (h : j ≤ k) :
    FnOk P w K mg base CX k f fd ps sp := ⟨F.len, fun A outer s H args us vs Q E hr => F.run A outer s H args us vs Q E (hr.mono h)⟩
theorem Env0.make {P : Program} {w : World} {K : PySem.W.Frag} {mg : Str → Option Value} {base : Heap} {A : Around} {outer : List Env} {s : Shared} {H : Hp} (e : Env0 P w K mg base A outer s H) (C : Addr) (us : List Value) (kw : List (Str × Value)) :
    Env0 P w K mg base (A.under (.builtin "type.__call__" ⟨.ref C :: us, kw⟩)) outer s H := ⟨by first | exact e.frames | (simpa [Around.under, Code.envs, Code.isFrame, pushEnvs] using e.frames), e.mod, e.bs, e.bsz, e.funs, e.frf, e.hok, e.bare⟩
section
variable {X : Cx} {pins : List (Addr × Obj)} {σ : St} {H : Hp} {s s' : Shared}
theorem Inv.env0 (I : Inv X pins σ H s) : Env0 X.prog X.w X.K X.mg X.base X.A X.stack s H :=
  ⟨I.ok.frames, I.ok.mod, I.bs, Nat.le_trans I.ok.bsz I.sz, I.stack, I.stkFree, I.hok, I.bare⟩
theorem Inv.after {Q : VK} {u : Value} (I : Inv X pins σ H s) (h : CE X.stack X.prog X.w H s Q u s') : EP X pins σ Q u s' := by
  obtain ⟨v, H', os, bare, un, hok, r, q⟩ := h
  obtain ⟨hh, g, d, t, os'⟩ := s'
  obtain rfl : os' = s.os := os
  exact ⟨v, H', I.call (h' := hh) (g' := g) (d' := d) (t' := t) (ch := []) un hok bare (fun b z => absurd z (by simp)), r, q⟩
end
noncomputable def tCall (sp : Sp) (dvs : List V) (E : XK) (t : TA) : TE := fun σ H Q => t σ H fun vs H1 => sp (vs ++ dvs) H1 Q E
inductive MethR (C : Addr) (m : Str) (x : V) (H1 : Hp) (R : Prop) : Prop
  | mk (a dx : Addr) (fs : List (Str × V)) (e : x = .ref a) (h : H1 a = some (.ins C dx fs)) (l : fs.lookup m = none) (q : R)
noncomputable def tMeth (C : Addr) (m : Str) (sp : Sp) (dvs : List V) (E : XK) (ta : TE) (t : TA) : TE := fun σ H Q => ta σ H fun x H1 => MethR C m x H1 (t σ H1 fun vs H2 => sp (x :: (vs ++ dvs)) H2 Q E)
noncomputable def tMake (C : Addr) (sp : Sp) (dvs : List V) (E : XK) (t : TA) : TE := fun σ H Q => t σ H fun vs H1 => ∀ x dx, H1 x = none → H1 dx = none → dx ≠ x →
  sp (.ref x :: (vs ++ dvs)) (upd (upd H1 dx (.own x)) x (.ins C dx [])) (fun v H2 => v = .non ∧ Q (.ref x) H2) E
noncomputable def Binds (K : PySem.W.Frag) (fd : FuncData) (ps : List Str) (ds : List Value) : Prop :=
  ∀ (s : Shared) (us : List Value), K.In s.heap → (us ++ ds).length = ps.length → BindsTo s fd ⟨us, []⟩ (ps.zip (us ++ ds))
theorem Binds.all {K : PySem.W.Frag} {fd : FuncData} {ps : List Str} (h : ∀ us : List Value, us.length = ps.length → bindArgs fd ⟨us, []⟩ = pure (ps.zip us)) : Binds K fd ps [] := fun s us _ hl => by
  rw [List.append_nil] at hl ⊢
  exact .of_eq (h us hl)
noncomputable def Passes (CX : CXT) (X : Cx) (E : XK) : Prop := ∀ (pins : List (Addr × Obj)) (σ : St) (H : Hp) (s : Shared) (e : Value) (s' : Shared), Inv X pins σ H s → CX X.stack H s E e s' → X.xe e s'
section
variable {X : Cx} {CX : CXT} {k : Nat} {f C : Addr} {fd : FuncData} {ps : List Str} {sp : Sp} {dvs : List V} {ds : List Value} {E : XK} {x m : Str} {p pos apos : Pos} {e o : Expr} {es : List Expr} {ta : TE} {t : TA}
theorem run_fn {pins : List (Addr × Obj)} {σ : St} {H : Hp} {s : Shared} {Q : VK} {us : List Value} {vs : List V} (F : FnOk X.prog X.w X.K X.mg X.base CX k f fd ps sp) (hr : Room k X.A) (hb : Binds X.K fd ps ds) (hd : Vals dvs ds) (hx : Passes CX X E)
    (I : Inv X pins σ H s) (r : Vals vs us) (h : sp (vs ++ dvs) H Q E) : wpAny (model X.prog X.w) X.A (call (.ref f) us) (EP X pins σ Q) X.xe s := by
  have r2 : Vals (vs ++ dvs) (us ++ ds) := r.append hd
  have hl : (us ++ ds).length = ps.length := by rw [← r2.length]; exact F.len _ _ _ _ h
  refine wpAny_call (codeAny_mono (F.run X.A X.stack s H ⟨us, []⟩ (us ++ ds) (vs ++ dvs) Q E hr I.env0 (hb s us I.kIn hl) r2 h) fun r s' hq => ?_)
  cases r with
  | error e => exact hx pins σ H s e s' I hq
  | ok fl =>
    cases fl with
    | ret u => exact I.after hq
    | next => exact False.elim hq
    | brk => exact False.elim hq
    | cont => exact False.elim hq
theorem pe_call (F : FnOk X.prog X.w X.K X.mg X.base CX k f fd ps sp) (hr : Room k X.A) (hg : Gl X x) (hm : X.mg x = some (.ref f)) (hk : PySem.W.keepIn X.K (.ref f) = true) (hb : Binds X.K fd ps ds) (hd : Vals dvs ds) (hx : Passes CX X E)
    (ha : PA X (e :: es) t) (hdb : (x == ("__debug__" : Str)) = false := by decide) (he : starEach (e :: es) X.env = (false, eval e X.env) :: starEach es X.env := by rfl) (hpl : (backTo pos (starEach es X.env)).any (·.1) = false := by rfl) :
    PE X (.Call (.Name x p) (e :: es) [] pos) (tCall sp dvs E t) := by
  intro pins s σ H Q I h
  refine wpAny_Call_Name_kw (ld_glob I hg hm ?_ hdb)
  refine PySem.W.callWith_K (h₀ := X.base) I.ok.mod.kin hk (thn (ha pos pins s σ H _ I h) fun us s1 ⟨vs, H1, I1, r, q⟩ => ⟨I1.kIn, ?_⟩) he hpl
  exact run_fn F hr hb hd hx I1 r q
theorem pe_meth {pl : Sem Bool} (he : PE X o ta) (c : Cls X.K C) (hm : Meth X.K C m f) (F : FnOk X.prog X.w X.K X.mg X.base CX k f fd ps sp) (hr : Room k X.A) (hb : Binds X.K fd ps ds) (hd : Vals dvs ds) (hx : Passes CX X E) (ha : PA X (e :: es) t)
    (hst : starEach (e :: es) X.env = (false, eval e X.env) :: starEach es X.env := by rfl) (hpl : (backTo pos (starEach es X.env)).any (·.1) = false := by rfl)
    (ht : eval (.Call (.Attribute o m apos) (e :: es) [] pos) X.env = (do
      let ov ← eval o X.env
      standAt apos.atName
      let (f, first) ← holding [ov] (getMethod ov m pl)
      callWith pos f first (backTo pos (starEach (e :: es) X.env)) (backToKw pos (keywordEach [] X.env))) := by rfl) :
    PE X (.Call (.Attribute o m apos) (e :: es) [] pos) (tMeth C m sp dvs E ta t) := by
  intro pins s σ H Q I h
  refine PySem.W.methodCall_KW (pl := pl) (thn (he pins s σ H _ I h) fun u s1 ⟨x, H1, I1, rx, a, dx, fs, ex, ea, l, q⟩ => ?_) ht
  subst ex
  obtain rfl : u = Value.ref a := rx
  refine getmeth_ok I1 ea c hm l ?_
  refine PySem.W.callWith_K (first := [.ref a]) (h₀ := X.base) I.ok.mod.kin hm.kp (thn (ha pos pins s1 σ H1 _ I1 q) fun us s2 ⟨vs, H2, I2, r, q2⟩ => ⟨I2.kIn, ?_⟩) hst hpl
  exact run_fn (us := .ref a :: us) (vs := .ref a :: vs) F hr hb hd hx I2 (.cons rfl r) q2
theorem pe_meth0 {pl : Sem Bool} (he : PE X o ta) (c : Cls X.K C) (hm : Meth X.K C m f) (F : FnOk X.prog X.w X.K X.mg X.base CX k f fd ps sp) (hr : Room k X.A) (hb : Binds X.K fd ps ds) (hd : Vals dvs ds) (hx : Passes CX X E)
    (ht : eval (.Call (.Attribute o m apos) [] [] pos) X.env = (do
      let ov ← eval o X.env
      standAt apos.atName
      let (f, first) ← holding [ov] (getMethod ov m pl)
      callWith pos f first (backTo pos (starEach [] X.env)) (backToKw pos (keywordEach [] X.env))) := by rfl) :
    PE X (.Call (.Attribute o m apos) [] [] pos) (tMeth C m sp dvs E ta tNil) := by
  intro pins s σ H Q I h
  refine PySem.W.methodCall_KW (pl := pl) (thn (he pins s σ H _ I h) fun u s1 ⟨x, H1, I1, rx, a, dx, fs, ex, ea, l, q⟩ => ?_) ht
  subst ex
  obtain rfl : u = Value.ref a := rx
  refine getmeth_ok I1 ea c hm l ?_
  exact PySem.W.callWith_K0 (first := [.ref a]) I1.kIn hm.kp (run_fn (us := [.ref a]) (vs := [.ref a]) F hr hb hd hx I1 (.cons rfl .nil) q)
structure Mk (K : PySem.W.Frag) (C f : Addr) : Prop where
  makes : PySem.W.makesIn K C = true
  init : PySem.W.findIn K (.ref C) "__init__" = some (some (.ref f))
  fn : PySem.W.isFn K (.ref f) = true
  kp : PySem.W.keepIn K (.ref C) = true
theorem run_make {pins : List (Addr × Obj)} {σ : St} {H : Hp} {s : Shared} {Q : VK} {us : List Value} {vs : List V} (M : Mk X.K C f) (F : FnOk X.prog X.w X.K X.mg X.base CX k f fd ps sp) (hr : Room (k + 1) X.A) (hb : Binds X.K fd ps ds) (hd : Vals dvs ds)
    (hx : Passes CX X E) (I : Inv X pins σ H s) (r : Vals vs us)
    (h : ∀ x dx, H x = none → H dx = none → dx ≠ x → sp (.ref x :: (vs ++ dvs)) (upd (upd H dx (.own x)) x (.ins C dx [])) (fun v H2 => v = .non ∧ Q (.ref x) H2) E) :
    wpAny (model X.prog X.w) X.A (call (.ref C) us) (EP X pins σ Q) X.xe s := by
  have hq := h (s.heap.objs.size + 1) s.heap.objs.size (I.hok.fresh (Nat.le_succ _)) (I.hok.fresh (Nat.le_refl _)) (Nat.ne_of_lt (Nat.lt_succ_self _))
  have I2 := Inv.made (C := C) I
  have r2 : Vals (V.ref (s.heap.objs.size + 1) :: (vs ++ dvs)) (Value.ref (s.heap.objs.size + 1) :: (us ++ ds)) := .cons rfl (r.append hd)
  have hl : (Value.ref (s.heap.objs.size + 1) :: us ++ ds).length = ps.length := by
    have e := r2.length
    rw [F.len _ _ _ _ hq] at e
    exact e.symm
  refine wpAny_call (make_map (f := f) I.kIn M.makes M.init (beq_iff_eq.mp M.fn) (codeAny_mono (F.run _ X.stack _ _ ⟨Value.ref (s.heap.objs.size + 1) :: us, []⟩ (Value.ref (s.heap.objs.size + 1) :: (us ++ ds)) _ _ E (hr.make C us [])
    (I2.env0.make C us []) (hb _ (Value.ref (s.heap.objs.size + 1) :: us) I2.kIn hl) r2 hq) fun r s' hq' => ?_))
  cases r with
  | error e => exact hx pins σ _ _ e s' I2 hq'
  | ok fl =>
    cases fl with
    | ret u =>
      obtain ⟨v, H', I3, rv, ev, q3⟩ := I2.after hq'
      subst ev
      exact ⟨rv, ⟨V.ref (s.heap.objs.size + 1), H', I3, rfl, q3⟩⟩
    | next => exact False.elim hq'
    | brk => exact False.elim hq'
    | cont => exact False.elim hq'
theorem pe_make0 (M : Mk X.K C f) (F : FnOk X.prog X.w X.K X.mg X.base CX k f fd ps sp) (hr : Room (k + 1) X.A) (hg : Gl X x) (hm : X.mg x = some (.ref C)) (hb : Binds X.K fd ps ds) (hd : Vals dvs ds) (hx : Passes CX X E)
    (hdb : (x == ("__debug__" : Str)) = false := by decide) : PE X (.Call (.Name x p) [] [] pos) (tMake C sp dvs E tNil) := by
  intro pins s σ H Q I h
  refine wpAny_Call_Name_kw (ld_glob I hg hm ?_ hdb)
  exact PySem.W.callWith_K0 I.kIn M.kp (run_make (us := []) M F hr hb hd hx I .nil h)
end
section
variable {X : Cx} {CX : CXT} {k : Nat} {f C : Addr} {fd : FuncData} {ps ks : List Str} {sp : Sp} {E : XK} {x m : Str} {p pos apos kpos : Pos} {e o : Expr} {es : List Expr} {kws : List Keyword} {te ta : TE} {t tk : TA} {nm : Option Str}
variable {g : List Value → List Value → List Value} {gV : List V → List V → List V}
end
structure FnScope (N P : List Str) (sc : Scope) : Prop where
  kind : sc.kind = .function
  co : sc.isCoroutine = false
  gen : sc.isGenerator = false
  nd : N.Nodup
  pre : N.take P.length = P
  par : ∀ x ∈ P, sc.names.lookup x = some .local ∨ sc.names.lookup x = some .cell
  nofree : ∀ y ∈ sc.names, y.2 ≠ .free
theorem bindL_out {kindOf : Str → Option NameKind} {x : Str} : ∀ {binds : List (Str × Value)} {m : Str → Option Value}, (∀ v, (x, v) ∉ binds) → bindL kindOf binds m x = m x
  | [], _, _ => rfl
  | (n, v) :: r, m, h => by
    unfold bindL
    rw [bindL_out fun w hw => h w (List.mem_cons_of_mem _ hw)]
    split
    · have : x ≠ n := by rintro rfl; exact h v List.mem_cons_self
      simp [this]
    · rfl
theorem bindC_out {kindOf : Str → Option NameKind} {x : Str} : ∀ {binds : List (Str × Value)} {m : Str → Option Value}, (∀ v, (x, v) ∉ binds) → bindC kindOf binds m x = m x
  | [], _, _ => rfl
  | (n, v) :: r, m, h => by
    unfold bindC
    rw [bindC_out fun w hw => h w (List.mem_cons_of_mem _ hw)]
    split
    · rfl
    · have : x ≠ n := by rintro rfl; exact h v List.mem_cons_self
      simp [this]
theorem bindL_get {kindOf : Str → Option NameKind} {x : Str} {v : Value} : ∀ {P : List Str} {vs : List Value} {i : Nat} {m : Str → Option Value}, P.Nodup → P[i]? = some x → vs[i]? = some v → kindOf x = some .local →
    bindL kindOf (P.zip vs) m x = some v
  | [], _, _, _, _, h, _, _ => by simp at h
  | _ :: _, [], _, _, _, _, h, _ => by simp at h
  | p :: P, w :: vs, 0, m, nd, h1, h2, hk => by
    simp at h1 h2; subst h1; subst h2
    show bindL kindOf ((p, w) :: P.zip vs) m p = _
    unfold bindL
    rw [bindL_out fun v hv => (List.nodup_cons.mp nd).1 (List.of_mem_zip hv).1, if_pos hk]
    simp
  | p :: P, w :: vs, i + 1, m, nd, h1, h2, hk => by
    show bindL kindOf ((p, w) :: P.zip vs) m x = _
    unfold bindL
    exact bindL_get (i := i) (List.nodup_cons.mp nd).2 (by simpa using h1) (by simpa using h2) hk
theorem bindC_get {kindOf : Str → Option NameKind} {x : Str} {v : Value} : ∀ {P : List Str} {vs : List Value} {i : Nat} {m : Str → Option Value}, P.Nodup → P[i]? = some x → vs[i]? = some v → kindOf x ≠ some .local →
    bindC kindOf (P.zip vs) m x = some v
  | [], _, _, _, _, h, _, _ => by simp at h
  | _ :: _, [], _, _, _, _, h, _ => by simp at h
  | p :: P, w :: vs, 0, m, nd, h1, h2, hk => by
    simp at h1 h2; subst h1; subst h2
    show bindC kindOf ((p, w) :: P.zip vs) m p = _
    unfold bindC
    rw [bindC_out fun v hv => (List.nodup_cons.mp nd).1 (List.of_mem_zip hv).1, if_neg hk]
    simp
  | p :: P, w :: vs, i + 1, m, nd, h1, h2, hk => by
    show bindC kindOf ((p, w) :: P.zip vs) m x = _
    unfold bindC
    exact bindC_get (i := i) (List.nodup_cons.mp nd).2 (by simpa using h1) (by simpa using h2) hk
noncomputable def start (N : List Str) (vs : List V) : St := vs.map some ++ List.replicate (N.length - vs.length) none
noncomputable def cxOf (CX : CXT) (P : Program) (w : World) (K : PySem.W.Frag) (mg : Str → Option Value) (base : Heap) (N : List Str) (qual : Str) (scope : Scope) (f : Addr) (cd : Value) (A : Around) (outer : List Env) (s : Shared) (H : Hp) (E : XK) : Cx where
  prog := P
  w := w
  K := K
  mg := mg
  base := base
  A := A.deeper (envOfC qual scope s.heap.objs.size f cd)
  N := N
  s_0 := s
  H_0 := H
  env := envOfC qual scope s.heap.objs.size f cd
  outer := outer
  stack := envOfC qual scope s.heap.objs.size f cd :: outer
  ex := []
  calm := true
  fn := fun _ => true
  pn := []
  xe := fun e s' => wpAny (model P w) (A.deeper (envOfC qual scope s.heap.objs.size f cd)) (leaving (envOfC qual scope s.heap.objs.size f cd) e) (fun _ s'' => CX outer H s E e s'') (fun e' s'' => CX outer H s E e' s'') s'
theorem cell_has {sc : Scope} {n : Nat} {x : Str} (h : sc.names.lookup x = some .cell) : ∃ c, (cellsFrom n sc.names []).lookup x = some c := by
  have q := PySem.W.cellsFrom_some sc.names n [] (.inl h)
  exact Option.isSome_iff_exists.mp q
theorem inv_start {CX : CXT} {P : Program} {w : World} {K : PySem.W.Frag} {mg : Str → Option Value} {base : Heap} {N ps : List Str} {qual : Str} {scope : Scope} {f : Addr} {cd : Value} {A : Around} {outer : List Env} {s s1 : Shared} {H : Hp} {E : XK} {us : List Value} {vs : List V}
    (S : FnScope N ps scope) (hd : A.handled = none) (e0 : Env0 P w K mg base A outer s H) (hl : vs.length = ps.length) (r : Vals vs us)
    (x : InCallC s s.heap.objs.size (bindL (envOfC qual scope s.heap.objs.size f cd).kindOf (ps.zip us) fun _ => none) (cellsFrom (s.heap.objs.size + 1) scope.names []) (bindC (envOfC qual scope s.heap.objs.size f cd).kindOf (ps.zip us) fun _ => none) s1) :
    Inv (cxOf CX P w K mg base N qual scope f cd A outer s H E) [] (start N vs) H s1 := by
  have hpl : ps.length ≤ N.length := by have := congrArg List.length S.pre; rw [List.length_take] at this; omega
  obtain ⟨h1, tk, rfl, hk⟩ := x.done
  have noA : ∀ b : Addr, b ∉ (cxOf CX P w K mg base N qual scope f cd A outer s H E).ex := fun b z => absurd (show b ∈ ([] : List Addr) from z) (by simp)
  refine ⟨⟨e0.mod, S.kind, rfl, rfl, Nat.le_refl _, fun y z c h1 h2 => ?_, fun y hy => ?_, fun y c _ h => ?_, fun _ => hd, Around.frames_deeper e0.frames, .inr ⟨rfl, rfl⟩, fun b z => absurd z (noA b), e0.bs, e0.bsz, fun b _ _ => noA b, fun b z => absurd z (noA b), e0.funs, e0.frf⟩,
    rfl, e0.bare, Un.kept hk, ⟨_, x.toInCall.ns, fun i y v h1 h2 h3 => ?_⟩, fun y c h => ⟨_, x.cell y c h⟩, e0.hok.fresh (Nat.le_refl _), fun y c h => ?_, fun p hp => absurd (show p ∈ ([] : List (Addr × Obj)) from hp) (by simp), e0.hok.kept hk, ?_⟩
  · exact name_of_addr x.apart (PySem.mem_of_lookup h1) (PySem.mem_of_lookup h2)
  · have hy : scope.names.lookup y = some .cell ∨ scope.names.lookup y = some .free := hy
    rcases hy with hy | hy
    · exact cell_has hy
    · exact absurd rfl (S.nofree _ (PySem.mem_of_lookup hy))
  · exact Nat.le_of_lt (x.above y c (PySem.mem_of_lookup h))
  · have hi : i < vs.length := by
      unfold start at h2
      by_cases hi : i < vs.length
      · exact hi
      · rw [List.getElem?_append_right (by simpa using hi)] at h2
        rw [List.getElem?_replicate] at h2
        split at h2 <;> cases h2
    have ha : vs[i]? = some v := by
      unfold start at h2
      rw [List.getElem?_append_left (by simpa using hi), List.getElem?_map] at h2
      cases e : vs[i]? with
      | none => rw [e] at h2; cases h2
      | some a => rw [e] at h2; cases h2; rfl
    obtain ⟨u, hu, rv⟩ := r.get ha
    have hp : ps[i]? = some y := by
      rw [← S.pre, List.getElem?_take_of_lt (by omega)]; exact h1
    have ndP : ps.Nodup := by rw [← S.pre]; exact S.nd.sublist (List.take_sublist _ _)
    refine ⟨u, rv, ?_⟩
    rcases S.par y (List.mem_of_getElem? hp) with k | k
    · exact .inl ⟨k, bindL_get ndP hp hu k⟩
    · obtain ⟨c, e⟩ := cell_has (n := s.heap.objs.size + 1) k
      refine .inr ⟨.inl k, c, e, ?_⟩
      have q := x.cell y c e
      rw [bindC_get ndP hp hu (by show scope.names.lookup y ≠ _; rw [k]; decide)] at q
      exact q
  · exact e0.hok.fresh (Nat.le_of_lt (x.above y c (PySem.mem_of_lookup h)))
  · unfold start
    show _ = N.length
    rw [List.length_append, List.length_map, List.length_replicate]
    omega
theorem fn_of {CX : CXT} {P : Program} {w : World} {K : PySem.W.Frag} {mg : Str → Option Value} {base : Heap} {k : Nat} {f : Addr} {name qual : Str} {params : Arguments} {body : List Stmt} {scope : Scope} {dV kV doc pm cdv ct oc : Value} {an od : Option Addr}
    {osl : Array (Option Value)} {N ps : List Str} {sp : Sp} (lk : K.lookup f = some ⟨oc, od, .func (PySem.W.fnOf name qual params body scope dV kV doc pm an cdv ct), osl⟩) (hcd : PySem.W.codeIn K cdv qual = true) (S : FnScope N ps scope)
    (len : ∀ vs H Q E, sp vs H Q E → vs.length = ps.length)
    (hbody : ∀ (A : Around) (outer : List Env) (s : Shared) (H : Hp) (vs : List V) (Q : VK) (E : XK), Room k (A.deeper (envOfC qual scope s.heap.objs.size f cdv)) → sp vs H Q E →
      ∃ t, PSs (cxOf CX P w K mg base N qual scope f cdv A outer s H E) body t ∧ t { nx := fun _ H' => Q .non H', rt := Q } (start N vs) H) :
    FnOk P w K mg base CX (k + 1) f (PySem.W.fnOf name qual params body scope dV kV doc pm an cdv ct) ps sp := by
  refine ⟨len, fun A outer s H args us vs Q E hr e0 hb r hsp => ?_⟩
  have hl := len _ _ _ _ hsp
  have KX : K.In s.heap := e0.mod.kin.keeps fun b o e => (e0.bs b o e).1
  have lim : s.heap.NoLimit := e0.mod.nolimit.keeps fun b o e => (e0.bs b o e).1
  have hkind : ∀ y ∈ ps.zip us, scope.names.lookup y.1 = some .local ∨ (scope.names.lookup y.1 = some .cell ∧ ((cellsFrom (s.heap.objs.size + 1) scope.names []).lookup y.1).isSome = true) := fun ⟨n, v⟩ hy => by
    rcases S.par n (List.of_mem_zip hy).1 with q | q
    · exact .inl q
    · exact .inr ⟨q, PySem.W.cellsFrom_some _ _ _ (.inl q)⟩
  refine codeAny_call_function hr.depth (KX _ _ lk) rfl S.co S.gen rfl (PySem.W.codeRec_of KX hcd) (hb _ _ _ _ ?_)
  refine wpAny_newFunctionEnv_cells S.kind hkind fun env he s1 x => ?_
  subst he
  refine ⟨lim.keeps x.toInCall.keep, codeAny_func ?_⟩
  obtain ⟨t, ht, hq⟩ := hbody A outer s H vs Q E (hr.deeper _) hsp
  have I : Inv (cxOf CX P w K mg base N qual scope f cdv A outer s H E) [] (start N vs) H s1 := inv_start S hr.hd e0 hl r x
  refine wpAny_mono (ht [] s1 (start N vs) H _ I hq) (fun fl s' hs => ?_) fun e s' hs => hs
  have fin : ∀ {σ' : St} {H' : Hp} {v : V} {u : Value}, Inv (cxOf CX P w K mg base N qual scope f cdv A outer s H E) [] σ' H' s' → RelV v u → Q v H' → CE outer P w H s Q u s' :=
    fun {σ' H' v u} J rv q => ⟨v, H', J.os, J.bare, J.base, J.hok, rv, q⟩
  cases fl with
  | ret u =>
    obtain ⟨v, σ', H', J, rv, q⟩ := hs
    exact fin J rv q
  | next =>
    obtain ⟨σ', H', J, q⟩ := hs
    exact fin (v := V.non) (u := Value.none) J rfl q
  | brk =>
    obtain ⟨_, _, _, q⟩ := hs
    exact False.elim q
  | cont =>
    obtain ⟨_, _, _, q⟩ := hs
    exact False.elim q
end L2
namespace L2
open PySem PySem.Spec PyProof.Rows
section
variable {X : Cx} {x : Str} {p pos : Pos} {e : Expr} {es : List Expr} {t : TA} {id T : String} {r : List V → Hp → VK → Prop}
noncomputable def tCB (r : List V → Hp → VK → Prop) (t : TA) : TE := fun σ H Q => t σ H fun vs H1 => r vs H1 Q
theorem pe_callB (hc : CallR X (.builtin id) r) (hg : Gl X x) (hm : X.mg x = none) (hv : bootBuiltins x = some (.builtin id)) (ha : PA X (e :: es) t) (hn : x ≠ "__name__" := by decide) (hdb : (x == ("__debug__" : Str)) = false := by decide)
    (he : starEach (e :: es) X.env = (false, eval e X.env) :: starEach es X.env := by rfl) (hpl : (backTo pos (starEach es X.env)).any (·.1) = false := by rfl) : PE X (.Call (.Name x p) (e :: es) [] pos) (tCB r t) := by
  intro pins s σ H Q I h
  refine wpAny_Call_Name_kw (ld_blt I hg hm hv ?_ hn hdb)
  exact PyProof.Rows.callWith_builtin1 (thn (ha pos pins s σ H _ I h) fun us s1 ⟨vs, H1, I1, r1, q1⟩ => hc pins s1 σ H1 vs us Q I1 r1 q1) he hpl
theorem pe_callTy (hc : CallR X (.type T) r) (hg : Gl X x) (hm : X.mg x = none) (hv : bootBuiltins x = some (.type T)) (ha : PA X (e :: es) t) (hn : x ≠ "__name__" := by decide) (hdb : (x == ("__debug__" : Str)) = false := by decide)
    (he : starEach (e :: es) X.env = (false, eval e X.env) :: starEach es X.env := by rfl) (hpl : (backTo pos (starEach es X.env)).any (·.1) = false := by rfl) : PE X (.Call (.Name x p) (e :: es) [] pos) (tCB r t) := by
  intro pins s σ H Q I h
  refine wpAny_Call_Name_kw (ld_blt I hg hm hv ?_ hn hdb)
  exact PyProof.Rows.callWith_type1 (thn (ha pos pins s σ H _ I h) fun us s1 ⟨vs, H1, I1, r1, q1⟩ => hc pins s1 σ H1 vs us Q I1 r1 q1) he hpl
end
end L2
namespace HT
open PySem PyProof.Rows
section
open PySem.SeqAt
open PySem.AutoSeq1 (wpAny_loadPart')
open PySem.MeetsSeq PySem.MeetsSeq2 PySem.MeetsSeq3
end
section
variable {prog : Program} {w : World} {A : Around} {E : Value → Shared → Prop} {s : Shared}
noncomputable def sIx (n d : Nat) : Option Int → Nat
  | none => d
  | some v => if v < 0 then (v + (n : Int)).toNat else min v.toNat n
end
end HT
namespace L2
open PySem PySem.Spec PyProof.Rows
noncomputable abbrev TO := St → Hp → (Option Int → Hp → Prop) → Prop
noncomputable def PO (X : Cx) (e : Option Expr) (t : TO) : Prop :=
  ∀ (pins : List (Addr × Obj)) (s : Shared) (σ : St) (H : Hp) (Q : Option Int → Hp → Prop), Inv X pins σ H s → t σ H Q →
    wpAny (model X.prog X.w) X.A (evalPart e X.env) (fun u s' => ∃ o H', Inv X pins σ H' s' ∧ IsPart u o ∧ Q o H') X.xe s
noncomputable def tNoPart : TO := fun _ H Q => Q none H
inductive PartR (x : V) (H1 : Hp) (Q : Option Int → Hp → Prop) : Prop
  | mk (i : Int) (e : x = .int i) (q : Q (some i) H1)
noncomputable def tPart (t : TE) : TO := fun σ H Q => t σ H fun x H1 => PartR x H1 Q
section
variable {X : Cx} {e : Expr} {te : TE} {lo hi : Option Expr} {tl th : TO} {pos p2 : Pos}
theorem po_none : PO X none tNoPart := by
  intro pins s σ H Q I h
  rw [evalPart_none]
  exact wpAny_pure ⟨none, H, I, .none, h⟩
theorem po_some (h : PE X e te) : PO X (some e) (tPart te) := by
  intro pins s σ H Q I hw
  rw [evalPart_some]
  refine thn (h pins s σ H _ I hw) fun u s1 ⟨x, H1, I1, r1, q1⟩ => ?_
  obtain ⟨i, rfl, q⟩ := q1
  obtain ⟨t, rfl⟩ := r1
  exact ⟨some i, H1, I1, .int i t, q⟩
noncomputable def SlR (X : Cx) (r : V → Option Int → Option Int → Hp → VK → Prop) : Prop :=
  ∀ (pins : List (Addr × Obj)) (s : Shared) (σ : St) (H : Hp) (x : V) (v vl vu : Value) (lo hi : Option Int) (sl : Addr) (Q : VK), Inv X pins σ H s → RelV x v → s.heap.IsSliceOf sl vl vu .none → IsPart vl lo → IsPart vu hi → r x lo hi H Q →
    ∃ T id, typeLookup (.type T) "__getitem__" = pure (some (.builtin id)) ∧ s.TypeIs v T ∧ wpAny (model X.prog X.w) X.A (getItem v (.ref sl)) (EP X pins σ Q) X.xe s
noncomputable def tSl (r : V → Option Int → Option Int → Hp → VK → Prop) (te : TE) (tl th : TO) : TE := fun σ H Q => te σ H fun x H1 => tl σ H1 fun l H2 => th σ H2 fun u H3 => r x l u H3 Q
theorem pe_slice {r : V → Option Int → Option Int → Hp → VK → Prop} (hr : SlR X r) (he : PE X e te) (hl : PO X lo tl) (hu : PO X hi th) : PE X (.Subscript e (.Slice lo hi none p2) pos) (tSl r te tl th) := by
  intro pins s σ H Q I h
  refine Subscript_ (thn (he pins s σ H _ I h) fun v s1 ⟨x, H1, I1, r1, q1⟩ => ?_)
  refine wpAny_Slice (thn (hl pins s1 σ H1 _ I1 q1) fun vl s2 ⟨l, H2, I2, pl, q2⟩ => thn (hu pins s2 σ H2 _ I2 q2) fun vu s3 ⟨u, H3, I3, pu, q3⟩ => ?_)
  rw [evalPart_none]
  refine wpAny_pure ?_
  have I4 : Inv X pins σ H3 { s3 with heap := s3.heap.push { cls := .type "slice", data := .fields #[vl, vu, .none] } } := I3.kept (t' := s3.toks) fun b ob q => Heap.get?_push_of_some _ q
  obtain ⟨T, id, hT, ht, hg⟩ := hr pins { s3 with heap := s3.heap.push { cls := .type "slice", data := .fields #[vl, vu, .none] } } σ H3 x v vl vu l u s3.heap.objs.size Q I4 r1 (Heap.IsSliceOf.new ..) pl pu q3
  show wpAny (model X.prog X.w) X.A (subscriptTail e (.Slice lo hi none p2) v (.ref s3.heap.objs.size)) (EP X pins σ Q) X.xe { s3 with heap := s3.heap.push { cls := .type "slice", data := .fields #[vl, vu, .none] } }
  exact tail_any (ops := [.ref s3.heap.objs.size, v]) ht hT hg (by with_unfolding_all rfl)
noncomputable def cutV (xs : List V) (lo hi : Option Int) : List V := (xs.drop (HT.sIx xs.length 0 lo)).take (HT.sIx xs.length xs.length hi - HT.sIx xs.length 0 lo)
theorem cutV_length (xs : List V) (lo hi : Option Int) : (cutV xs lo hi).length ≤ xs.length := by
  unfold cutV
  rw [List.length_take, List.length_drop]
  omega
end
end L2
namespace L2
open PySem PySem.Spec PyProof.Rows
noncomputable def ixN (n : Nat) (i : Int) : Option Nat := if 0 ≤ i then (if i < n then some i.toNat else none) else if -(n : Int) ≤ i then some (i + n).toNat else none
noncomputable def atI {α : Type} (xs : List α) (i : Int) : Option α := (ixN xs.length i).bind fun j => xs[j]?
theorem ixN_seq {n : Nat} {i : Int} {j : Nat} (h : ixN n i = some j) : seqIndex? i n = some j ∧ j < n ∧ -(n : Int) ≤ i ∧ i < n := by
  unfold ixN at h
  by_cases h0 : 0 ≤ i
  · rw [if_pos h0] at h
    by_cases h1 : i < n
    · rw [if_pos h1] at h
      have e : i.toNat = j := Option.some.inj h
      exact ⟨by rw [seqIndex_of h0 h1, e], by omega, by omega, h1⟩
    · rw [if_neg h1] at h; cases h
  · rw [if_neg h0] at h
    by_cases h1 : -(n : Int) ≤ i
    · rw [if_pos h1] at h
      have e : (i + n).toNat = j := Option.some.inj h
      exact ⟨by rw [seqIndex_neg (by omega) h1, e], by omega, h1, by omega⟩
    · rw [if_neg h1] at h; cases h
theorem atI_get {α : Type} {xs : List α} {i : Int} {v : α} (h : atI xs i = some v) : ∃ j, seqIndex? i xs.length = some j ∧ xs[j]? = some v ∧ j < xs.length ∧ -(xs.length : Int) ≤ i ∧ i < xs.length := by
  unfold atI at h
  cases e : ixN xs.length i with
  | none => rw [e] at h; cases h
  | some j =>
    rw [e] at h
    obtain ⟨h1, h2, h3, h4⟩ := ixN_seq e
    exact ⟨j, h1, h, h2, h3, h4⟩
theorem atI_nat {α : Type} {xs : List α} {j : Nat} {v : α} (h : xs[j]? = some v) : atI xs (j : Int) = some v := by
  have hj : j < xs.length := (List.getElem?_eq_some_iff.mp h).1
  have e : ixN xs.length (j : Int) = some j := by
    unfold ixN
    rw [if_pos (by omega), if_pos (by omega)]; simp
  unfold atI; rw [e]; exact h
theorem atI_last {α : Type} (xs : List α) (v : α) : atI (xs ++ [v]) (-1) = some v := by
  have hl : (xs ++ [v]).length = xs.length + 1 := by simp
  have e : ixN (xs ++ [v]).length (-1) = some xs.length := by
    unfold ixN
    rw [hl, if_neg (by decide), if_pos (by omega)]
    congr 1
    omega
  unfold atI
  rw [e]
  show (xs ++ [v])[xs.length]? = some v
  simp
noncomputable def PlainIx (b : Expr) : Prop := ∀ o i, subscripted b false o i = operate [o, i] (getItem o i)
noncomputable def IxR (X : Cx) (r : R2) : Prop :=
  ∀ (value slice : Expr) (pins : List (Addr × Obj)) (s : Shared) (σ : St) (H : Hp) (x y : V) (v u : Value) (Q : VK), Inv X pins σ H s → RelV x v → RelV y u → r x y H Q →
    subscripted slice false v u = operate [v, u] (getItem v u) → wpAny (model X.prog X.w) X.A (subscriptTail value slice v u) (EP X pins σ Q) X.xe s
noncomputable def MtR (X : Cx) (id : String) (r : V → List V → Hp → VK → Prop) : Prop :=
  ∀ (pins : List (Addr × Obj)) (s : Shared) (σ : St) (H : Hp) (x : V) (xs : List V) (v : Value) (us : List Value) (Q : VK), Inv X pins σ H s → RelV x v → Vals xs us → r x xs H Q →
    wpAny (model X.prog X.w) X.A (call (.builtin id) (v :: us)) (EP X pins σ Q) X.xe s
section
variable {X : Cx} {a b : Expr} {ta tb : TE} {pos : Pos}
theorem pe_ix {r : R2} (hr : IxR X r) (ha : PE X a ta) (hb : PE X b tb) (hs : PlainIx b) : PE X (.Subscript a b pos) (tOp r ta tb) := by
  intro pins s σ H Q I h
  exact Subscript_ (binT ha hb I h fun v u s2 x y H2 I2 rx ry q => hr a b pins s2 σ H2 x y v u Q I2 rx ry q (hs _ _))
inductive RIxLR (K : PySem.W.Frag) (x y : V) (H : Hp) (Q : VK) : Prop
  | mk (p : Addr) (xs : List V) (i : Int) (v : V) (ex : x = .ref p) (ey : y = .int i) (h : SqL K H p xs) (e : atI xs i = some v) (q : Q v H)
noncomputable def rIxL (K : PySem.W.Frag) : R2 := fun x y H Q => RIxLR K x y H Q
inductive RIxTR (K : PySem.W.Frag) (x y : V) (H : Hp) (Q : VK) : Prop
  | mk (p : Addr) (xs : List V) (i : Int) (v : V) (ex : x = .ref p) (ey : y = .int i) (h : SqT K H p xs) (e : atI xs i = some v) (q : Q v H)
noncomputable def rIxT (K : PySem.W.Frag) : R2 := fun x y H Q => RIxTR K x y H Q
theorem ix_list : IxR X (rIxL X.K) := by
  intro value slice pins s σ H x y v u Q I rx ry h hs
  obtain ⟨p, xs, i, z, rfl, rfl, hq, he, q⟩ := h
  cases rx
  obtain ⟨t, rfl⟩ := ry
  obtain ⟨its, r, pl, hz⟩ := I.list hq
  obtain ⟨j, h1, h2, h3, h4, h5⟩ := atI_get he
  obtain ⟨w, ew, rw'⟩ := r.get h2
  have hl := r.length
  have hn := line63
  have fin : EP X pins σ Q w s := ⟨z, H, I, rw', q⟩
  by_cases h0 : 0 ≤ i
  · have hj : i.toNat = j := by
      rw [seqIndex_of h0 h5] at h1
      exact Option.some.inj h1
    exact item_listR pl.isList h0 (by omega) (by rw [hj]; simpa using ew) fin hs
  · have hj : (i + (its.toArray.size : Int)).toNat = j := by
      rw [seqIndex_neg (by omega) h4] at h1
      rw [List.size_toArray, ← hl]
      exact Option.some.inj h1
    exact subscriptTail_builtinR (x := w) pl.isList.typeIs slot_list_getitem.lookup
      (wpAny_getItem_list_neg (Q := fun r s' => r = w ∧ EP X pins σ Q r s') pl.isList (by omega) (by rw [List.size_toArray] <;> omega) (by omega) (by rw [hj]; simpa using ew) ⟨rfl, fin⟩) hs
theorem ix_tup : IxR X (rIxT X.K) := by
  intro value slice pins s σ H x y v u Q I rx ry h hs
  obtain ⟨p, xs, i, z, rfl, rfl, hq, he, q⟩ := h
  cases rx
  obtain ⟨t, rfl⟩ := ry
  obtain ⟨its, r, pl, hz⟩ := I.tuple hq
  obtain ⟨j, h1, h2, h3, h4, h5⟩ := atI_get he
  obtain ⟨w, ew, rw'⟩ := r.get h2
  have hl := r.length
  have hn := line63
  have fin : EP X pins σ Q w s := ⟨z, H, I, rw', q⟩
  exact subscriptTail_builtinR (x := w) pl.typeIs slot_tuple_getitem.lookup
    (getItem_tuple (j := j) (Q := fun r s' => r = w ∧ EP X pins σ Q r s') pl (by omega) (by omega) (by rw [List.size_toArray, ← hl]; exact h1) (by simpa using ew) ⟨rfl, fin⟩) hs
theorem slice_bounds (lo hi : Option Int) (n : Nat) : (sliceBounds lo hi none n).1 = ((HT.sIx n 0 lo : Nat) : Int) ∧ (sliceBounds lo hi none n).2.1 = ((HT.sIx n n hi : Nat) : Int) ∧ (sliceBounds lo hi none n).2.2 = 1 := by
  refine ⟨?_, ?_, rfl⟩
  · cases lo with
    | none => simp [sliceBounds, HT.sIx]
    | some i =>
      simp only [sliceBounds, HT.sIx, Option.getD_none, show (1 : Int) > 0 by decide, if_true]
      by_cases h : i < 0
      · simp only [h, if_true] <;> omega
      · simp only [h, if_false] <;> omega
  · cases hi with
    | none => simp [sliceBounds, HT.sIx]
    | some i =>
      simp only [sliceBounds, HT.sIx, Option.getD_none, show (1 : Int) > 0 by decide, if_true]
      by_cases h : i < 0
      · simp only [h, if_true] <;> omega
      · simp only [h, if_false] <;> omega
theorem slicePick_cut (its : List Value) (lo hi : Option Int) : slicePick its.toArray lo hi none = ((its.drop (HT.sIx its.length 0 lo)).take (HT.sIx its.length its.length hi - HT.sIx its.length 0 lo)).toArray := by
  obtain ⟨h1, h2, h3⟩ := slice_bounds lo hi its.toArray.size
  unfold slicePick
  rw [h1, h2, h3]
  simp only [sliceRange_one, pick_run, List.size_toArray] <;> rfl
inductive SlLR (K : PySem.W.Frag) (x : V) (lo hi : Option Int) (H : Hp) (Q : VK) : Prop
  | mk (a : Addr) (xs : List V) (e : x = .ref a) (h : SqL K H a xs) (q : ∀ p, H p = none → Q (.ref p) (upd H p (.lst (cutV xs lo hi))))
noncomputable def rSlL (K : PySem.W.Frag) : V → Option Int → Option Int → Hp → VK → Prop := fun x lo hi H Q => SlLR K x lo hi H Q
theorem sl_list : SlR X (rSlL X.K) := by
  intro pins s σ H x v vl vu lo hi sl Q I rx hs pl pu h
  obtain ⟨a, xs, rfl, hx, q⟩ := h
  cases rx
  obtain ⟨its, r, ht, hz⟩ := I.list hx
  have hlen := r.length
  refine ⟨"list", _, slot_list_getitem.lookup, ht.isList.typeIs, ?_⟩
  refine wpAny_getItem_list_slice ht.isList hs pl pu .none (by simp) ?_ (by rw [List.size_toArray] <;> omega)
  rw [slicePick_cut, ← hlen]
  refine ⟨.ref s.heap.objs.size, _, I.laid (t' := s.toks) (o := .lst (cutV xs lo hi)) (fun b ob q => Heap.get?_push_of_some _ q) (Nat.le_refl _) ?_, rfl, q _ (I.hok.fresh (Nat.le_refl _))⟩
  exact ⟨Nat.le_trans (cutV_length xs lo hi) hz, _, 0, (r.drop (HT.sIx xs.length 0 lo)).take (HT.sIx xs.length xs.length hi - HT.sIx xs.length 0 lo), Heap.get?_push_size _ rfl⟩
noncomputable def flatV : V → Bool
  | .non => true
  | .bl _ => true
  | .int _ => true
  | .str _ => true
  | _ => false
noncomputable def eqV : V → V → Bool
  | .non, .non => true
  | .bl a, .bl b => a == b
  | .bl a, .int b => (if a then 1 else 0) == b
  | .int a, .bl b => a == (if b then 1 else 0)
  | .int a, .int b => a == b
  | .str a, .str b => a == b
  | _, _ => false
theorem eqAt_V {A : Around} {s : Shared} {y x : V} {u v : Value} (ry : RelV y u) (rx : RelV x v) (fy : flatV y = true) (fx : flatV x = true) : SeqAt.EqAt A s u v (eqV y x) := by
  cases y with
  | non =>
    cases ry
    cases x with
    | non => cases rx; exact SeqAt.EqAt.same _
    | bl b => cases rx; exact SeqAt.EqAt.none_bool b
    | int b => obtain ⟨t, rfl⟩ := rx; exact SeqAt.EqAt.none_int b t
    | str b => obtain ⟨t, rfl⟩ := rx; exact SeqAt.EqAt.none_str b t
    | _ => exact absurd (show false = true from fx) Bool.false_ne_true
  | bl a =>
    cases ry
    cases x with
    | non => cases rx; exact SeqAt.EqAt.bool_none a
    | bl b => cases rx; exact SeqAt.EqAt.bool_bool a b
    | int b => obtain ⟨t, rfl⟩ := rx; exact SeqAt.EqAt.bool_int a b t
    | str b => obtain ⟨t, rfl⟩ := rx; exact SeqAt.EqAt.bool_str a b t
    | _ => exact absurd (show false = true from fx) Bool.false_ne_true
  | int a =>
    obtain ⟨t', rfl⟩ := ry
    cases x with
    | non => cases rx; exact SeqAt.EqAt.int_none a t'
    | bl b => cases rx; exact SeqAt.EqAt.int_bool a t' b
    | int b => obtain ⟨t, rfl⟩ := rx; exact SeqAt.EqAt.int_int a t' b t
    | str b => obtain ⟨t, rfl⟩ := rx; exact SeqAt.EqAt.int_str a t' b t
    | _ => exact absurd (show false = true from fx) Bool.false_ne_true
  | str a =>
    obtain ⟨t', rfl⟩ := ry
    cases x with
    | non => cases rx; exact SeqAt.EqAt.str_none a t'
    | bl b => cases rx; exact SeqAt.EqAt.str_bool a t' b
    | int b => obtain ⟨t, rfl⟩ := rx; exact SeqAt.EqAt.str_int a t' b t
    | str b => obtain ⟨t, rfl⟩ := rx; exact SeqAt.EqAt.str_str a t' b t
    | _ => exact absurd (show false = true from fx) Bool.false_ne_true
  | _ => exact absurd (show false = true from fy) Bool.false_ne_true
noncomputable def eqU (x : V) (u : Value) : Bool := match u with
  | .none => eqV .non x
  | .bool b => eqV (.bl b) x
  | .int i _ => eqV (.int i) x
  | .str z _ => eqV (.str z) x
  | _ => false
theorem eqU_of {x y : V} {u : Value} (r : RelV y u) (f : flatV y = true) : eqU x u = eqV y x := by
  cases y with
  | non => cases r; rfl
  | bl b => cases r; rfl
  | int i => obtain ⟨t, rfl⟩ := r; rfl
  | str z => obtain ⟨t, rfl⟩ := r; rfl
  | _ => exact absurd (show false = true from f) Bool.false_ne_true
theorem any_eqU {x : V} : ∀ {xs : List V} {us : List Value}, Vals xs us → xs.all flatV = true → us.any (eqU x) = xs.any fun y => eqV y x
  | _, _, .nil, _ => rfl
  | y :: xs, u :: us, .cons r t, f => by
    rw [List.all_cons, Bool.and_eq_true] at f
    rw [List.any_cons, List.any_cons, eqU_of r f.1, any_eqU t f.2]
theorem mem_eqAt {A : Around} {s : Shared} {x : V} {v : Value} (rx : RelV x v) (fx : flatV x = true) : ∀ {xs : List V} {us : List Value}, Vals xs us → xs.all flatV = true → ∀ u ∈ us, SeqAt.EqAt A s u v (eqU x u)
  | _, _, .nil, _ => fun u hu => by cases hu
  | y :: xs, u :: us, .cons r t, f => fun u' hu => by
    rw [List.all_cons, Bool.and_eq_true] at f
    rcases List.mem_cons.mp hu with rfl | hu
    · rw [eqU_of r f.1]; exact eqAt_V r rx f.1 fx
    · exact mem_eqAt rx fx t f.2 u' hu
noncomputable def inV (x : V) (xs : List V) : Bool := xs.any fun y => eqV y x
inductive InR (K : PySem.W.Frag) (neg : Bool) (x y : V) (H : Hp) (Q : VK) : Prop
  | mk (p : Addr) (xs : List V) (e : y = .ref p) (h : SqL K H p xs ∨ SqT K H p xs) (fx : flatV x = true) (fs : xs.all flatV = true) (q : Q (.bl (if neg then !inV x xs else inV x xs)) H)
noncomputable def rIn (K : PySem.W.Frag) (neg : Bool) : R2 := fun x y H Q => InR K neg x y H Q
theorem op_in_seq : OpR X (compareOp .In) (rIn X.K false) := by
  intro pins s σ H x y v u Q I rx ry h
  obtain ⟨p, xs, rfl, hq, fx, fs, q⟩ := h
  cases ry
  rcases hq with hq | hq
  · obtain ⟨its, r, pl, hz⟩ := I.list hq
    refine SeqAt.in_listAt (eqU x) pl.isList (fun w hw => mem_eqAt rx fx r fs w (by simpa using hw)) ⟨.bl _, H, I, rfl, ?_⟩
    rw [show its.toArray.any (eqU x) = its.any (eqU x) by simp, any_eqU r fs]
    exact q
  · obtain ⟨its, r, pl, hz⟩ := I.tuple hq
    refine SeqAt.in_tupleAt (eqU x) pl (fun w hw => mem_eqAt rx fx r fs w (by simpa using hw)) ⟨.bl _, H, I, rfl, ?_⟩
    rw [show its.toArray.any (eqU x) = its.any (eqU x) by simp, any_eqU r fs]
    exact q
theorem op_notIn_seq : OpR X (compareOp .NotIn) (rIn X.K true) := by
  intro pins s σ H x y v u Q I rx ry h
  obtain ⟨p, xs, rfl, hq, fx, fs, q⟩ := h
  cases ry
  rcases hq with hq | hq
  · obtain ⟨its, r, pl, hz⟩ := I.list hq
    refine SeqAt.notIn_listAt (eqU x) pl.isList (fun w hw => mem_eqAt rx fx r fs w (by simpa using hw)) ⟨.bl _, H, I, rfl, ?_⟩
    rw [show its.toArray.any (eqU x) = its.any (eqU x) by simp, any_eqU r fs]
    exact q
  · obtain ⟨its, r, pl, hz⟩ := I.tuple hq
    refine SeqAt.notIn_tupleAt (eqU x) pl (fun w hw => mem_eqAt rx fx r fs w (by simpa using hw)) ⟨.bl _, H, I, rfl, ?_⟩
    rw [show its.toArray.any (eqU x) = its.any (eqU x) by simp, any_eqU r fs]
    exact q
inductive LenR (K : PySem.W.Frag) (xs : List V) (H : Hp) (Q : VK) : Prop
  | mk (p : Addr) (ys : List V) (e : xs = [.ref p]) (h : SqL K H p ys ∨ SqT K H p ys) (q : Q (.int ys.length) H)
theorem call_len_seq : CallR X (.builtin "len") (LenR X.K) := by
  intro pins s σ H xs us Q I r h
  obtain ⟨p, ys, rfl, hq, q⟩ := h
  obtain ⟨u, rfl, rx⟩ := vals1 r
  cases rx
  have hn := line63
  rcases hq with hq | hq
  · obtain ⟨its, r', pl, hz⟩ := I.list hq
    have hlen := r'.length
    exact Calls.call_len_list pl.isList (by simp only [List.size_toArray] <;> omega) ⟨.int ys.length, H, I.tok _, ⟨s.toks + 1, by rw [List.size_toArray, hlen]⟩, q⟩
  · obtain ⟨its, r', pl, hz⟩ := I.tuple hq
    have hlen := r'.length
    exact len_tuple pl (by simp only [List.size_toArray] <;> omega) ⟨.int ys.length, H, I.tok _, ⟨s.toks + 1, by rw [List.size_toArray, hlen]⟩, q⟩
theorem call_tuple_of : CallR X (.type "tuple") (fun xs H Q => ∃ p ys, xs = [.ref p] ∧ ((SqL X.K H p ys ∧ ∀ l, H l = none → Q (.ref l) (upd H l (.tup ys))) ∨ (SqT X.K H p ys ∧ Q (.ref p) H))) := by
  intro pins s σ H xs us Q I r h
  obtain ⟨p, ys, rfl, h⟩ := h
  obtain ⟨u, rfl, rx⟩ := vals1 r
  cases rx
  rcases h with ⟨hq, q⟩ | ⟨hq, q⟩
  · obtain ⟨its, r', pl, hz⟩ := I.list hq
    have hlen := r'.length
    refine call_tuple_list pl.isList (fun h' kp => ?_) (by simp only [List.size_toArray] <;> omega)
    have I1 : Inv X pins σ H { s with heap := h' } := I.kept (t' := s.toks) kp
    have I2 : Inv X pins σ (upd H h'.objs.size (.tup ys)) { s with heap := h'.push { cls := .type "tuple", data := .seq its.toArray } } :=
      I1.laid (t' := s.toks) (fun b o e => Heap.get?_push_of_some _ e) (Nat.le_refl _) (show ObjOk X.prog X.w _ _ _ (.tup ys) from ⟨hz, its, r', IsTup.new _ _⟩)
    exact ⟨.ref h'.objs.size, _, I2, rfl, q _ (I1.hok.fresh (Nat.le_refl _))⟩
  · obtain ⟨its, r', pl, hz⟩ := I.tuple hq
    exact call_tuple_same pl ⟨.ref p, H, I, rfl, q⟩
noncomputable def tyV (K : PySem.W.Frag) (T : String) (x : V) (H : Hp) : Prop := match x with
  | .str _ => T = "str"
  | .int _ => T = "int"
  | .ref p => (T = "list" ∧ ∃ xs, SqL K H p xs) ∨ (T = "tuple" ∧ ∃ o, K.lookup p = some o ∧ o.cls = .type "tuple" ∧ o.dict = none) ∨
      (T = "dict" ∧ ((∃ kvs, H p = some (.dK kvs)) ∨ ∃ kvs, H p = some (.dT kvs))) ∨ (T = "set" ∧ ∃ S n, H p = some (.set S n))
  | _ => False
theorem tyV_is {pins : List (Addr × Obj)} {σ : St} {H : Hp} {s : Shared} {T : String} {x : V} {v : Value} (I : Inv X pins σ H s) (r : RelV x v) (ty : tyV X.K T x H) :
    s.TypeIs v T ∧ ∀ a, v = .ref a → ∃ ob, s.heap.get? a = some ob ∧ ob.dict = none := by
  cases x with
  | str z =>
    obtain ⟨t, rfl⟩ := r
    cases (show T = "str" from ty)
    exact ⟨typeIs_str s z t, fun _ e => nomatch e⟩
  | int i =>
    obtain ⟨t, rfl⟩ := r
    cases (show T = "int" from ty)
    exact ⟨typeIs_int s i t, fun _ e => nomatch e⟩
  | ref p =>
    cases r
    rcases ty with ⟨rfl, xs, hq⟩ | ⟨rfl, o, hk, hc, hd⟩ | ⟨rfl, hk⟩ | ⟨rfl, S, n, hk⟩
    · obtain ⟨its, _, pl, _⟩ := I.list hq
      refine ⟨pl.isList.typeIs, fun a e => ?_⟩
      cases e
      obtain ⟨o, n, e, c, hd, _⟩ := pl
      exact ⟨o, e, hd⟩
    · refine ⟨⟨o, I.kIn p o hk, hc⟩, fun a e => ?_⟩
      cases e
      exact ⟨o, I.kIn _ o hk, hd⟩
    · have z : ∃ o, s.heap.get? p = some o ∧ o.ExactDict := by
        rcases hk with ⟨kvs, hk⟩ | ⟨kvs, hk⟩
        · obtain ⟨_, _, _, _, o, _, _, e, ex, _⟩ := I.hok p _ hk
          exact ⟨o, e, ex⟩
        · obtain ⟨_, _, _, _, o, _, _, e, ex, _⟩ := I.hok p _ hk
          exact ⟨o, e, ex⟩
      obtain ⟨o, e, ex⟩ := z
      refine ⟨⟨o, e, ex.1⟩, fun a e2 => ?_⟩
      cases e2
      exact ⟨o, e, ex.2.1⟩
    · obtain ⟨o, _, _, _, e, ex, _⟩ := I.hok p _ hk
      refine ⟨⟨o, e, ex.1⟩, fun a e2 => ?_⟩
      cases e2
      exact ⟨o, e, ex.2.1⟩
  | _ => exact False.elim ty
noncomputable def tBM (K : PySem.W.Frag) (T : String) (r : V → List V → Hp → VK → Prop) (to : TE) (t : TA) : TE := fun σ H Q => to σ H fun x H1 => tyV K T x H1 ∧ t σ H1 fun xs H2 => r x xs H2 Q
variable {o e : Expr} {es : List Expr} {to : TE} {t : TA} {name : Str} {apos cpos : Pos} {T id : String} {r : V → List V → Hp → VK → Prop}
theorem pe_bm (pa : PlainAttrs T) (slot : Slot T name id) (hty : typeOf (.builtin id) = pure (.type "method_descriptor")) (hm : MtR X id r) (ho : PE X o to) (ha : PA X (e :: es) t)
    (hbase : attributeBase o name X.env (eval o X.env) = eval o X.env := by rfl)
    (hfew : ((backTo cpos (starEach (e :: es) X.env)).all (fun x => !x.1) && (backToKw cpos (keywordEach [] X.env)).all (fun x => x.1.isSome)
      && decide ((e :: es).length + ([] : List Keyword).length + (if ([] : List Keyword).isEmpty then 0 else 1) < 30)) = true := by rfl)
    (hline : (apos.endLine == cpos.line) = true := by rfl) (hs : starEach (e :: es) X.env = (false, eval e X.env) :: starEach es X.env := by rfl) (hplain : (backTo cpos (starEach es X.env)).any (·.1) = false := by rfl) :
    PE X (.Call (.Attribute o name apos) (e :: es) [] cpos) (tBM X.K T r to t) := by
  intro pins s σ H Q I h
  refine wpAny_Call_method_late hbase hfew hline rfl (thn (ho pins s σ H _ I h) fun v s1 ⟨x, H1, I1, r1, ty, q1⟩ => ?_)
  obtain ⟨h1, h2⟩ := tyV_is I1 r1 ty
  refine ⟨T, id, pa, slot, hty, h1, h2, ?_⟩
  have hA := ha cpos pins s1 σ H1 _ I1 q1
  rw [hs] at hA ⊢
  refine Calls.callWith_builtin (by show (false || (backTo cpos (starEach es X.env)).any (·.1)) = false; rw [hplain] <;> rfl) (Calls.evalArgs_plain ?_)
  exact thn hA fun us s2 ⟨vs, H2, I2, r2, q2⟩ => hm pins s2 σ H2 x vs v us Q I2 r1 r2 q2
end
end L2
namespace L2
open PySem PySem.Spec PyProof.Rows
noncomputable def MtM (X : Cx) (id : String) (r : V → List V → Hp → VK → Prop) : Prop :=
  ∀ (pins : List (Addr × Obj)) (s : Shared) (σ : St) (H : Hp) (x : V) (xs : List V) (v : Value) (us : List Value) (Q : VK), Inv X pins σ H s → RelV x v → Vals xs us → r x xs H Q →
    wpAny (model X.prog X.w) X.A (call (.builtin id) (v :: us)) (EP X pins σ Q) X.xe s
theorem Vals.one : ∀ {x : V} {us : List Value}, Vals [x] us → ∃ u, us = [u] ∧ RelV x u
  | _, _, .cons r .nil => ⟨_, rfl, r⟩
section
variable {X : Cx} {pins : List (Addr × Obj)} {σ : St} {H : Hp} {s : Shared} {l b : Addr} {xs ys zs : List V}
theorem Inv.lset {its its' : List Value} {n : Nat} {f : Array Value → Array Value} {t' : Nat} (I : Inv X pins σ H s) (hH : H l = some (.lst xs))
    (e : s.heap.get? l = some { cls := .type "list", data := .seq its.toArray n }) (hf : f its.toArray = its'.toArray) (hv : Vals ys its') (hz : ys.length ≤ sizeLine) :
    Inv X pins σ (upd H l (.lst ys)) { s with heap := s.heap.update l (Obj.mapSeq f), toks := t' } := by
  have q := PySem.IsL.update e f
  rw [hf] at q
  refine I.write (x := l) (e := l) (by rw [hH]; exact trivial) (.inl rfl) (fun b' u hb hu => (Heap.get?_update_other s.heap (Obj.mapSeq f) (Ne.symm hb)).trans hu) ⟨_, q⟩ ?_
  exact ⟨hz, its', _, hv, q⟩
theorem Inv.lnew {its : List Value} {t' : Nat} (I : Inv X pins σ H s) (hv : Vals ys its) (hz : ys.length ≤ sizeLine) :
    Inv X pins σ (upd H s.heap.objs.size (.lst ys)) { s with heap := s.heap.push { cls := .type "list", data := .seq its.toArray }, toks := t' } :=
  I.laid (fun _ _ q => Heap.get?_push_of_some _ q) (Nat.le_refl _) ⟨hz, its, 0, hv, Heap.get?_push_size _ rfl⟩
theorem Inv.fresh (I : Inv X pins σ H s) : H s.heap.objs.size = none := I.hok.fresh (Nat.le_refl _)
theorem Inv.lstM (I : Inv X pins σ H s) (hH : H l = some (.lst xs)) : xs.length ≤ sizeLine ∧ ∃ (its : List Value) (n : Nat), Vals xs its ∧ xs.length = its.length ∧ s.heap.get? l = some { cls := .type "list", data := .seq its.toArray n } := by
  obtain ⟨z, its, n, r, e⟩ := I.hok l _ hH
  exact ⟨z, its, n, r, r.length, e⟩
theorem notLongL {n : Nat} (h : n ≤ sizeLine) : Builtin.List.listTooLong n = false := by
  unfold Builtin.List.listTooLong
  exact decide_eq_false (by omega)
end
section
variable {X : Cx}
inductive AppendR (x : V) (vs : List V) (H : Hp) (Q : VK) : Prop
  | mk (l : Addr) (xs : List V) (y : V) (e : x = .ref l) (ev : vs = [y]) (h : H l = some (.lst xs)) (z : xs.length < sizeLine) (q : Q .non (upd H l (.lst (xs ++ [y]))))
noncomputable def rAppend : V → List V → Hp → VK → Prop := fun x vs H Q => AppendR x vs H Q
theorem mt_append : MtM X "list.append" rAppend := by
  intro pins s σ H x vs v us Q I rx rv h
  obtain ⟨l, xs, y, rfl, rfl, hH, hz, q⟩ := h
  cases rx
  obtain ⟨u, rfl, ru⟩ := rv.one
  obtain ⟨z, its, n, r, hl, e⟩ := I.lstM hH
  refine call_meets F.slot_list_append ⟨_, e, rfl⟩ F.entry_list_append (F.args_list_append_2 _ _) (PySem.list_append l its.toArray n u (by rw [List.size_toArray]; omega)) ⟨e, ?_⟩
  refine ⟨.non, _, I.lset (its' := its ++ [u]) hH e (by simp) (r.append (.cons ru .nil)) ?_, rfl, q⟩
  rw [List.length_append, List.length_singleton]
  omega
noncomputable def rExtend : V → List V → Hp → VK → Prop := fun x vs H Q => ∃ l b xs zs, x = .ref l ∧ vs = [.ref b] ∧ H l = some (.lst xs) ∧ H b = some (.lst zs) ∧ xs.length + zs.length ≤ sizeLine ∧ Q .non (upd H l (.lst (xs ++ zs)))
theorem mt_extend : MtM X "list.extend" rExtend := by
  intro pins s σ H x vs v us Q I rx rv h
  obtain ⟨l, b, xs, zs, rfl, rfl, hH, hB, hz, q⟩ := h
  cases rx
  obtain ⟨u, rfl, ru⟩ := rv.one
  cases ru
  obtain ⟨z, its, n, r, hl, e⟩ := I.lstM hH
  obtain ⟨z2, its2, n2, r2, hl2, e2⟩ := I.lstM hB
  have hsz : its.toArray.size + its2.toArray.size ≤ sizeLine := by rw [List.size_toArray, List.size_toArray]; omega
  have hlong : ¬ (!its.toArray.isEmpty && Builtin.List.listTooLong (its.toArray.size + its2.toArray.size)) = true := by
    rw [notLongL hsz, Bool.and_false]
    exact Bool.false_ne_true
  refine call_meets F.slot_list_extend ⟨_, e, rfl⟩ F.entry_list_extend (F.args_list_extend_2 _ _)
    (AutoSeq1.list_extend_list_list_0 l its.toArray n b its2.toArray n2 hlong (by rw [List.size_toArray]; omega) (by omega)) ⟨e, e2, ?_⟩
  refine ⟨.non, _, I.lset (its' := its ++ its2) hH e (by simp) (r.append r2) ?_, rfl, q⟩
  rw [List.length_append]
  omega
inductive CatR (x y : V) (H : Hp) (Q : VK) : Prop
  | mk (l b : Addr) (xs zs : List V) (ex : x = .ref l) (ey : y = .ref b) (hl : H l = some (.lst xs)) (hb : H b = some (.lst zs)) (z : xs.length + zs.length ≤ sizeLine) (q : ∀ p, H p = none → Q (.ref p) (upd H p (.lst (xs ++ zs))))
noncomputable def rCat : R2 := fun x y H Q => CatR x y H Q
theorem op_cat : OpR X (binaryOp .Add) rCat := by
  intro pins s σ H x y v u Q I rx ry h
  obtain ⟨l, b, xs, zs, rfl, rfl, hH, hB, hz, q⟩ := h
  cases rx
  cases ry
  obtain ⟨z, its, n, r, hl, e⟩ := I.lstM hH
  obtain ⟨z2, its2, n2, r2, hl2, e2⟩ := I.lstM hB
  refine PySem.P.add_list e e2 ?_ (by rw [List.size_toArray, List.size_toArray]; omega)
  have ea : its.toArray ++ its2.toArray = (its ++ its2).toArray := by simp
  rw [ea]
  exact ⟨.ref _, _, I.lnew (t' := s.toks) (r.append r2) (by rw [List.length_append]; omega), rfl, q _ I.fresh⟩
end
section
variable {prog : Program} {w : World} {A : Around} {E : Value → Shared → Prop} {s : Shared}
set_option maxRecDepth 100000 in
end
section
variable {X : Cx}
end
end L2
namespace L2
open PySem PySem.Spec PyProof.Rows
theorem Vals.ints : ∀ {ns : List Int} {us : List Value}, Vals (ns.map V.int) us → IntsAre us ns
  | [], us, h => by
    rw [List.map_nil] at h
    cases h
    exact IntsAre.nil
  | n :: ns, us, h => by
    rw [List.map_cons] at h
    cases h with
    | cons r t =>
      obtain ⟨k, rfl⟩ := r
      exact IntsAre.cons n k (Vals.ints t)
theorem vals_of_ints : ∀ {us : List Value} {ns : List Int}, IntsAre us ns → Vals (ns.map V.int) us
  | _, _, .nil => by rw [List.map_nil]; exact Paired.nil
  | _, _, .cons n t h => by rw [List.map_cons]; exact Paired.cons (show RelV (V.int n) (Value.int n t) from ⟨t, rfl⟩) (vals_of_ints h)
theorem Vals.bls : ∀ {bs : List Bool} {us : List Value}, Vals (bs.map V.bl) us → us = bs.map Value.bool
  | [], us, h => by
    rw [List.map_nil] at h
    cases h
    rfl
  | b :: bs, us, h => by
    rw [List.map_cons] at h
    cases h with
    | cons r t =>
      cases r
      rw [Vals.bls t, List.map_cons]
theorem Vals.ref1 {a : Addr} {us : List Value} (r : Vals [V.ref a] us) : us = [Value.ref a] := by
  cases r with
  | cons r t =>
    cases t
    cases r
    rfl
section
variable {prog : Program} {w : World} {A : Around} {E : Value → Shared → Prop} {s : Shared} {l : Addr} {its : List Value} {ns : List Int} {Q : Value → Shared → Prop}
theorem max_raw (hh : A.handled = none) (hl : s.heap.IsList l its.toArray) (hi : IntsAre its ns) (hne : 0 < ns.length)
    (h : ∀ h' tk M t', (∀ b o, s.heap.get? b = some o → h'.get? b = some o) → M ∈ ns → (∀ a, a ∈ ns → a ≤ M) → Q (.int M t') { s with heap := h', toks := tk }) : wpAny (model prog w) A (call (.builtin "max") [.ref l]) Q E s := by
  obtain ⟨xs, e⟩ := hi.allInts.items
  have hn : numsOf (intItems xs).toList = ns := by rw [← e]; exact hi.numsOf
  rw [nums_intItems] at hn
  subst hn
  rw [e] at hl
  have hsz : 0 < xs.size := by simpa using hne
  refine PySem.max_intList hh hl hsz fun v h' tk hv hk => ?_
  obtain ⟨t, rfl⟩ := intItems_at hv
  obtain ⟨h1, h2⟩ := argBest_gt (numAt xs) (xs.size - 1)
  refine h h' tk _ t hk ?_ fun a ha => ?_
  · rw [numAt_eq]; exact PySem.getD_mem (by rw [List.length_map, Array.length_toList]; omega)
  · obtain ⟨j, hj, rfl⟩ := mem_getD ha
    rw [List.length_map, Array.length_toList] at hj
    rw [← numAt_eq]; exact h2 j (by omega)
end
section
variable {X : Cx}
noncomputable def rMax (K : PySem.W.Frag) : List V → Hp → VK → Prop := fun vs H Q => ∃ (a : Addr) (ns : List Int), vs = [V.ref a] ∧ SqL K H a (ns.map V.int) ∧ 0 < ns.length ∧ ∀ m, m ∈ ns → (∀ y, y ∈ ns → y ≤ m) → Q (.int m) H
theorem cr_max (hc : X.calm = true) : CallR X (.builtin "max") (rMax X.K) := by
  intro pins s σ H vs us Q I r h
  obtain ⟨a, ns, rfl, hs, hne, q⟩ := h
  obtain ⟨its, rv, hl, _⟩ := I.list hs
  rw [Vals.ref1 r]
  exact max_raw (I.ok.hd hc) hl.isList rv.ints hne fun h' tk m t' hk h1 h2 => ⟨.int _, H, I.kept hk, ⟨_, rfl⟩, q m h1 h2⟩
theorem small64 {n : Nat} (h : n < 64) : n ≤ sizeLine := by rw [sizeLine_eq]; omega
end
section
variable {X : Cx}
end
section
variable {X : Cx}
end
theorem iter_any {prog : Program} {w : World} {A : Around} {E : Value → Shared → Prop} {s : Shared} {l : Addr} {items : Array Value} {Q : Value → Shared → Prop} (hl : s.heap.IsList l items)
    (h : ∀ s₂ : Shared, s₂ = { s with heap := s.heap.push { cls := .type "list_iterator", data := .fields #[.ref l, .int 0 0] } } →
      (s₂.heap.IsListIter s.heap.objs.size l 0 ∧ s₂.heap.IsList l items) → l ≠ s.heap.objs.size → Q (.ref s.heap.objs.size) s₂) : wpAny (model prog w) A (pyIter (.ref l)) Q E s := by
  have hlt : l < s.heap.objs.size := by obtain ⟨_, e, _⟩ := hl; exact Heap.lt_size e
  exact wpAny_pyIter_list hl (h _ rfl ⟨⟨_, Heap.get?_push_size _ rfl, rfl, rfl⟩, hl.push _⟩ (Nat.ne_of_lt hlt))
theorem truth_bools {prog : Program} {w : World} {A : Around} {bs : List Bool} {its : List Value} (e : its = bs.map Value.bool) :
    TruthOf prog w A (fun i v => its.toArray[i]? = some v) (fun i => bs.getD i false) := fun i v s Q E hv hq => by
  have hv' : its[i]? = some v := by simpa using hv
  rw [e, List.getElem?_map] at hv'
  obtain ⟨b, hb, rfl⟩ := Option.map_eq_some_iff.mp hv'
  have hg : bs.getD i false = b := by rw [List.getD_eq_getElem?_getD, hb] <;> rfl
  have hq' : Q (bs.getD i false) s := hq
  rw [hg] at hq'
  exact wpAny_truthy_bool hq'
theorem all_range : ∀ bs : List Bool, (List.range bs.length).all (fun i => bs.getD i false) = bs.all id
  | [] => rfl
  | b :: bs => by
    rw [List.length_cons, List.range_succ_eq_map, List.all_cons, List.all_map, List.all_cons, ← all_range bs]
    all_goals rfl
section
variable {X : Cx}
noncomputable def rAll (K : PySem.W.Frag) : List V → Hp → VK → Prop := fun vs H Q => ∃ (a : Addr) (bs : List Bool), vs = [V.ref a] ∧ SqL K H a (bs.map V.bl) ∧ Q (.bl (bs.all id)) H
theorem cr_all (hc : X.calm = true) : CallR X (.builtin "all") (rAll X.K) := by
  intro pins s σ H vs us Q I r h
  obtain ⟨a, bs, rfl, hs, q⟩ := h
  obtain ⟨its, rv, hl, _⟩ := I.list hs
  rw [Vals.ref1 r]
  have hb := rv.bls
  refine call_all_walk (iter_any hl.isList fun s₂ e2 st hne => ?_)
  subst e2
  refine ⟨_, _, _, _, _, _, _, rfl, Walks.list (A := X.A.in1) (I.ok.hd hc) _ a hne its.toArray, st, truth_bools hb, fun h' tk hk => ?_⟩
  refine ⟨.bl _, H, I.kept fun b o eo => hk b o (fun hmem => ?_) (Heap.get?_push_of_some _ eo), ?_, q⟩
  · rcases List.mem_cons.mp hmem with e1 | hmem
    · exact absurd (e1 ▸ Heap.lt_size eo) (Nat.lt_irrefl _)
    · cases hmem
  · show Value.bool _ = Value.bool _
    rw [← all_range, hb, List.size_toArray, List.length_map]
end
section
variable {X : Cx} {pins : List (Addr × Obj)} {σ : St} {H : Hp} {s : Shared}
end
section
variable {X : Cx}
end
end L2
namespace L2
open PySem PySem.Spec PyProof.Rows
noncomputable abbrev CellAt (h : Heap) (c : Addr) (v : Option Value) : Prop := h.IsCell c v
noncomputable def relS (scope sc : Scope) : Scope :=
  { scope with names := scope.names.map fun (n, k) => if (k == .free && sc.kind == .function && sc.names.lookup n == some .cell) then (n, .cell) else (n, k) }
noncomputable def cloFrom (cells : List (Str × Addr)) : List (Str × NameKind) → List (Str × Addr) → List (Str × Addr)
  | [], acc => acc
  | (n, k) :: r, acc => if k == .free then cloFrom cells r ((n, (cells.lookup n).getD 0) :: acc) else cloFrom cells r acc
theorem closure_loop (env : Env) (f : Str × NameKind → List (Str × Addr) → Sem (ForInStep (List (Str × Addr))))
    (hf : ∀ n k c, f (n, k) c = if k == .free then (do let a ← cellOf env n; pure (.yield ((n, a) :: c))) else pure (.yield c)) :
    ∀ (names : List (Str × NameKind)) (acc : List (Str × Addr)), (∀ y ∈ names, y.2 = .free → ∃ c, env.cells.lookup y.1 = some c) → forIn names acc f = pure (cloFrom env.cells names acc)
  | [], acc, _ => by rw [List.forIn_nil]; rfl
  | (n, k) :: r, acc, h => by
    rw [List.forIn_cons, hf]
    have ih := fun acc => closure_loop env f hf r acc fun y hy => h y (List.mem_cons_of_mem _ hy)
    unfold cloFrom
    by_cases hk : (k == NameKind.free) = true
    · rw [if_pos hk, if_pos hk]
      obtain ⟨c, hc⟩ := h (n, k) List.mem_cons_self (by simpa using hk)
      have e : cellOf env n = pure c := by unfold cellOf; rw [hc]
      rw [e]
      have e2 : (env.cells.lookup n).getD 0 = c := by rw [hc]; rfl
      rw [e2]
      exact ih _
    · rw [if_neg hk, if_neg hk]
      exact ih _
theorem closure_ok {scope : Scope} {env : Env} (h : ∀ y ∈ scope.names, y.2 = .free → ∃ c, env.cells.lookup y.1 = some c) : closureFor scope env = pure (cloFrom env.cells scope.names []) := by
  simp only [closureFor]
  rw [closure_loop env _ (fun n k c => rfl) scope.names [] h]
  rfl
theorem mem_lookup {α : Type} : ∀ {l : List (Str × α)} {n : Str} {c : α}, (n, c) ∈ l → ∃ c', l.lookup n = some c'
  | (k, v) :: r, n, c, h => by
    rw [List.lookup_cons]
    cases hb : n == k with
    | true => exact ⟨_, rfl⟩
    | false =>
      rcases List.mem_cons.mp h with e | h
      · cases e; simp at hb
      · exact mem_lookup h
theorem cloFrom_mem {cells : List (Str × Addr)} : ∀ {names : List (Str × NameKind)} {acc : List (Str × Addr)} {n : Str} {c : Addr}, (n, c) ∈ cloFrom cells names acc → (n, c) ∈ acc ∨ ((n, .free) ∈ names ∧ c = (cells.lookup n).getD 0)
  | [], _, _, _, h => .inl h
  | (m, k) :: r, acc, n, c, h => by
    unfold cloFrom at h
    split at h
    · rename_i hk
      have hk : k = .free := by simpa using hk
      rcases cloFrom_mem h with h | ⟨h1, h2⟩
      · rcases List.mem_cons.mp h with e | h
        · cases e; exact .inr ⟨hk ▸ List.mem_cons_self, rfl⟩
        · exact .inl h
      · exact .inr ⟨List.mem_cons_of_mem _ h1, h2⟩
    · rcases cloFrom_mem h with h | ⟨h1, h2⟩
      · exact .inl h
      · exact .inr ⟨List.mem_cons_of_mem _ h1, h2⟩
theorem cloFrom_acc {cells : List (Str × Addr)} : ∀ {names : List (Str × NameKind)} {acc : List (Str × Addr)} {p : Str × Addr}, p ∈ acc → p ∈ cloFrom cells names acc
  | [], _, _, h => h
  | (m, k) :: r, acc, p, h => by
    unfold cloFrom
    split
    · exact cloFrom_acc (List.mem_cons_of_mem _ h)
    · exact cloFrom_acc h
theorem cloFrom_has {cells : List (Str × Addr)} : ∀ {names : List (Str × NameKind)} {acc : List (Str × Addr)} {n : Str}, (n, .free) ∈ names → (n, (cells.lookup n).getD 0) ∈ cloFrom cells names acc
  | (m, k) :: r, acc, n, h => by
    unfold cloFrom
    rcases List.mem_cons.mp h with e | h
    · cases e
      exact cloFrom_acc List.mem_cons_self
    · split
      · exact cloFrom_has h
      · exact cloFrom_has h
theorem cells_mem : ∀ {names : List (Str × NameKind)} {h : Heap} {acc : List (Str × Addr)} {x : Str} {c : Addr}, (x, c) ∈ cellsFrom h.objs.size names acc →
    (x, c) ∈ acc ∨ ((x, .cell) ∈ names ∧ h.objs.size ≤ c ∧ CellAt (pushCells h names) c none)
  | [], _, _, _, _, h => .inl h
  | (n, k) :: r, h, acc, x, c, hm => by
    unfold cellsFrom at hm
    unfold pushCells
    split at hm
    · rename_i hk
      rw [if_pos hk]
      have hk : k = .cell := by simpa using hk
      rw [← Heap.size_push h { cls := .type "cell", data := .cell none }] at hm
      rcases cells_mem hm with hm | ⟨h1, h2, h3⟩
      · rcases List.mem_cons.mp hm with e | hm
        · cases e
          exact .inr ⟨hk ▸ List.mem_cons_self, Nat.le_refl _, _, pushCells_keeps r _ _ _ (Heap.get?_push_size _ rfl), rfl⟩
        · exact .inl hm
      · rw [Heap.size_push] at h2
        exact .inr ⟨List.mem_cons_of_mem _ h1, Nat.le_of_succ_le h2, h3⟩
    · rename_i hk
      rw [if_neg hk]
      rcases cells_mem hm with hm | ⟨h1, h2, h3⟩
      · exact .inl hm
      · exact .inr ⟨List.mem_cons_of_mem _ h1, h2, h3⟩
theorem cells_acc : ∀ {names : List (Str × NameKind)} {n : Nat} {acc : List (Str × Addr)} {p : Str × Addr}, p ∈ acc → p ∈ cellsFrom n names acc
  | [], _, _, _, h => h
  | (m, k) :: r, n, acc, p, h => by
    unfold cellsFrom
    split
    · exact cells_acc (List.mem_cons_of_mem _ h)
    · exact cells_acc h
theorem cells_has : ∀ {names : List (Str × NameKind)} {n : Nat} {acc : List (Str × Addr)} {x : Str}, (x, .cell) ∈ names → ∃ c, (x, c) ∈ cellsFrom n names acc
  | (m, k) :: r, n, acc, x, h => by
    unfold cellsFrom
    rcases List.mem_cons.mp h with e | h
    · cases e
      exact ⟨n, cells_acc List.mem_cons_self⟩
    · split
      · exact cells_has h
      · exact cells_has h
theorem cells_inj : ∀ {names : List (Str × NameKind)} {h : Heap} {acc : List (Str × Addr)} {x y : Str} {c : Addr}, (∀ p ∈ acc, p.2 < h.objs.size) → (∀ x y c, (x, c) ∈ acc → (y, c) ∈ acc → x = y) →
    (x, c) ∈ cellsFrom h.objs.size names acc → (y, c) ∈ cellsFrom h.objs.size names acc → x = y
  | [], _, _, _, _, _, _, hi, h1, h2 => hi _ _ _ h1 h2
  | (n, k) :: r, h, acc, x, y, c, hl, hi, h1, h2 => by
    unfold cellsFrom at h1 h2
    split at h1
    · rename_i hk
      rw [if_pos hk] at h2
      rw [← Heap.size_push h { cls := .type "cell", data := .cell none }] at h1 h2
      refine cells_inj (h := h.push _) (fun p hp => ?_) (fun x y c a b => ?_) h1 h2
      · rw [Heap.size_push]
        rcases List.mem_cons.mp hp with rfl | hp
        · exact Nat.lt_succ_self _
        · exact Nat.lt_succ_of_lt (hl p hp)
      · rcases List.mem_cons.mp a with e | a <;> rcases List.mem_cons.mp b with e' | b
        · cases e; cases e'; rfl
        · cases e; exact absurd (hl _ b) (Nat.lt_irrefl _)
        · cases e'; exact absurd (hl _ a) (Nat.lt_irrefl _)
        · exact hi _ _ _ a b
    · rename_i hk
      rw [if_neg hk] at h2
      exact cells_inj hl hi h1 h2
theorem newEnv_comp {M : Model} {A : Around} {E : Value → Shared → Prop} {s : Shared} {scope : Scope} {globals : Addr} {closure : List (Str × Addr)} {qual : Str} {func : Option Addr} {code : Value} {around : Env} {builtins : Addr} {Q : Env → Shared → Prop}
    (h : Q (newEnv scope s.heap.objs.size globals (cellsFrom (s.heap.objs.size + 1) scope.names closure) qual func code (some around) builtins)
      { s with heap := pushCells (s.heap.push { cls := .type "dict", data := .dict #[] }) scope.names }) :
    wpAny M A (newFunctionEnv scope globals closure [] qual func code (some around) builtins) Q E s := by
  simp only [newFunctionEnv, Option.isSome_some, if_true]
  refine wpAny_bind (wpAny_alloc ?_)
  refine wpAny_bind (wpAny_layCells _ (fun n k c => rfl) scope.names closure _ _ ?_)
  rw [show ({ s with heap := s.heap.push { cls := .type "dict", data := .dict #[] } } : Shared).heap.objs.size = s.heap.objs.size + 1 from Heap.size_push ..]
  rw [List.forIn_nil]
  exact wpAny_bind (wpAny_pure (wpAny_pure h))
theorem lookup_relS {sc : Scope} : ∀ {names : List (Str × NameKind)} {x : Str} {k : NameKind},
    (names.map fun (n, k) => if (k == NameKind.free && sc.kind == .function && sc.names.lookup n == some .cell) then (n, NameKind.cell) else (n, k)).lookup x = some k →
    ∃ k', names.lookup x = some k' ∧ (k = k' ∨ (k' = .free ∧ k = .cell))
  | [], _, _, h => by simp at h
  | (n, k₀) :: r, x, k, h => by
    have ih := @lookup_relS sc r x k
    have h' : List.lookup x ((if (k₀ == NameKind.free && sc.kind == .function && sc.names.lookup n == some .cell) = true then (n, NameKind.cell) else (n, k₀)) :: (r.map _)) = some k := h
    cases hx : x == n with
    | true =>
      simp only [List.lookup_cons, hx]
      by_cases hc : (k₀ == NameKind.free && sc.kind == .function && sc.names.lookup n == some .cell) = true
      · rw [if_pos hc] at h'
        simp only [List.lookup_cons, hx] at h'
        cases h'
        simp only [Bool.and_eq_true, beq_iff_eq] at hc
        exact ⟨k₀, rfl, .inr ⟨hc.1.1, rfl⟩⟩
      · rw [if_neg hc] at h'
        simp only [List.lookup_cons, hx] at h'
        cases h'
        exact ⟨_, rfl, .inl rfl⟩
    | false =>
      simp only [List.lookup_cons, hx]
      by_cases hc : (k₀ == NameKind.free && sc.kind == .function && sc.names.lookup n == some .cell) = true
      · rw [if_pos hc] at h'
        simp only [List.lookup_cons, hx] at h'
        exact ih h'
      · rw [if_neg hc] at h'
        simp only [List.lookup_cons, hx] at h'
        exact ih h'
structure BlkOk (N : List Str) (sc scope : Scope) (own : List (Str × Nat)) : Prop where
  kind : scope.kind = .function
  uniq : ∀ y ∈ scope.names, scope.names.lookup y.1 = some y.2
  ix : ∀ p ∈ own, N[p.2]? = some p.1
  free : ∀ y ∈ scope.names, y.2 = .free → sc.names.lookup y.1 = some .cell ∨ sc.names.lookup y.1 = some .free
  own : ∀ y ∈ scope.names, y.2 = .local ∨ y.2 = .cell → y.1 ∈ own.map (·.1) ∨ y.1 ∉ N
noncomputable def wipe (σ : St) : List Nat → St
  | [] => σ
  | v :: vs => (wipe σ vs).set v none
theorem wipe_length (σ : St) : ∀ vs : List Nat, (wipe σ vs).length = σ.length
  | [] => rfl
  | v :: vs => by unfold wipe; rw [List.length_set, wipe_length σ vs]
theorem wipe_some {σ : St} {i : Nat} {x : V} : ∀ {vs : List Nat}, (wipe σ vs)[i]? = some (some x) → σ[i]? = some (some x) ∧ i ∉ vs
  | [], h => ⟨h, by simp⟩
  | v :: vs, h => by
    unfold wipe at h
    by_cases hi : v = i
    · subst hi
      by_cases hv : v < (wipe σ vs).length
      · rw [List.getElem?_set_self hv] at h; cases h
      · rw [List.getElem?_eq_none (by simpa using hv)] at h; cases h
    · rw [List.getElem?_set_ne hi] at h
      obtain ⟨h1, h2⟩ := wipe_some h
      exact ⟨h1, by simp only [List.mem_cons, not_or]; exact ⟨fun e => hi e.symm, h2⟩⟩
noncomputable abbrev Cx.blk (X : Cx) (s : Shared) (H : Hp) (scope : Scope) (cenv : Env) (fp : List Addr) : Cx := { X with s_0 := s, H_0 := H, env := cenv, outer := X.stack, ex := fp, fn := fun x => scope.names.lookup x == some .cell, pn := [], xe := fun _ _ => False }
section
variable {X : Cx} {pins : List (Addr × Obj)} {σ : St} {H : Hp} {s : Shared}
theorem block_start {scope : Scope} {own : List (Str × Nat)} {fp : List Addr} (I : Inv X pins σ H s) (ok : BlkOk X.N X.env.scope scope own) (hN : X.N.Nodup) (hfp : ∀ b ∈ fp, FpOk X pins H b ∧ b < s.heap.objs.size) :
    Inv (X.blk s H scope (compEnvC scope (cellsFrom (s.heap.objs.size + 1) scope.names (cloFrom X.env.cells scope.names [])) s.heap.objs.size X.env) fp) [] (wipe σ (own.map (·.2))) H { s with heap := pushCells (s.heap.push { cls := .type "dict", data := .dict #[] }) scope.names } := by
  have hfree : ∀ y ∈ scope.names, y.2 = .free → ∃ c, X.env.cells.lookup y.1 = some c := fun y hy e => by
    rcases ok.free y hy e with k | k
    · exact I.ok.has _ (.inl k)
    · exact I.ok.has _ (.inr k)
  generalize hcenv : compEnvC scope (cellsFrom (s.heap.objs.size + 1) scope.names (cloFrom X.env.cells scope.names [])) s.heap.objs.size X.env = cenv
  have kp : ∀ b o, s.heap.get? b = some o → (pushCells (s.heap.push { cls := .type "dict", data := .dict #[] }) scope.names).get? b = some o := fun b o e => pushCells_keeps _ _ _ _ (Heap.get?_push_of_some _ e)
  have hL : cenv.locals = s.heap.objs.size := by rw [← hcenv]; rfl
  have hcl : cenv.cells = cellsFrom (s.heap.objs.size + 1) scope.names (cloFrom X.env.cells scope.names []) := by rw [← hcenv]; rfl
  have hsc : cenv.scope = relS scope X.env.scope := by rw [← hcenv]; rfl
  rw [← Heap.size_push s.heap { cls := .type "dict", data := .dict #[] }] at hcl
  have cm : ∀ {y c}, (y, c) ∈ cloFrom X.env.cells scope.names [] → X.env.cells.lookup y = some c ∧ c < s.heap.objs.size := fun {y c} hm => by
    rcases cloFrom_mem hm with hm | ⟨h1, rfl⟩
    · cases hm
    · obtain ⟨c, hc⟩ := hfree _ h1 rfl
      rw [hc]
      obtain ⟨w, z⟩ := I.cell _ _ hc
      exact ⟨rfl, z.lt⟩
  have mem : ∀ {y c}, cenv.cells.lookup y = some c → (X.env.cells.lookup y = some c ∧ c < s.heap.objs.size) ∨ (s.heap.objs.size + 1 ≤ c ∧ CellAt (pushCells (s.heap.push { cls := .type "dict", data := .dict #[] }) scope.names) c none) := fun {y c} e => by
    rw [hcl] at e
    rcases cells_mem (PySem.mem_of_lookup e) with hm | ⟨_, h2, h3⟩
    · exact .inl (cm hm)
    · rw [Heap.size_push] at h2; exact .inr ⟨h2, h3⟩
  have look : ∀ {y}, scope.names.lookup y = some .free → ∃ c, cenv.cells.lookup y = some c ∧ X.env.cells.lookup y = some c := fun {y} hl => by
    have hy : (y, NameKind.free) ∈ scope.names := PySem.mem_of_lookup hl
    obtain ⟨c', e'⟩ := mem_lookup (cells_acc (names := scope.names) (n := (s.heap.push { cls := .type "dict", data := .dict #[] }).objs.size) (cloFrom_has (cells := X.env.cells) (acc := []) hy))
    rw [← hcl] at e'
    refine ⟨c', e', ?_⟩
    rw [hcl] at e'
    rcases cells_mem (PySem.mem_of_lookup e') with hm | ⟨h1, _, _⟩
    · exact (cm hm).1
    · have := ok.uniq _ h1
      rw [hl] at this; cases this
  have okB : (X.blk s H scope cenv fp).Ok := by
    refine ⟨I.ok.mod, by show cenv.scope.kind = _; rw [hsc]; exact ok.kind, by show cenv.globals = _; rw [← hcenv]; exact I.ok.glob, by show cenv.builtins = _; rw [← hcenv]; exact I.ok.blt, by show s.heap.objs.size ≤ cenv.locals; rw [hL]; exact Nat.le_refl _,
      fun y z c e1 e2 => ?_, fun y hy => ?_, fun y c z e => ?_, I.ok.hd, I.ok.frames, .inl rfl, fun b hb => ⟨?_, fun y c e z => ?_⟩, I.bs, Nat.le_trans I.ok.bsz I.sz, fun b o e hb => ?_, fun b hb z => ?_, I.stack, I.stkFree⟩
    · have e1 : cenv.cells.lookup y = some c := e1
      have e2 : cenv.cells.lookup z = some c := e2
      rw [hcl] at e1 e2
      refine cells_inj (fun p hp => ?_) (fun y z c a b => I.ok.inj y z c (cm a).1 (cm b).1) (PySem.mem_of_lookup e1) (PySem.mem_of_lookup e2)
      rw [Heap.size_push]
      exact Nat.lt_succ_of_lt (cm (y := p.1) (c := p.2) hp).2
    · show ∃ c, cenv.cells.lookup y = some c
      have key : ∀ k, cenv.kindOf y = some k → (k = .cell ∨ k = .free) → ∃ c, cenv.cells.lookup y = some c := fun k hk hk' => by
        unfold Env.kindOf at hk
        rw [hsc] at hk
        obtain ⟨k', e, r⟩ := lookup_relS hk
        have : k' = .cell ∨ k' = .free := by
          rcases r with rfl | ⟨rfl, _⟩
          · exact hk'
          · exact .inr rfl
        rcases this with rfl | rfl
        · obtain ⟨c, hm⟩ := cells_has (n := (s.heap.push { cls := .type "dict", data := .dict #[] }).objs.size) (acc := cloFrom X.env.cells scope.names []) (PySem.mem_of_lookup e)
          obtain ⟨c', e'⟩ := mem_lookup hm
          exact ⟨c', by rw [hcl]; exact e'⟩
        · obtain ⟨c, h1, _⟩ := look e
          exact ⟨c, h1⟩
      rcases hy with hy | hy
      · exact key _ hy (.inl rfl)
      · exact key _ hy (.inr rfl)
    · have z : (scope.names.lookup y == some NameKind.cell) = true := z
      have z : scope.names.lookup y = some .cell := by simpa using z
      have e : cenv.cells.lookup y = some c := e
      rw [hcl] at e
      rcases cells_mem (PySem.mem_of_lookup e) with hm | ⟨_, h2, _⟩
      · rcases cloFrom_mem hm with hm | ⟨h1, _⟩
        · cases hm
        · have q := ok.uniq _ h1
          rw [z] at q; cases q
      · rw [Heap.size_push] at h2
        exact Nat.le_of_succ_le h2
    · show b ≠ cenv.locals
      rw [hL]; exact Nat.ne_of_lt (hfp b hb).2
    · have e : cenv.cells.lookup y = some c := e
      rcases mem e with ⟨h1, _⟩ | ⟨h1, _⟩
      · exact (hfp b hb).1.2.2.2.2.1 y c h1 z
      · have h2 : s.heap.objs.size + 1 ≤ b := by rw [← z]; exact h1
        exact absurd (Nat.lt_of_lt_of_le (hfp b hb).2 (Nat.le_of_succ_le h2)) (Nat.lt_irrefl _)
    · rcases (hfp b hb).1.2.2.2.1 with z | z
      · exact I.ok.noex b o e z
      · exact absurd (Nat.lt_of_lt_of_le (Heap.lt_size e) (Nat.le_trans I.ok.bsz z)) (Nat.lt_irrefl _)
    · rcases List.mem_cons.mp (I.stkSub b z) with z | z
      · exact (hfp b hb).1.2.1 z
      · exact (hfp b hb).1.2.2.1 z
  refine ⟨okB, rfl, I.bare, Un.kept kp, ⟨fun _ => none, ?_, fun i y av e1 e2 e3 => ?_⟩, fun y c e => ?_, ?_, fun y c e => ?_, fun p hp => ?_, I.hok.kept kp, by rw [wipe_length]; exact I.len⟩
  · show Heap.Ns _ cenv.locals _
    rw [hL]
    exact Heap.Ns.keeps (Heap.Ns.new ..) fun b o e => pushCells_keeps _ _ _ _ e
  · obtain ⟨e2, hne⟩ := wipe_some e2
    have hfr : scope.names.lookup y = some .free ∧ (cenv.kindOf y = some .cell ∨ cenv.kindOf y = some .free) := by
      have key : ∀ k, cenv.scope.names.lookup y = some k → k = .local ∨ k = .cell ∨ k = .free → scope.names.lookup y = some .free ∧ (cenv.kindOf y = some .cell ∨ cenv.kindOf y = some .free) := fun k hk hk' => by
        have hk0 := hk
        rw [hsc] at hk
        obtain ⟨k', e, r⟩ := lookup_relS hk
        have no : ¬ (k' = .local ∨ k' = .cell) := fun hh => by
          rcases ok.own _ (PySem.mem_of_lookup e) hh with e' | e'
          · obtain ⟨p, hp, hpy⟩ := List.mem_map.mp e'
            have e3 := ok.ix p hp
            have : p.1 = y := hpy
            rw [this] at e3
            exact hne (List.mem_map.mpr ⟨p, hp, nodup_ix hN e3 e1⟩)
          · exact e' (List.mem_of_getElem? e1)
        rcases r with rfl | ⟨rfl, rfl⟩
        · rcases hk' with rfl | rfl | rfl
          · exact absurd (.inl rfl) no
          · exact absurd (.inr rfl) no
          · exact ⟨e, .inr hk0⟩
        · exact ⟨e, .inl hk0⟩
      have e3 : Vis cenv.scope y := e3
      rcases e3 with e3 | e3 | e3
      · exact key _ e3 (.inl rfl)
      · exact key _ e3 (.inr (.inl rfl))
      · exact key _ e3 (.inr (.inr rfl))
    obtain ⟨m, hn, hl⟩ := I.loc
    have hvis : Vis X.env.scope y := (ok.free _ (PySem.mem_of_lookup hfr.1) rfl).elim (fun k => .inr (.inl k)) (fun k => .inr (.inr k))
    obtain ⟨w, r, q⟩ := hl i y av e1 e2 hvis
    refine ⟨w, r, .inr ⟨hfr.2, ?_⟩⟩
    obtain ⟨c, h1, h2⟩ := look hfr.1
    rcases q with ⟨k, _⟩ | ⟨_, c', e', z⟩
    · have k : X.env.scope.names.lookup y = some .local := k
      rcases ok.free _ (PySem.mem_of_lookup hfr.1) rfl with k' | k' <;> rw [show X.env.scope.names.lookup y = _ from k'] at k <;> cases k
    · rw [h2] at e'; cases e'
      exact ⟨c, h1, z.keeps kp⟩
  · have e : cenv.cells.lookup y = some c := e
    rcases mem e with ⟨h1, _⟩ | ⟨_, z⟩
    · obtain ⟨w, z⟩ := I.cell y c h1
      exact ⟨w, z.keeps kp⟩
    · exact ⟨_, z⟩
  · show H cenv.locals = none
    rw [hL]; exact I.hok.fresh (Nat.le_refl _)
  · have e : cenv.cells.lookup y = some c := e
    rcases mem e with ⟨h1, _⟩ | ⟨h1, _⟩
    · exact I.freeC y c h1
    · exact I.hok.fresh (Nat.le_of_succ_le h1)
  · exact absurd (show p ∈ ([] : List (Addr × Obj)) ++ [] from hp) (by simp)
theorem app_ok {E : Value → Shared → Prop} {D : Addr} {xs : List V} {y : V} {v : Value} {Q : Value → Shared → Prop} (I : Inv X pins σ H s) (hD : H D = some (.lst xs)) (hz : xs.length < sizeLine) (r : RelV y v)
    (h : ∀ s', Inv X pins σ (upd H D (.lst (xs ++ [y]))) s' → Q .none s') : wpAny (model X.prog X.w) X.A (call (.builtin "list.append") [.ref D, v]) Q E s := by
  obtain ⟨hz', its, n, ri, e⟩ := I.hok D _ hD
  have hl := ri.length
  refine append_at (hsz := by rw [List.size_toArray]; omega) e fun h' sb ho' => ?_
  refine h { s with heap := h' } (I.write (t' := s.toks) (by rw [hD]; trivial) (.inl rfl) (fun b u hb q => (sb.2 b hb).trans q) ⟨_, ho'⟩ ⟨by rw [List.length_append]; exact hz, its ++ [v], n + 1, ri.append (.cons r .nil), ?_⟩)
  rw [ho']
  simp
noncomputable def PTs (X : Cx) (ifs : List Expr) (t : TT) : Prop :=
  ∀ (pins : List (Addr × Obj)) (s : Shared) (σ : St) (H : Hp) (Q : Bool → Hp → Prop), Inv X pins σ H s → t σ H Q →
    wpAny (model X.prog X.w) X.A (forIn ifs true fun c r => if r = true then do let ok ← isTrue c X.env (eval c X.env); pure (ForInStep.yield ok) else pure (ForInStep.yield r)) (TP X pins σ Q) X.xe s
noncomputable def tYes : TT := fun _ H Q => Q true H
theorem pts_nil : PTs X [] tYes := fun _ _ _ H _ I h => wpAny_tests_nil ⟨H, I, h⟩
theorem pts_one {c : Expr} {t : TT} (h : PT X c t) : PTs X [c] t := fun pins s σ H Q I hw => wpAny_tests_one (h pins s σ H Q I hw)
end
theorem thnF {α : Type} {t : Sem α} {Q Q' : α → Shared → Prop} {M : Model} {A : Around} {E : Value → Shared → Prop} {s : Shared} (h : wpAny M A t Q (fun _ _ => False) s) (hQ : ∀ a s, Q a s → Q' a s) : wpAny M A t Q' E s := wpAny_mono h hQ fun _ _ z => False.elim z
theorem compLoop_any {prog : Program} {w : World} {A : Around} {R : Result → Shared → Prop} {s : Shared} {elt target iter : Expr} {ifs : List Expr} {scope : Scope} {pos : Pos} {it acc : Value} {env : Env} (I : Nat → Shared → Prop)
    (turn : ∀ n s, I n s → wpAny (model prog w) A (pyNext it) (fun r s₁ => match r with
      | none => R (.ok .next) s₁
      | some v => wpAny (model prog w) A (letOwnedTupleGo target it v) (fun _ s₁' => wpAny (model prog w) A (assign target env v) (fun _ s₂ =>
          wpAny (model prog w) A (forIn ifs true fun c r => if r = true then do let ok ← isTrue c env (eval c env); pure (ForInStep.yield ok) else pure (ForInStep.yield r)) (fun ok s₃ =>
            if ok = true then wpAny (model prog w) A (eval elt env) (fun x s₄ =>
              wpAny (model prog w) A (call (.builtin "list.append") [acc, x]) (fun _ s₅ => ∃ m, m < n ∧ I m s₅) (notedBy (model prog w) A env fun e s' => R (.error e) s') s₄) (notedBy (model prog w) A env fun e s' => R (.error e) s') s₃
            else ∃ m, m < n ∧ I m s₃) (notedBy (model prog w) A env fun e s' => R (.error e) s') s₂) (notedBy (model prog w) A env fun e s' => R (.error e) s') s₁') (notedBy (model prog w) A env fun e s' => R (.error e) s') s₁) (notedBy (model prog w) A env fun e s' => R (.error e) s') s)
    (n : Nat) (h : I n s) :
    codeAny (model prog w) A (.compLoop (.ListComp elt [⟨target, iter, ifs, 0⟩] scope pos) 0 it acc env) R s := by
  refine codeAny_loop rfl I (fun n s hI => ?_) n h
  show wpAny _ A ((compTurn (.ListComp elt [⟨target, iter, ifs, 0⟩] scope pos) 0 it acc env).onRaise (fun x => do noteFrame x env; theTreesLotGoes x)) _ _ s
  refine wpAny_noted ?_
  rw [compTurn_list]
  refine wpAny_bind (wpAny_standAt (wpAny_bind (wpAny_mono (turn n s hI) (fun r s₁ h₁ => ?_) fun _ _ h' => h')))
  cases r with
  | none => exact wpAny_pure h₁
  | some v =>
    refine wpAny_bind (wpAny_mono h₁ (fun _ s₁' h₁' => ?_) fun _ _ h' => h')
    refine wpAny_bind (wpAny_mono h₁' (fun _ s₂ h₂ => wpAny_bind (wpAny_mono h₂ (fun ok s₃ h₃ => ?_) fun _ _ h' => h')) fun _ _ h' => h')
    cases ok with
    | false => exact wpAny_pure ⟨rfl, h₃⟩
    | true =>
      exact wpAny_bind (wpAny_bind (wpAny_mono h₃ (fun x s₄ h₄ => wpAny_bind (wpAny_mono h₄ (fun _ s₅ h₅ => wpAny_pure (wpAny_pure ⟨rfl, h₅⟩)) fun _ _ h' => h')) fun _ _ h' => h'))
section
variable {X : Cx}
noncomputable def tLc (wi : TI) (g : TG) (tt : TT) (te : TE) (vs : List Nat) : TE := fun σ H Q => wi σ H fun J H1 => ∀ D, H1 D = none → ∃ W : Nat → Nat → Hp → Prop, (∃ m, W 0 m (upd H1 D (.lst []))) ∧ ∀ i m H, W i m H →
  (J.stop i H ∧ Q (.ref D) H) ∨ (J.go i H ∧ ∃ Nx : Hp → Prop, (∀ H', Nx H' → ∃ m', m' < m ∧ W (i + 1) m' H') ∧ ∀ x H', J.yld i H x H' → g x (wipe σ vs) H' fun σ2 H2 => wipe σ2 vs = wipe σ vs ∧ tt σ2 H2 fun b H3 =>
    if b = true then te σ2 H3 fun y H4 => ∃ acc, H4 D = some (.lst acc) ∧ acc.length < sizeLine ∧ Nx (upd H4 D (.lst (acc ++ [y]))) else Nx H3)
theorem lc_core {pins : List (Addr × Obj)} {s : Shared} {σ : St} {H : Hp} {Q : VK} {elt tg iter : Expr} {ifs : List Expr} {scope : Scope} {own : List (Str × Nat)} {pos pos' : Pos} {wi : TI} {g : TG} {tt : TT} {te : TE} {use : Option (Value → Sem Unit)} {Qf : Value → Shared → Prop}
    (hc : X.calm = true) (hN : X.N.Nodup) (I : Inv X pins σ H s) (hi : PI X tg iter wi) (ok : BlkOk X.N X.env.scope scope own)
    (hg : ∀ (s : Shared) (H : Hp) (C : Addr) (cl : List (Str × Addr)) (fp : List Addr), PG (X.blk s H scope (compEnvC scope cl C X.env) fp) tg g) (ht : ∀ (s : Shared) (H : Hp) (C : Addr) (cl : List (Str × Addr)) (fp : List Addr), PTs (X.blk s H scope (compEnvC scope cl C X.env) fp) ifs tt)
    (he : ∀ (s : Shared) (H : Hp) (C : Addr) (cl : List (Str × Addr)) (fp : List Addr), PE (X.blk s H scope (compEnvC scope cl C X.env) fp) elt te) (hs : ∀ x, foldedSetIterable iter X.env x = pure x)
    (h : tLc wi g tt te (own.map (·.2)) σ H Q)
    (hRR : ∀ D C s' m H', Inv X pins σ H' s' → Q (.ref D) H' → s'.heap.Ns C m → FpOk X pins H' C → compPost (model X.prog X.w) X.A X.xe use Qf (.ref D) C (.ok .next) s') :
    wpAny (model X.prog X.w) X.A (comprehension (.ListComp elt [⟨tg, iter, ifs, 0⟩] scope pos) scope X.env pos' (newList []) false (eval iter X.env) use) Qf X.xe s := by
  have hfree : ∀ y ∈ scope.names, y.2 = .free → ∃ c, X.env.cells.lookup y.1 = some c := fun y hy e => by
    rcases ok.free y hy e with k | k
    · exact I.ok.has _ (.inl k)
    · exact I.ok.has _ (.inr k)
  refine wpAny_comprehension_free (use := use) rfl hs (closure_ok hfree) ok.kind (fun y hy e => by rw [ok.uniq y hy, e])
    (thn (hi pins s σ H _ I h) fun xv s1 hx => thn hx fun itv s2 h2 => ?_)
  obtain ⟨it, fp, tn, J, H2, e, I2, T, st2, f2, q⟩ := h2
  subst e
  refine wpAny_newObj_type (newEnv_comp ?_) (by show 0 ≤ sizeLine; decide)
  generalize hD : s2.heap.objs.size = D
  have hDn : H2 D = none := I2.hok.fresh (Nat.le_of_eq hD)
  obtain ⟨W, ⟨m0, w0⟩, turn⟩ := q D hDn
  generalize hs3 : ({ s2 with heap := s2.heap.push { cls := .type "list", data := .seq ([] : List Value).toArray } } : Shared) = s3
  have I3 : Inv X pins σ (upd H2 D (.lst [])) s3 := by
    rw [← hs3]
    refine I2.laid (t' := s2.toks) (fun b o e => Heap.get?_push_of_some _ e) (Nat.le_of_eq hD) ⟨Nat.zero_le _, [], 0, .nil, ?_⟩
    rw [← hD]
    exact Heap.get?_push_size _ rfl
  have h3 : s3.heap = s2.heap.push { cls := .type "list", data := .seq ([] : List Value).toArray } := by rw [← hs3]
  have sz : ∀ b ∈ fp, b < s2.heap.objs.size := fun b hb => by
    obtain ⟨o, e, _⟩ := T.obj _ _ st2 b hb
    exact Heap.lt_size e
  have f3 : ∀ b ∈ fp, FpOk X pins (upd H2 D (.lst [])) b ∧ b < s3.heap.objs.size := fun b hb => by
    have hlt := sz b hb
    refine ⟨⟨?_, (f2 b hb).2⟩, by rw [h3, Heap.size_push]; exact Nat.lt_succ_of_lt hlt⟩
    rw [upd_ne (by rw [← hD]; exact Nat.ne_of_lt hlt)]
    exact (f2 b hb).1
  have st3 : tn 0 s3.heap := T.keep _ _ _ st2 fun b _ o e => by rw [h3]; exact Heap.get?_push_of_some _ e
  have I4 := block_start I3 ok hN f3
  have pg := hg s3 (upd H2 D (.lst [])) s3.heap.objs.size (cellsFrom (s3.heap.objs.size + 1) scope.names (cloFrom X.env.cells scope.names [])) fp
  have pt := ht s3 (upd H2 D (.lst [])) s3.heap.objs.size (cellsFrom (s3.heap.objs.size + 1) scope.names (cloFrom X.env.cells scope.names [])) fp
  have pe := he s3 (upd H2 D (.lst [])) s3.heap.objs.size (cellsFrom (s3.heap.objs.size + 1) scope.names (cloFrom X.env.cells scope.names [])) fp
  show codeAny _ _ (.compStart (.ListComp elt [⟨tg, iter, ifs, 0⟩] scope pos) 0 (.ref it) (.ref D) (compEnvC scope (cellsFrom (s3.heap.objs.size + 1) scope.names (cloFrom X.env.cells scope.names [])) s3.heap.objs.size X.env)) (compPost (model X.prog X.w) X.A X.xe use Qf (.ref D) s3.heap.objs.size) { s3 with heap := pushCells (s3.heap.push { cls := .type "dict", data := .dict #[] }) scope.names }
  have nfp : ∀ b ∈ fp, (upd H2 D (.lst [])) b = none := fun b hb => (f3 b hb).1.1
  generalize hce : compEnvC scope (cellsFrom (s3.heap.objs.size + 1) scope.names (cloFrom X.env.cells scope.names [])) s3.heap.objs.size X.env = ce at I4 pg pt pe ⊢
  have cL : ce.locals = s3.heap.objs.size := by subst hce; rfl
  generalize hH3 : upd H2 D (.lst []) = H3 at I3 I4 pg pt pe w0 nfp f3
  generalize hs4 : ({ s3 with heap := pushCells (s3.heap.push { cls := .type "dict", data := .dict #[] }) scope.names } : Shared) = s4 at I4 ⊢
  have st4 : tn 0 s4.heap := T.keep _ _ _ st3 fun b _ o e => by rw [← hs4]; exact pushCells_keeps _ _ _ _ (Heap.get?_push_of_some _ e)
  have stat : ∀ {σ' : St} {H' : Hp} {s' : Shared}, Inv (X.blk s3 H3 scope ce fp) [] σ' H' s' → (∀ b ∈ fp, H' b = none) → ∀ b ∈ fp, FpOk (X.blk s3 H3 scope ce fp) [] H' b := fun {σ' H' s'} I' hn b hb =>
    ⟨hn b hb, (I'.ok.exf b hb).1, I'.ok.exfs b hb, .inl hb, fun x c e => (I'.ok.exf b hb).2 x c e, fun p hp => absurd (show p ∈ ([] : List (Addr × Obj)) ++ [] from hp) (by simp)⟩
  have loop : codeAny (model X.prog X.w) X.A (.compLoop (.ListComp elt [⟨tg, iter, ifs, 0⟩] scope pos) 0 (.ref it) (.ref D) ce) (compPost (model X.prog X.w) X.A X.xe use Qf (.ref D) s3.heap.objs.size) s4 := by
    refine compLoop_any (fun n s' => ∃ i H', Inv (X.blk s3 H3 scope ce fp) [] (wipe σ (own.map (·.2))) H' s' ∧ tn i s'.heap ∧ (∀ b ∈ fp, H' b = none) ∧ W i n H') ?_ m0 ⟨0, H3, I4, st4, nfp, w0⟩
    rintro n s5 ⟨i, H5, I5, st5, n5, w5⟩
    rcases turn i n H5 w5 with ⟨stop, qq⟩ | ⟨go, Nx, hNx, step⟩
    · have td := T.done (X.blk s3 H3 scope ce fp) rfl rfl rfl hc i [] s5 _ H5 (fun _ _ => False) I5 (stat I5 n5) st5 stop
      refine thnF td fun r s6 ⟨hr, I6⟩ => ?_
      subst hr
      have I7 : Inv X pins σ H5 s6 := I3.call' (ch := fp) I6.os I6.base I6.hok I6.bare fun b hb => ⟨(f3 b hb).1.2.2.2.1, (f3 b hb).1.2.1, (f3 b hb).1.2.2.2.2.1, (f3 b hb).1.2.2.2.2.2⟩
      have nC : H5 s3.heap.objs.size = none := by
        have z : H5 ce.locals = none := I6.free
        rw [cL] at z
        exact z
      obtain ⟨m, hn, _⟩ := I6.loc
      have hn : s6.heap.Ns ce.locals m := hn
      rw [cL] at hn
      exact hRR D s3.heap.objs.size s6 m H5 I7 qq hn (I3.fpOk (Nat.le_refl _) nC)
    · have ti := T.item (X.blk s3 H3 scope ce fp) rfl rfl rfl hc i [] s5 _ H5 (fun _ _ => False) I5 (stat I5 n5) st5 go
      refine thnF ti fun r s6 ⟨u, hr, h6⟩ => ?_
      subst hr
      refine thnF h6 fun _ s7 ⟨x, H7, I7, r7, y7, st7, n7⟩ => ?_
      have I7' := I7.pinned (stat I7 n7) (T.obj _ _ st7)
      refine thnF (pg _ s7 _ H7 x u _ I7' r7 (step x H7 y7)) fun _ s8 ⟨σ8, H8, I8, hw8, q8⟩ => ?_
      refine thnF (pt _ s8 σ8 H8 _ I8 q8) fun b s9 ⟨H9, I9, q9⟩ => ?_
      have fin : ∀ {s' : Shared} {H' : Hp}, Inv (X.blk s3 H3 scope ce fp) ([] ++ pinsAt fp s7.heap) σ8 H' s' → Nx H' → ∃ m, m < n ∧ ∃ i H', Inv (X.blk s3 H3 scope ce fp) [] (wipe σ (own.map (·.2))) H' s' ∧ tn i s'.heap ∧ (∀ b ∈ fp, H' b = none) ∧ W i m H' := fun {s' H'} I' nx => by
        obtain ⟨m', hm, w'⟩ := hNx H' nx
        have pin' : ∀ b ∈ fp, ∀ o, s7.heap.get? b = some o → s'.heap.get? b = some o ∧ H' b = none := fun b hb o e =>
          let z := I'.pin (b, o) (List.mem_append_right _ (List.mem_append_right _ (mem_pinsAt hb e)))
          ⟨z.1, z.2.1⟩
        have hl : (wipe σ (own.map (·.2))).length = σ8.length := by rw [← hw8, wipe_length]
        refine ⟨m', hm, i + 1, H', (I'.unpinned (pins := [])).weak hl (fun j v e => ?_), T.keep _ _ _ st7 fun b hb o e => (pin' b hb o e).1, fun b hb => ?_, w'⟩
        · rw [← hw8] at e
          exact (wipe_some e).1
        · obtain ⟨o, e, _⟩ := T.obj _ _ st7 b hb
          exact (pin' b hb o e).2
      cases b with
      | false =>
        simp only [Bool.false_eq_true, if_false] at q9 ⊢
        exact fin I9 q9
      | true =>
        simp only [if_true] at q9 ⊢
        refine thnF (pe _ s9 σ8 H9 _ I9 q9) fun z s10 ⟨yv, H10, I10, r10, acc, hD10, hz10, nx⟩ => ?_
        exact app_ok (X := X.blk s3 H3 scope ce fp) I10 hD10 hz10 r10 fun s11 I11 => fin I11 nx
  exact codeAny_compStart_list loop (T.self X.A 0 _ _ _ st4 loop)
theorem pe_lc {elt tg iter : Expr} {ifs : List Expr} {scope : Scope} {own : List (Str × Nat)} {pos : Pos} {wi : TI} {g : TG} {tt : TT} {te : TE} (hc : X.calm = true) (hN : X.N.Nodup) (hi : PI X tg iter wi) (ok : BlkOk X.N X.env.scope scope own)
    (hg : ∀ (s : Shared) (H : Hp) (C : Addr) (cl : List (Str × Addr)) (fp : List Addr), PG (X.blk s H scope (compEnvC scope cl C X.env) fp) tg g) (ht : ∀ (s : Shared) (H : Hp) (C : Addr) (cl : List (Str × Addr)) (fp : List Addr), PTs (X.blk s H scope (compEnvC scope cl C X.env) fp) ifs tt)
    (he : ∀ (s : Shared) (H : Hp) (C : Addr) (cl : List (Str × Addr)) (fp : List Addr), PE (X.blk s H scope (compEnvC scope cl C X.env) fp) elt te) (hs : ∀ x, foldedSetIterable iter X.env x = pure x := by intro _; rfl) :
    PE X (.ListComp elt [⟨tg, iter, ifs, 0⟩] scope pos) (tLc wi g tt te (own.map (·.2))) := by
  intro pins s σ H Q I h
  rw [eval_ListComp]
  refine lc_core hc hN I hi ok hg ht he hs h fun D C s' m H' I' q hn f => ⟨m, hn, fun h'' sb => ?_⟩
  obtain ⟨f0, f1, f2, f3, f4, f5⟩ := f
  exact ⟨.ref D, H', I'.turned (t' := s'.toks) (fun b o hb e => (sb.2 b hb).trans e) f0 f1 f3 f4 f5, rfl, q⟩
theorem ps_setLc {i : Nat} {y : Str} {py : Pos} {elt tg iter : Expr} {ifs : List Expr} {scope : Scope} {own : List (Str × Nat)} {pos spos : Pos} {wi : TI} {g : TG} {tt : TT} {te : TE} (hc : X.calm = true) (hN : X.N.Nodup) (hy : X.N[i]? = some y) (hyl : X.env.scope.names.lookup y = some .local)
    (hsw : swapsWith (.ListComp elt [⟨tg, iter, ifs, 0⟩] scope pos) (some (.Name y py)) spos.line X.env = pure true) (hi : PI X tg iter wi) (ok : BlkOk X.N X.env.scope scope own)
    (hg : ∀ (s : Shared) (H : Hp) (C : Addr) (cl : List (Str × Addr)) (fp : List Addr), PG (X.blk s H scope (compEnvC scope cl C X.env) fp) tg g) (ht : ∀ (s : Shared) (H : Hp) (C : Addr) (cl : List (Str × Addr)) (fp : List Addr), PTs (X.blk s H scope (compEnvC scope cl C X.env) fp) ifs tt)
    (he : ∀ (s : Shared) (H : Hp) (C : Addr) (cl : List (Str × Addr)) (fp : List Addr), PE (X.blk s H scope (compEnvC scope cl C X.env) fp) elt te) (hs : ∀ x, foldedSetIterable iter X.env x = pure x := by intro _; rfl) :
    PS X (.Assign [.Name y py] (.ListComp elt [⟨tg, iter, ifs, 0⟩] scope pos) spos) (tAsg (tLc wi g tt te (own.map (·.2))) (gName i)) := by
  intro pins s σ H D I h
  rw [exec_Assign_Name_used _ _ _ _ hsw]
  refine wpAny_bind (wpAny_standAt (wpAny_bind ?_))
  show wpAny _ X.A (do let _ ← comprehension (.ListComp elt [⟨tg, iter, ifs, 0⟩] scope pos) scope X.env (firstIterPos [⟨tg, iter, ifs, 0⟩] pos) (newList []) false (eval iter X.env) (some (assign (.Name y py) X.env))) _ _ s
  have h : tLc wi g tt te (own.map (·.2)) σ H (fun x H1 => gName i x σ H1 D.nx) := h
  refine wpAny_bind (thn (lc_core (Qf := fun _ s' => SP X pins D .next s') hc hN I hi ok hg ht he hs h fun L C s' m H' I' q hn f => ?_) fun _ s' hq => wpAny_pure (wpAny_pure hq))
  show wpAny _ _ (assign (.Name y py) X.env (.ref L)) _ _ _
  refine wpAny_assign_Name (store_ok2 (v := V.ref L) I' hN hy (.inl hyl) rfl (fun s2 I2 ⟨a, sb, ha⟩ => ?_) (.inr hyl))
  obtain ⟨f0, f1, f2, f3, f4, f5⟩ := f
  have haC : C ≠ a := by
    rcases ha with z | z
    · rw [z]; exact f1
    · exact fun e => f4 y a z e.symm
  refine ⟨m, hn.sameBut sb haC, fun h3 sb3 => ?_⟩
  exact ⟨_, H', I2.turned (t' := s2.toks) (fun b o hb e => (sb3.2 b hb).trans e) f0 f1 f3 f4 f5, q⟩
theorem sw_true {elt : Expr} {gs : List Comprehension} {scope : Scope} {pos py : Pos} {y : Str} {l : Nat} {env : Env} (hk : env.scope.kind = .function) (hy : env.scope.names.lookup y = some .local) (hl : (py.line == pos.line) = true)
    (ha : (scope.names.any fun (n, k) => n == y && (k == .local || k == .cell)) = false) : swapsWith (.ListComp elt gs scope pos) (some (.Name y py)) l env = pure true := by
  have ky : env.kindOf y = some .local := hy
  have hb : env.blockKind = .function := by unfold Env.blockKind; rw [hk]; rfl
  unfold swapsWith
  simp only [hb, ky, ha, show (Expr.ListComp elt gs scope pos).pos = pos from rfl, hl]
  rfl
end
theorem lc_range {lo : Int} {n : Nat} {g : TG} {tt : TT} {te : TE} {vs : List Nat} {σ : St} {H1 : Hp} {D : Addr} {Qd : Hp → Prop} (Pv : Nat → Hp → Prop) (h0 : Pv 0 (upd H1 D (.lst [])))
    (hs : ∀ i H, i < n → Pv i H → g (.int (lo + i)) (wipe σ vs) H fun σ2 H2 => wipe σ2 vs = wipe σ vs ∧ tt σ2 H2 fun b H3 =>
      if b = true then te σ2 H3 fun y H4 => ∃ acc, H4 D = some (.lst acc) ∧ acc.length < sizeLine ∧ Pv (i + 1) (upd H4 D (.lst (acc ++ [y]))) else Pv (i + 1) H3) (hd : ∀ H, Pv n H → Qd H) :
    ∃ W : Nat → Nat → Hp → Prop, (∃ m, W 0 m (upd H1 D (.lst []))) ∧ ∀ i m H, W i m H →
      ((Itr lo n).stop i H ∧ Qd H) ∨ ((Itr lo n).go i H ∧ ∃ Nx : Hp → Prop, (∀ H', Nx H' → ∃ m', m' < m ∧ W (i + 1) m' H') ∧ ∀ x H', (Itr lo n).yld i H x H' → g x (wipe σ vs) H' fun σ2 H2 => wipe σ2 vs = wipe σ vs ∧ tt σ2 H2 fun b H3 =>
        if b = true then te σ2 H3 fun y H4 => ∃ acc, H4 D = some (.lst acc) ∧ acc.length < sizeLine ∧ Nx (upd H4 D (.lst (acc ++ [y]))) else Nx H3) := by
  refine ⟨fun i m H => m = n - i ∧ i ≤ n ∧ Pv i H, ⟨n, by simp, Nat.zero_le _, h0⟩, ?_⟩
  rintro i m H ⟨rfl, hi, p⟩
  by_cases hlt : i < n
  · refine .inr ⟨hlt, Pv (i + 1), fun H' p' => ⟨n - (i + 1), by omega, rfl, hlt, p'⟩, fun x H' y => ?_⟩
    obtain ⟨e, y⟩ := y
    subst e y
    exact hs i _ hlt p
  · have e : i = n := by omega
    subst e
    exact .inl ⟨Nat.le_refl _, hd H p⟩
theorem lc_list {K : PySem.W.Frag} {a : Addr} {xs : List V} {g : TG} {tt : TT} {te : TE} {vs : List Nat} {σ : St} {H1 : Hp} {D : Addr} {Qd : Hp → Prop} (Pv : Nat → Hp → Prop) (h0 : Pv 0 (upd H1 D (.lst []))) (hl : ∀ i H, i ≤ xs.length → Pv i H → SqL K H a xs)
    (hs : ∀ i x H, xs[i]? = some x → Pv i H → g x (wipe σ vs) H fun σ2 H2 => wipe σ2 vs = wipe σ vs ∧ tt σ2 H2 fun b H3 =>
      if b = true then te σ2 H3 fun y H4 => ∃ acc, H4 D = some (.lst acc) ∧ acc.length < sizeLine ∧ Pv (i + 1) (upd H4 D (.lst (acc ++ [y]))) else Pv (i + 1) H3) (hd : ∀ H, Pv xs.length H → Qd H) :
    ∃ W : Nat → Nat → Hp → Prop, (∃ m, W 0 m (upd H1 D (.lst []))) ∧ ∀ i m H, W i m H →
      ((Itl K a).stop i H ∧ Qd H) ∨ ((Itl K a).go i H ∧ ∃ Nx : Hp → Prop, (∀ H', Nx H' → ∃ m', m' < m ∧ W (i + 1) m' H') ∧ ∀ x H', (Itl K a).yld i H x H' → g x (wipe σ vs) H' fun σ2 H2 => wipe σ2 vs = wipe σ vs ∧ tt σ2 H2 fun b H3 =>
        if b = true then te σ2 H3 fun y H4 => ∃ acc, H4 D = some (.lst acc) ∧ acc.length < sizeLine ∧ Nx (upd H4 D (.lst (acc ++ [y]))) else Nx H3) := by
  refine ⟨fun i m H => m = xs.length - i ∧ i ≤ xs.length ∧ Pv i H, ⟨xs.length, by simp, Nat.zero_le _, h0⟩, ?_⟩
  rintro i m H ⟨rfl, hi, p⟩
  have q := hl i H hi p
  by_cases hlt : i < xs.length
  · refine .inr ⟨⟨xs, xs[i], q, by simp [hlt]⟩, Pv (i + 1), fun H' p' => ⟨xs.length - (i + 1), by omega, rfl, hlt, p'⟩, fun x H' y => ?_⟩
    obtain ⟨e, y⟩ := y
    subst e
    exact hs i x _ (y xs q) p
  · have e : i = xs.length := by omega
    subst e
    exact .inl ⟨⟨xs, q, Nat.le_refl _⟩, hd H p⟩
theorem lc_tup {K : PySem.W.Frag} {a : Addr} {xs : List V} {g : TG} {tt : TT} {te : TE} {vs : List Nat} {σ : St} {H1 : Hp} {D : Addr} {Qd : Hp → Prop} (Pv : Nat → Hp → Prop) (h0 : Pv 0 (upd H1 D (.lst []))) (hl : ∀ i H, i ≤ xs.length → Pv i H → SqT K H a xs)
    (hs : ∀ i x H, xs[i]? = some x → Pv i H → g x (wipe σ vs) H fun σ2 H2 => wipe σ2 vs = wipe σ vs ∧ tt σ2 H2 fun b H3 =>
      if b = true then te σ2 H3 fun y H4 => ∃ acc, H4 D = some (.lst acc) ∧ acc.length < sizeLine ∧ Pv (i + 1) (upd H4 D (.lst (acc ++ [y]))) else Pv (i + 1) H3) (hd : ∀ H, Pv xs.length H → Qd H) :
    ∃ W : Nat → Nat → Hp → Prop, (∃ m, W 0 m (upd H1 D (.lst []))) ∧ ∀ i m H, W i m H →
      ((Itt K a).stop i H ∧ Qd H) ∨ ((Itt K a).go i H ∧ ∃ Nx : Hp → Prop, (∀ H', Nx H' → ∃ m', m' < m ∧ W (i + 1) m' H') ∧ ∀ x H', (Itt K a).yld i H x H' → g x (wipe σ vs) H' fun σ2 H2 => wipe σ2 vs = wipe σ vs ∧ tt σ2 H2 fun b H3 =>
        if b = true then te σ2 H3 fun y H4 => ∃ acc, H4 D = some (.lst acc) ∧ acc.length < sizeLine ∧ Nx (upd H4 D (.lst (acc ++ [y]))) else Nx H3) := by
  refine ⟨fun i m H => m = xs.length - i ∧ i ≤ xs.length ∧ Pv i H, ⟨xs.length, by simp, Nat.zero_le _, h0⟩, ?_⟩
  rintro i m H ⟨rfl, hi, p⟩
  have q := hl i H hi p
  by_cases hlt : i < xs.length
  · refine .inr ⟨⟨xs, xs[i], q, by simp [hlt]⟩, Pv (i + 1), fun H' p' => ⟨xs.length - (i + 1), by omega, rfl, hlt, p'⟩, fun x H' y => ?_⟩
    obtain ⟨e, y⟩ := y
    subst e
    exact hs i x _ (y xs q) p
  · have e : i = xs.length := by omega
    subst e
    exact .inl ⟨⟨xs, q, Nat.le_refl _⟩, hd H p⟩
noncomputable def blkC (N : List Str) (sc scope : Scope) (own : List (Str × Nat)) : Bool :=
  (match scope.kind with | .function => true | _ => false) && (scope.names.all fun y => decide (scope.names.lookup y.1 = some y.2)) && (own.all fun p => decide (N[p.2]? = some p.1)) &&
    (scope.names.all fun y => match y.2 with
      | .free => (match sc.names.lookup y.1 with | some .cell => true | some .free => true | _ => false)
      | .local => decide (y.1 ∈ own.map (·.1)) || decide (y.1 ∉ N)
      | .cell => decide (y.1 ∈ own.map (·.1)) || decide (y.1 ∉ N)
      | _ => true)
theorem blkOk_by {N : List Str} {sc scope : Scope} {own : List (Str × Nat)} (h : blkC N sc scope own = true) : BlkOk N sc scope own := by
  unfold blkC at h
  simp only [Bool.and_eq_true, List.all_eq_true, decide_eq_true_eq] at h
  obtain ⟨⟨⟨h1, h2⟩, h3⟩, h4⟩ := h
  refine ⟨?_, h2, h3, fun y hy e => ?_, fun y hy e => ?_⟩
  · split at h1
    · assumption
    · cases h1
  · have q := h4 y hy
    simp only [e] at q
    split at q <;> first | exact .inl (by assumption) | exact .inr (by assumption) | cases q
  · have q := h4 y hy
    rcases e with e | e <;> (simp only [e, Bool.or_eq_true, decide_eq_true_eq] at q; exact q)
end L2
namespace L2
open PySem PySem.Spec PyProof.Rows
section
variable {prog : Program} {w : World} {A : Around} {R : Result → Shared → Prop} {s : Shared} {elt t0 i0 t1 i1 : Expr} {ifs0 ifs1 : List Expr} {scope : Scope} {pos : Pos} {it acc : Value} {env : Env}
end
section
variable {X : Cx}
end
end L2
namespace L2
open PySem PySem.Spec PyProof.Rows
section
variable {κ : Type} [DecidableEq κ]
noncomputable def valV (kvs : List (κ × V)) (k : κ) : Option V := (kvs.find? fun kv => decide (kv.1 = k)).map (·.2)
noncomputable def putK (kvs : List (κ × V)) (k : κ) (v : V) : List (κ × V) :=
  if (kvs.any fun kv => decide (kv.1 = k)) = true then kvs.map (fun kv => if kv.1 = k then (kv.1, v) else kv) else kvs ++ [(k, v)]
theorem valV_pos {p : κ × V} {r : List (κ × V)} {k : κ} (e : p.1 = k) : valV (p :: r) k = some p.2 := by simp [valV, List.find?_cons, e]
theorem valV_neg {p : κ × V} {r : List (κ × V)} {k : κ} (e : ¬ p.1 = k) : valV (p :: r) k = valV r k := by simp [valV, List.find?_cons, e]
theorem valV_any (k : κ) : ∀ kvs : List (κ × V), (kvs.any fun kv => decide (kv.1 = k)) = (valV kvs k).isSome
  | [] => rfl
  | p :: r => by
    rw [List.any_cons]
    by_cases e : p.1 = k
    · simp only [valV_pos e, decide_eq_true e, Bool.true_or, Option.isSome_some]
    · rw [valV_neg e, decide_eq_false e, Bool.false_or]; exact valV_any k r
theorem length_putK (kvs : List (κ × V)) (k : κ) (v : V) : (putK kvs k v).length ≤ kvs.length + 1 := by
  unfold putK
  split
  · rw [List.length_map]; omega
  · rw [List.length_append, List.length_cons, List.length_nil]; omega
theorem RelO.isSome_eq {o : Option V} {u : Option Value} (r : RelO o u) : o.isSome = u.isSome := by
  cases o with
  | none => cases u with
    | none => rfl
    | some _ => exact (show False from r).elim
  | some _ => cases u with
    | none => exact (show False from r).elim
    | some _ => rfl
theorem RelO.getD {o : Option V} {u : Option Value} {d : V} {d' : Value} (r : RelO o u) (rd : RelV d d') : RelV (o.getD d) (u.getD d') := by
  cases o with
  | none => cases u with
    | none => exact rd
    | some _ => exact (show False from r).elim
  | some _ => cases u with
    | none => exact (show False from r).elim
    | some _ => exact r
theorem KV.val {kvs : List (κ × V)} {vs : List (κ × Value)} (r : KV kvs vs) (k : κ) : RelO (valV kvs k) (valueAt vs k) := by
  unfold KV at r
  induction r with
  | nil => exact True.intro
  | @cons p q ps qs h t ih =>
    obtain ⟨h1, h2⟩ := h
    by_cases e : p.1 = k
    · have e' : q.1 = k := h1.symm.trans e
      have b : valueAt (q :: qs) k = some q.2 := by simp [valueAt, List.find?_cons, e']
      rw [valV_pos e, b]; exact h2
    · have e' : ¬ q.1 = k := fun z => e (h1.trans z)
      have b : valueAt (q :: qs) k = valueAt qs k := by simp [valueAt, List.find?_cons, e']
      rw [valV_neg e, b]; exact ih
theorem KV.any {kvs : List (κ × V)} {vs : List (κ × Value)} (r : KV kvs vs) (k : κ) : (kvs.any fun kv => decide (kv.1 = k)) = vs.any fun kv => decide (kv.1 = k) := by
  unfold KV at r
  induction r with
  | nil => rfl
  | cons h t ih => rw [List.any_cons, List.any_cons, ih, h.1]
theorem KV.repl {kvs : List (κ × V)} {vs : List (κ × Value)} (r : KV kvs vs) (k : κ) {y : V} {u : Value} (ry : RelV y u) :
    KV (kvs.map fun kv => if kv.1 = k then (kv.1, y) else kv) (vs.map fun kv => if kv.1 = k then (kv.1, u) else kv) := by
  unfold KV at r ⊢
  induction r with
  | nil => exact .nil
  | @cons p q ps qs h t ih =>
    rw [List.map_cons, List.map_cons]
    refine .cons ?_ ih
    obtain ⟨h1, h2⟩ := h
    by_cases e : p.1 = k
    · rw [if_pos e, if_pos (h1.symm.trans e)]; exact ⟨h1, ry⟩
    · rw [if_neg e, if_neg (fun z => e (h1.trans z))]; exact ⟨h1, h2⟩
theorem KV.put {kvs : List (κ × V)} {vs : List (κ × Value)} (r : KV kvs vs) (k : κ) {y : V} {u : Value} (ry : RelV y u) : KV (putK kvs k y) (stored vs k u) := by
  unfold putK stored
  rw [r.any k]
  by_cases e : (vs.any fun kv => decide (kv.1 = k)) = true
  · rw [if_pos e, if_pos e]; exact r.repl k ry
  · rw [if_neg e, if_neg e]; exact Paired.snoc r ⟨rfl, ry⟩
theorem KV.length {kvs : List (κ × V)} {vs : List (κ × Value)} (r : KV kvs vs) : kvs.length = vs.length := Paired.length r
end
theorem kV_is {P : Program} {w : World} {k : Key} {u : Value} (r : RelV (kV k) u) : (mixKind P w).is k u = true := by
  cases k with
  | inl i => obtain ⟨t, e⟩ := (show ∃ t, u = Value.int i t from r); subst e; exact mixKind_int P w i t
  | inr x => obtain ⟨t, e⟩ := (show ∃ t, u = Value.str x t from r); subst e; exact mixKind_str P w x t
theorem items_are {P : Program} {w : World} : ∀ {ks : List Key} {us : List Value}, Vals (ks.map kV) us → ItemsAre (mixKind P w) ks us
  | [], _, r => by rw [List.map_nil] at r; cases r; exact .nil
  | k :: ks, _, r => by
    rw [List.map_cons] at r
    cases r with
    | cons h t => exact .cons (kV_is h) (items_are t)
noncomputable abbrev KT (H : Hp) : List (List Key × V) → List (List Key × Addr × Value) → Prop := Paired fun p q => p.1 = q.1 ∧ H q.2.1 = some (.tup (p.1.map kV)) ∧ RelV p.2 q.2.2
theorem KT.val {H : Hp} {kvs : List (List Key × V)} {xs : List (List Key × Addr × Value)} (r : KT H kvs xs) (k : List Key) : RelO (valV kvs k) ((atKey xs k).map (·.2)) := by
  induction r with
  | nil => exact True.intro
  | @cons p q ps qs h t ih =>
    obtain ⟨h1, _, h2⟩ := h
    by_cases e : p.1 = k
    · have e' : q.1 = k := h1.symm.trans e
      have b : atKey (q :: qs) k = some q.2 := by simp [atKey, List.find?_cons, e']
      rw [valV_pos e, b]; exact h2
    · have e' : ¬ q.1 = k := fun z => e (h1.trans z)
      have b : atKey (q :: qs) k = atKey qs k := by simp [atKey, List.find?_cons, e']
      rw [valV_neg e, b]; exact ih
theorem KT.repl {H : Hp} {kvs : List (List Key × V)} {xs : List (List Key × Addr × Value)} (r : KT H kvs xs) (k : List Key) {y : V} {u : Value} (ry : RelV y u) :
    KT H (kvs.map fun kv => if kv.1 = k then (kv.1, y) else kv) (xs.map (putAt k u)) := by
  induction r with
  | nil => exact .nil
  | @cons p q ps qs h t ih =>
    rw [List.map_cons, List.map_cons]
    refine .cons ?_ ih
    obtain ⟨h1, h2, h3⟩ := h
    unfold putAt
    by_cases e : p.1 = k
    · rw [if_pos e, if_pos (h1.symm.trans e)]; exact ⟨h1, h2, ry⟩
    · rw [if_neg e, if_neg (fun z => e (h1.trans z))]; exact ⟨h1, h2, h3⟩
theorem KT.put {H : Hp} {kvs : List (List Key × V)} {xs : List (List Key × Addr × Value)} (r : KT H kvs xs) (k : List Key) {b : Addr} {y : V} {u : Value} (hb : H b = some (.tup (k.map kV))) (ry : RelV y u) :
    KT H (putK kvs k y) (storedH xs k b u) := by
  have e : (kvs.any fun kv => decide (kv.1 = k)) = (atKey xs k).isSome := by
    rw [valV_any, (r.val k).isSome_eq, Option.isSome_map]
  unfold putK storedH
  rw [e]
  by_cases q : (atKey xs k).isSome = true
  · rw [if_pos q, if_pos q]; exact r.repl k ry
  · rw [if_neg q, if_neg q]; exact Paired.snoc r ⟨rfl, hb, ry⟩
theorem KT.keeps {H H' : Hp} {kvs : List (List Key × V)} {xs : List (List Key × Addr × Value)} (r : KT H kvs xs) (ht : ∀ b ys, H b = some (.tup ys) → H' b = some (.tup ys)) : KT H' kvs xs :=
  Paired.mapP r fun _ _ z => ⟨z.1, ht _ _ z.2.1, z.2.2⟩
section
variable {P : Program} {w : World} {H : Hp} {h : Heap} {a : Addr}
theorem rd_of {u : HO} (ok : HOk P w H h) (e : Rd H a u) : ObjOk P w H h a u := e.ok ok
theorem dk_rd {kvs : List (Key × V)} (ok : HOk P w H h) (e : Rd H a (.dK kvs)) : kvs.length ≤ sizeLine ∧ (a == sysModules) = false ∧ ∃ vs, KV kvs vs ∧ h.DictOf (mixKind P w) a vs :=
  show ObjOk P w H h a (.dK kvs) from rd_of ok e
theorem dk_of {kvs : List (Key × V)} (ok : HOk P w H h) (e : H a = some (.dK kvs)) : kvs.length ≤ sizeLine ∧ (a == sysModules) = false ∧ ∃ vs, KV kvs vs ∧ h.DictOf (mixKind P w) a vs := dk_rd ok (.inl e)
theorem key_of {ks : List Key} (ok : HOk P w H h) (e : H a = some (.tup (ks.map kV))) : (tupleKind (mixKind P w)).is h ks a := by
  obtain ⟨_, its, r, o, h1, h2, n, h3⟩ := (show ObjOk P w H h a (.tup (ks.map kV)) from ok a _ e)
  exact ⟨o, its.toArray, n, h1, h2, h3, by simpa using items_are r⟩
theorem dt_rd {kvs : List (List Key × V)} (ok : HOk P w H h) (e : Rd H a (.dT kvs)) : kvs.length ≤ sizeLine ∧ (a == sysModules) = false ∧
    ∃ xs, KT H kvs xs ∧ h.DictOfH (tupleKind (mixKind P w)) a xs := by
  obtain ⟨z, y, xs, r, o, es, ep, h1, h2, h3, h4, h5⟩ := (show ObjOk P w H h a (.dT kvs) from rd_of ok e)
  refine ⟨z, y, xs, r, o, es, ep, h1, h2, h3, h4, fun x hx => ?_, h5⟩
  have all : ∀ {l : List (List Key × V)} {m : List (List Key × Addr × Value)}, KT H l m → ∀ x ∈ m, (tupleKind (mixKind P w)).is h x.1 x.2.1 := by
    intro l m q
    induction q with
    | nil => intro x hx; exact nomatch hx
    | @cons p q ps qs hq t ih =>
      intro x hx
      rcases List.mem_cons.mp hx with e | hx
      · subst e
        exact key_of ok (by rw [← hq.1]; exact hq.2.1)
      · exact ih x hx
  exact all r x hx
theorem dt_of {kvs : List (List Key × V)} (ok : HOk P w H h) (e : H a = some (.dT kvs)) : kvs.length ≤ sizeLine ∧ (a == sysModules) = false ∧
    ∃ xs, KT H kvs xs ∧ h.DictOfH (tupleKind (mixKind P w)) a xs := dt_rd ok (.inl e)
end
noncomputable def DGet (H : Hp) (a : Addr) (y : V) (r : Option V) : Prop :=
  (∃ kvs k, Rd H a (.dK kvs) ∧ y = kV k ∧ r = valV kvs k) ∨ ∃ kvs k b, Rd H a (.dT kvs) ∧ y = .ref b ∧ H b = some (.tup (k.map kV)) ∧ r = valV kvs k
noncomputable def DPut (H : Hp) (a : Addr) (y v : V) (H' : Hp) : Prop :=
  (∃ kvs k, H a = some (.dK kvs) ∧ y = kV k ∧ kvs.length < sizeLine ∧ H' = upd H a (.dK (putK kvs k v))) ∨
  ∃ kvs k b, H a = some (.dT kvs) ∧ y = .ref b ∧ H b = some (.tup (k.map kV)) ∧ kvs.length < sizeLine ∧ H' = upd H a (.dT (putK kvs k v))
theorem DGet.k {H : Hp} {a : Addr} {kvs : List (Key × V)} {k : Key} (e : H a = some (.dK kvs)) : DGet H a (kV k) (valV kvs k) := .inl ⟨kvs, k, .inl e, rfl, rfl⟩
theorem DPut.k {H : Hp} {a : Addr} {kvs : List (Key × V)} {k : Key} {v : V} (e : H a = some (.dK kvs)) (hl : kvs.length < sizeLine) : DPut H a (kV k) v (upd H a (.dK (putK kvs k v))) := .inl ⟨kvs, k, e, rfl, hl, rfl⟩
section
variable {X : Cx} {pins : List (Addr × Obj)} {σ : St} {H : Hp} {s : Shared} {a : Addr} {y v : V} {u r : Value} {o : Option V} {A : Around} {E : Value → Shared → Prop}
theorem Inv.big (I : Inv X pins σ H s) : sysModules < s.heap.objs.size := by
  have h : mainGlobals < s.heap.objs.size := (I.mod.glob.keeps I.bk).lt
  exact Nat.lt_trans (by decide) h
theorem d_getItem {Q : Value → Shared → Prop} (hu : A.units + 1 < cLine) (I : Inv X pins σ H s) (g : DGet H a y (some v)) (ry : RelV y u) (h : ∀ w' s', Inv X pins σ H s' → RelV v w' → Q w' s') :
    wpAny (model X.prog X.w) A (getItem (.ref a) u) Q E s := by
  rcases g with ⟨kvs, k, e, ey, l⟩ | ⟨kvs, k, b, e, ey, eb, l⟩
  · subst ey
    obtain ⟨z, hd, vs, rel, dd⟩ := dk_rd I.hok e
    obtain ⟨w', hw, rw'⟩ := RelO.some_of (v := v) (o := valueAt vs k) (by rw [l]; exact rel.val k)
    exact wpAny_getItem_of (kV_is ry) dd.mapOf hw (h w' _ (I.tok _) rw')
  · subst ey
    cases (show u = Value.ref b from ry)
    obtain ⟨z, hd, xs, rel, dd⟩ := dt_rd I.hok e
    obtain ⟨w', hw, rw'⟩ := RelO.some_of (v := v) (o := (atKey xs k).map (·.2)) (by rw [l]; exact rel.val k)
    obtain ⟨p, hp, hp2⟩ := Option.map_eq_some_iff.mp hw
    refine wpAny_getItem_heap (tupleKind_room_in1 hu) (key_of I.hok eb) dd hp ?_
    rw [hp2]
    exact h w' _ (I.tok _) rw'
theorem d_in {Q : Value → Shared → Prop} (hu : A.units + 1 < cLine) (I : Inv X pins σ H s) (g : DGet H a y o) (ry : RelV y u) (h : ∀ s', Inv X pins σ H s' → Q (.bool o.isSome) s') :
    wpAny (model X.prog X.w) A (compareOp .In u (.ref a)) Q E s := by
  rcases g with ⟨kvs, k, e, ey, l⟩ | ⟨kvs, k, b, e, ey, eb, l⟩
  · subst ey
    obtain ⟨z, hd, vs, rel, dd⟩ := dk_rd I.hok e
    refine wpAny_in_of (kV_is ry) hd dd.mapOf ?_
    rw [← (rel.val k).isSome_eq, ← l]
    exact h _ (I.tok _)
  · subst ey
    cases (show u = Value.ref b from ry)
    obtain ⟨z, hd, xs, rel, dd⟩ := dt_rd I.hok e
    refine wpAny_in_heap (tupleKind_room_in1 hu) (key_of I.hok eb) hd dd ?_
    have q := (rel.val k).isSome_eq
    rw [Option.isSome_map] at q
    rw [← q, ← l]
    exact h _ (I.tok _)
theorem d_write {h' : Heap} {t' : Nat} {ob : HO} (I : Inv X pins σ H s) (mu : Mut (H a)) (hs : Heap.SameBut a s.heap h') (he : ∃ q, h'.get? a = some q) (new : ObjOk X.prog X.w (upd H a ob) h' a ob) :
    Inv X pins σ (upd H a ob) { s with heap := h', toks := t' } :=
  I.write (x := a) (e := a) mu (.inl rfl) (fun b q hb z => (hs.2 b hb).trans z) he new
theorem dk_new {P : Program} {w : World} {H' : Hp} {h' : Heap} {kvs : List (Key × V)} {vs : List (Key × Value)} (z : kvs.length ≤ sizeLine) (hd : (a == sysModules) = false) (rel : KV kvs vs) (dd : h'.DictOf (mixKind P w) a vs) :
    ObjOk P w H' h' a (.dK kvs) := ⟨z, hd, vs, rel, dd⟩
theorem d_setItem {H' : Hp} {Q : Unit → Shared → Prop} (hu : A.units + 1 < cLine) (I : Inv X pins σ H s) (g : DPut H a y v H') (ry : RelV y u) (rv : RelV v r) (h : ∀ s', Inv X pins σ H' s' → Q () s') :
    wpAny (model X.prog X.w) A (setItem (.ref a) u r) Q E s := by
  rcases g with ⟨kvs, k, e, ey, l, eH⟩ | ⟨kvs, k, b, e, ey, eb, l, eH⟩
  · subst ey eH
    obtain ⟨z, hd, vs, rel, dd⟩ := dk_of I.hok e
    have hz : vs.length ≤ sizeLine := by rw [← rel.length]; exact z
    have hl : (putK kvs k v).length ≤ sizeLine := by have := length_putK kvs k v; omega
    refine wpAny_setItem_pairs (hsz := hz) (kV_is ry) dd fun h' dd' hs => h _ ?_
    have he : ∃ q, h'.get? a = some q := let ⟨q, _, _, hq, _⟩ := dd'; ⟨q, hq⟩
    exact d_write I (by rw [e]; exact True.intro) hs he (dk_new hl hd (rel.put k rv) dd')
  · subst ey eH
    cases (show u = Value.ref b from ry)
    obtain ⟨z, hd, xs, rel, dd⟩ := dt_of I.hok e
    have hz : xs.length ≤ sizeLine := by rw [← Paired.length rel]; exact z
    have hl : (putK kvs k v).length ≤ sizeLine := by have := length_putK kvs k v; omega
    refine wpAny_setItem_heap (hsz := hz) (tupleKind_room_in1 hu) (key_of I.hok eb) dd fun h' dd' hs => h _ ?_
    obtain ⟨q, es, ep, hq, h2, h3, h4, _, h5⟩ := dd'
    refine d_write I (by rw [e]; exact True.intro) hs ⟨q, hq⟩ ⟨hl, hd, _, (rel.put k eb rv).keeps fun c ys ec => ?_, q, es, ep, hq, h2, h3, h4, h5⟩
    rw [upd_ne (ne_of ec e (fun z => nomatch z))]
    exact ec
end
section
variable {X : Cx} {pins : List (Addr × Obj)} {σ : St} {H : Hp} {s : Shared} {a : Addr} {kvs : List (Key × V)} {k : Key} {u : Value} {A : Around} {E : Value → Shared → Prop}
theorem d_len {Q : Value → Shared → Prop} (I : Inv X pins σ H s) (e : Rd H a (.dK kvs)) (h : ∀ t s', Inv X pins σ H s' → Q (.int kvs.length t) s') : wpAny (model X.prog X.w) A (call (.builtin "len") [.ref a]) Q E s := by
  obtain ⟨z, hd, vs, rel, dd⟩ := dk_rd I.hok e
  refine call_len_dict hd dd (by rw [← rel.length]; rw [sizeLine_eq] at z; omega) ?_
  rw [← rel.length]
  exact h _ _ (I.tok _)
end
noncomputable def NoSl (i : Expr) : Prop := ∀ ov iv, subscripted i false ov iv = operate [ov, iv] (getItem ov iv)
theorem subD_of {prog : Program} {w : World} {A : Around} {E : Value → Shared → Prop} {s : Shared} {env : Env} {value slice : Expr} {pos : Pos} {T id : String} {Q : Value → Shared → Prop}
    (hl : typeLookup (.type T) "__getitem__" = pure (some (.builtin id))) (hs : NoSl slice)
    (h : wpAny (model prog w) A (eval value env) (fun o s₁ => wpAny (model prog w) A (eval slice env) (fun i s₂ => s₂.TypeIs o T ∧ wpAny (model prog w) A (getItem o i) Q E s₂) E s₁) E s) :
    wpAny (model prog w) A (eval (.Subscript value slice pos) env) Q E s := by
  refine Subscript_ (wpAny_mono h (fun o s₁ h₁ => wpAny_mono h₁ (fun i s₂ h₂ => ?_) fun _ _ x => x) fun _ _ x => x)
  obtain ⟨hT, h₂⟩ := h₂
  unfold subscriptTail
  refine wpAny_bind ?_
  rw [getitemInPython_of_ne hT.not_modules]
  refine wpAny_bind (wpAny_specialOf hT hl ?_)
  have fin : wpAny (model prog w) A (subscripted slice false o i) (fun r s₃ => wpAny (model prog w) A (letTemporaryGo value o r >>= fun _ => pure r) Q E s₃) E s₂ := by
    rw [hs o i]
    exact wpAny_operating (wpAny_mono h₂ (fun r s₃ h₃ => wpAny_bind (wpAny_letTemporaryGo (wpAny_pure h₃))) fun _ _ x => x)
  first
    | exact wpAny_pure (wpAny_bind fin)
    | exact wpAny_bind (wpAny_pure (wpAny_bind fin))
    | exact wpAny_bind fin
theorem dict_typeIs {X : Cx} {pins : List (Addr × Obj)} {σ : St} {H : Hp} {s : Shared} {a : Addr} {y : V} {o : Option V} (I : Inv X pins σ H s) (g : DGet H a y o) : s.TypeIs (.ref a) "dict" := by
  rcases g with ⟨kvs, k, e, _, _⟩ | ⟨kvs, k, b, e, _, _, _⟩
  · obtain ⟨_, _, vs, _, dd⟩ := dk_rd I.hok e
    exact dd.typeIs
  · obtain ⟨_, _, xs, _, dd⟩ := dt_rd I.hok e
    exact dd.typeIs
inductive DGetR (x y : V) (H2 : Hp) (Q : VK) : Prop
  | mk (a : Addr) (v : V) (e : x = .ref a) (g : DGet H2 a y (some v)) (q : Q v H2)
noncomputable def tDGet (td ty : TE) : TE := fun σ H Q => td σ H fun x H1 => ty σ H1 fun y H2 => DGetR x y H2 Q
noncomputable def tDIn (ty td : TE) : TE := fun σ H Q => ty σ H fun y H1 => td σ H1 fun x H2 => ∃ a o, x = .ref a ∧ DGet H2 a y o ∧ Q (.bl o.isSome) H2
inductive DPutR (x y v : V) (H3 : Hp) (N : Hp → Prop) : Prop
  | mk (a : Addr) (H4 : Hp) (e : x = .ref a) (g : DPut H3 a y v H4) (q : N H4)
noncomputable def sDPut (td ty tv : TE) : TS := fun D σ H => tv σ H fun v H1 => td σ H1 fun x H2 => ty σ H2 fun y H3 => DPutR x y v H3 (D.nx σ)
section
variable {X : Cx} {o i e value : Expr} {pos pos' tpos : Pos} {td ty tv : TE}
theorem pe_dget (hu : X.A.units + 1 < cLine) (ho : PE X o td) (hi : PE X i ty) (hs : NoSl i) : PE X (.Subscript o i pos) (tDGet td ty) := by
  intro pins s σ H Q I h
  refine subD_of PySem.F.slot_dict_getitem.lookup hs (thn (ho pins s σ H _ I h) fun u s1 ⟨x, H1, I1, rx, q1⟩ => thn (hi pins s1 σ H1 _ I1 q1) fun iv s2 ⟨y, H2, I2, ry, a, v, ex, g, q2⟩ => ?_)
  subst ex
  obtain rfl : u = Value.ref a := rx
  exact ⟨dict_typeIs I2 g, d_getItem hu I2 g ry fun w' s3 I3 rw' => ⟨v, H2, I3, rw', q2⟩⟩
theorem pc_din (hu : X.A.units + 1 < cLine) (hi : PE X i ty) (ho : PE X o td) : PC X .In i o (tDIn ty td) := by
  intro pins s σ H Q I h
  refine thn (hi pins s σ H _ I h) fun iv s1 ⟨y, H1, I1, ry, q1⟩ => thn (ho pins s1 σ H1 _ I1 q1) fun u s2 ⟨x, H2, I2, rx, a, ov, ex, g, q2⟩ => ?_
  subst ex
  obtain rfl : u = Value.ref a := rx
  exact d_in hu I2 g ry fun s3 I3 => ⟨.bl ov.isSome, H2, I3, rfl, q2⟩
theorem ps_dput (hu : X.A.units + 1 < cLine) (ho : PE X o td) (hi : PE X i ty) (hv : PE X value tv) (hs : swapsWith value (some (.Subscript o i pos')) pos.line X.env = pure false) :
    PS X (.Assign [.Subscript o i pos'] value pos) (sDPut td ty tv) := by
  intro pins s σ H D I h
  refine wpAny_Assign_Subscript (thn (hv pins s σ H _ I h) fun r s1 ⟨v, H1, I1, rv, q1⟩ => thn (ho pins s1 σ H1 _ I1 q1) fun u s2 ⟨x, H2, I2, rx, q2⟩ => thn (hi pins s2 σ H2 _ I2 q2) fun iv s3 ⟨y, H3, I3, ry, a, H4, ex, g, q3⟩ => ?_) hs
  subst ex
  obtain rfl : u = Value.ref a := rx
  exact d_setItem hu I3 g ry rv fun s4 I4 => ⟨σ, H4, I4, q3⟩
end
theorem dk_empty {P : Program} {w : World} {H : Hp} (h : Heap) (hb : sysModules < h.objs.size) : ObjOk P w H (h.push { cls := .type "dict", data := .dict #[] }) h.objs.size (.dK []) :=
  ⟨Nat.zero_le _, beq_eq_false_iff_ne.mpr (Ne.symm (Nat.ne_of_lt hb)), [], .nil, Heap.DictOf.new h⟩
noncomputable def tDNewK : TE := fun _ H Q => ∀ p, H p = none → Q (.ref p) (upd H p (.dK []))
section
variable {X : Cx} {pos : Pos}
theorem pe_dnewK : PE X (.Dict [] [] pos) tDNewK := fun pins s σ H Q I h =>
  wpAny_Dict_empty ⟨.ref s.heap.objs.size, _, I.laid (a := s.heap.objs.size) (o := .dK []) (t' := s.toks) (fun _ _ q => Heap.get?_push_of_some _ q) (Nat.le_refl _) (dk_empty s.heap I.big), rfl, h _ (I.hok.fresh (Nat.le_refl _))⟩
end
structure M2 (X : Cx) (o : Expr) (m : Str) (apos : Pos) (e f : Expr) (cpos : Pos) : Prop where
  base : attributeBase o m X.env (eval o X.env) = eval o X.env
  few : ((backTo cpos (starEach [e, f] X.env)).all (fun x => !x.1) && (backToKw cpos (keywordEach [] X.env)).all (fun x => x.1.isSome)
    && decide (([e, f] : List Expr).length + ([] : List Keyword).length + (if ([] : List Keyword).isEmpty then 0 else 1) < 30)) = true
  line : (apos.endLine == cpos.line) = true
  trees : backTo cpos (starEach [e, f] X.env) = [(false, eval e X.env), (false, eval f X.env)]
noncomputable def IsD (H : Hp) (a : Addr) : Prop := (∃ kvs, Rd H a (.dK kvs)) ∨ ∃ kvs, Rd H a (.dT kvs)
theorem isD_at {X : Cx} {pins : List (Addr × Obj)} {σ : St} {H : Hp} {s : Shared} {a : Addr} (I : Inv X pins σ H s) (d : IsD H a) :
    s.TypeIs (.ref a) "dict" ∧ (∀ b, Value.ref a = .ref b → ∃ ob, s.heap.get? b = some ob ∧ ob.dict = none) ∧ (a == sysModules) = false := by
  rcases d with ⟨kvs, e⟩ | ⟨kvs, e⟩
  · obtain ⟨_, hd, vs, _, dd⟩ := dk_rd I.hok e
    refine ⟨dd.typeIs, fun b q => ?_, hd⟩
    cases q
    obtain ⟨ob, _, _, h1, h2, _⟩ := dd
    exact ⟨ob, h1, h2.2.1⟩
  · obtain ⟨_, hd, xs, _, dd⟩ := dt_rd I.hok e
    refine ⟨dd.typeIs, fun b q => ?_, hd⟩
    cases q
    obtain ⟨ob, _, _, h1, h2, _⟩ := dd
    exact ⟨ob, h1, h2.2.1⟩
section
variable {X : Cx} {pins : List (Addr × Obj)} {σ : St} {H : Hp} {s : Shared} {a : Addr} {y d : V} {u r : Value} {o : Option V} {A : Around} {E : Value → Shared → Prop}
theorem d_get2 {Q : Value → Shared → Prop} (hu : A.units + 1 < cLine) (I : Inv X pins σ H s) (g : DGet H a y o) (ry : RelV y u) (rd : RelV d r) (h : ∀ w' s', Inv X pins σ H s' → RelV (o.getD d) w' → Q w' s') :
    wpAny (model X.prog X.w) A (call (.builtin "dict.get") [.ref a, u, r]) Q E s := by
  rcases g with ⟨kvs, k, e, ey, l⟩ | ⟨kvs, k, b, e, ey, eb, l⟩
  · subst ey
    obtain ⟨z, hd, vs, rel, dd⟩ := dk_rd I.hok e
    refine call_meetsIn PySem.F.slot_dict_get dd.typeIs PySem.F.entry_dict_get (PySem.F.args_dict_get_3 _ _ _) (meets_dict_get_default (mixKind X.prog X.w) a (kV_is ry) hd r) ⟨_, dd.mapOf, h _ _ (I.tok _) ?_⟩
    rw [l]
    exact (rel.val k).getD rd
  · subst ey
    cases (show u = Value.ref b from ry)
    obtain ⟨z, hd, xs, rel, dd⟩ := dt_rd I.hok e
    refine call_meetsIn PySem.F.slot_dict_get dd.typeIs PySem.F.entry_dict_get (PySem.F.args_dict_get_3 _ _ _) (meetsH_dict_get_default (tupleKind (mixKind X.prog X.w)) a b hd r) ⟨tupleKind_room_in1 hu, k, xs, key_of I.hok eb, dd, h _ _ (I.tok _) ?_⟩
    rw [l]
    exact (rel.val k).getD rd
end
noncomputable def tDGet2 (td ty tx : TE) : TE := fun σ H Q => td σ H fun x H1 => ∃ a, x = .ref a ∧ IsD H1 a ∧ ty σ H1 fun y H2 => tx σ H2 fun z H3 => ∃ o, DGet H3 a y o ∧ Q (o.getD z) H3
section
variable {X : Cx} {o e f : Expr} {apos cpos : Pos} {td ty tx : TE}
theorem pe_dget2 (hu : X.A.units + 1 < cLine) (ho : PE X o td) (he : PE X e ty) (hf : PE X f tx) (m : M2 X o "get" apos e f cpos) : PE X (.Call (.Attribute o "get" apos) [e, f] [] cpos) (tDGet2 td ty tx) := by
  intro pins s σ H Q I h
  refine wpAny_Call_method m.base m.few m.line PySem.F.plainAttrs_dict PySem.F.slot_dict_get PySem.F.type_dict_get (thn (ho pins s σ H _ I h) fun u s1 ⟨x, H1, I1, rx, a, ex, d, q1⟩ => ?_)
  subst ex
  obtain rfl : u = Value.ref a := rx
  obtain ⟨t1, t2, _⟩ := isD_at I1 d
  refine ⟨t1, t2, ?_⟩
  rw [m.trees]
  refine Calls.callWith_builtin rfl (Calls.evalArgs_plain (Calls.spliced_cons (thn (he pins s1 σ H1 _ I1 q1) fun iv s2 ⟨y, H2, I2, ry, q2⟩ =>
    Calls.spliced_cons (thn (hf pins s2 σ H2 _ I2 q2) fun fv s3 ⟨z, H3, I3, rz, ov, g, q3⟩ => Calls.spliced_nil ?_))))
  exact d_get2 hu I3 g ry rz fun w' s4 I4 rw' => ⟨_, H3, I4, rw', q3⟩
end
section
variable {X : Cx} {pins : List (Addr × Obj)} {σ : St} {H : Hp} {s : Shared} {a : Addr} {kvs : List (Key × V)} {A : Around} {E : Value → Shared → Prop}
theorem d_copyOf {Q : Value → Shared → Prop} (I : Inv X pins σ H s) (e : Rd H a (.dK kvs)) (h : ∀ p s', H p = none → Inv X pins σ (upd H p (.dK kvs)) s' → Q (.ref p) s') : wpAny (model X.prog X.w) A (call (.type "dict") [.ref a]) Q E s := by
  obtain ⟨z, hd, vs, rel, dd⟩ := dk_rd I.hok e
  refine kt_call_dict hd dd (by rw [← rel.length]; exact z) fun h' dd' hs => ?_
  refine h _ _ (I.hok.fresh (Nat.le_refl _)) (I.laid (a := s.heap.objs.size) (o := .dK kvs) (t' := s.toks) (fun b q hq => ?_) (Nat.le_refl _) (dk_new z (beq_eq_false_iff_ne.mpr (Ne.symm (Nat.ne_of_lt I.big))) rel dd'))
  exact (hs.2 b (Nat.ne_of_lt (Heap.lt_size hq))).trans (Heap.get?_push_of_some _ hq)
end
section
variable {X : Cx} {pins : List (Addr × Obj)} {σ : St} {H : Hp} {s : Shared} {a : Addr} {y : V} {u : Value} {A : Around} {E : Value → Shared → Prop}
end
end L2
namespace L2
open PySem PySem.Spec PyProof.Rows
section
variable {prog : Program} {w : World} {A : Around} {E : Value → Shared → Prop}
end
section
variable {X : Cx}
end
end L2
namespace L2
open PySem PySem.Spec PyProof.Rows
section
variable {X : Cx} {pins : List (Addr × Obj)} {σ : St} {H : Hp} {s : Shared} {h' : Heap}
theorem Inv.turnedL {t' : Nat} {ch : List Addr} (I : Inv X pins σ H s) (k : ∀ b o, b ∉ ch → s.heap.get? b = some o → h'.get? b = some o) (hf : ∀ b ∈ ch, FpOk X pins H b) : Inv X pins σ H { s with heap := h', toks := t' } := by
  have nit : ∀ b u, H b = some u → b ∉ ch := fun b u e z => by
    have q := (hf b z).1
    rw [q] at e; cases e
  refine I.step (g' := s.gens) (d' := s.drawn) (ch := ch) (fun b hb => ⟨(hf b hb).2.2.2.1, (hf b hb).2.1, (hf b hb).2.2.2.2.1, (hf b hb).2.2.2.2.2⟩) (fun b o _ _ hc e _ => k b o hc e) (fun b o _ _ hc e _ => ⟨o.slots, k b o hc e⟩)
    (fun _ _ _ _ n => n) (fun b o hc e => ⟨o, k b o hc e⟩) (fun _ _ e => e) (fun _ _ _ e => e) (fun b ps e => ⟨#[], by rw [e]; simp⟩) (fun m hm => ?_) (fun b u e => ?_) I.bare
  · obtain ⟨o, es, ep, ho, r⟩ := hm
    exact ⟨o, es, ep, k _ o (fun z => (hf _ z).2.1 rfl) ho, r⟩
  · refine (I.hok b u e).stay (fun c v hc q => k c v ?_ q) (fun _ q => q) fun _ _ q => q
    rcases hc with z | z
    · rw [z]; exact nit b u e
    · exact nit c _ z
theorem Inv.turnedNew {t' : Nat} {ch : List Addr} {T : Addr} {ob : HO} (I : Inv X pins σ H s) (k : ∀ b o, b ∉ ch → s.heap.get? b = some o → h'.get? b = some o) (hf : ∀ b ∈ ch, FpOk X pins H b) (hT : s.heap.objs.size ≤ T)
    (new : ObjOk X.prog X.w (upd H T ob) h' T ob) : Inv X pins σ (upd H T ob) { s with heap := h', toks := t' } := by
  have hn : H T = none := I.hok.fresh hT
  have nit : ∀ b u, H b = some u → b ∉ ch := fun b u e z => by
    have q := (hf b z).1
    rw [q] at e; cases e
  refine I.step (g' := s.gens) (d' := s.drawn) (ch := ch) (fun b hb => ⟨(hf b hb).2.2.2.1, (hf b hb).2.1, (hf b hb).2.2.2.2.1, (hf b hb).2.2.2.2.2⟩) (fun b o _ _ hc e _ => k b o hc e) (fun b o _ _ hc e _ => ⟨o.slots, k b o hc e⟩)
    (fun b o _ e n => ?_) (fun b o hc e => ⟨o, k b o hc e⟩) (fun b xs e => ?_) (fun b o u e => ?_) (fun b ps e => ⟨#[], ?_⟩) (fun m hm => ?_) (fun b u e => ?_) I.bare
  · rw [upd_ne (Nat.ne_of_lt (Nat.lt_of_lt_of_le (Heap.lt_size e) hT))]; exact n
  · rw [upd_ne (ne_of_none e hn)]; exact e
  · rw [upd_ne (ne_of_none e hn)]; exact e
  · rw [upd_ne (ne_of_none e hn), e]; simp
  · obtain ⟨o, es, ep, ho, r⟩ := hm
    exact ⟨o, es, ep, k _ o (fun z => (hf _ z).2.1 rfl) ho, r⟩
  · by_cases hb : b = T
    · subst hb
      rw [upd_same] at e
      cases e
      exact new
    · rw [upd_ne hb] at e
      refine (I.hok b u e).stay (fun c v hc q => k c v ?_ q) (fun c q => by rw [upd_ne (ne_of_none q hn)]; exact q) fun c xs q => by rw [upd_ne (ne_of_none q hn)]; exact q
      rcases hc with z | z
      · rw [z]; exact nit b u e
      · exact nit c _ z
theorem Inv.lock {d : Addr} {u : HO} (I : Inv X pins σ H s) (h : H d = some u) (mu : Mut (some u)) : ∃ od, Inv X pins σ (upd H d (.frz od u)) s := by
  have x := I.hok d u h
  have ex : ∃ od, s.heap.get? d = some od := by
    cases u with
    | lst xs => obtain ⟨_, _, _, _, e⟩ := x; exact ⟨_, e⟩
    | dK kvs => obtain ⟨_, _, _, _, o, _, _, e, _⟩ := x; exact ⟨o, e⟩
    | dT kvs => obtain ⟨_, _, _, _, o, _, _, e, _⟩ := x; exact ⟨o, e⟩
    | set S n => obtain ⟨o, _, _, _, e, _⟩ := x; exact ⟨o, e⟩
    | ins C dx fs => obtain ⟨_, _, _, e, _⟩ := x; exact ⟨_, e⟩
    | ext φ => obtain ⟨_, ⟨_, e⟩, _⟩ := x; exact ⟨_, e⟩
    | _ => exact False.elim mu
  obtain ⟨od, e⟩ := ex
  have new : ObjOk X.prog X.w (upd H d (.frz od u)) s.heap d (.frz od u) := by
    refine ⟨e, x.stay (fun b v _ q => q) (fun b q => ?_) fun b xs q => ?_⟩
    · rw [upd_ne (fun z => by rw [z, h] at q; cases q; exact mu)]; exact q
    · rw [upd_ne (fun z => by rw [z, h] at q; cases q; exact mu)]; exact q
  exact ⟨od, I.write (x := d) (e := d) (t' := s.toks) (h' := s.heap) (by rw [h]; exact mu) (.inl rfl) (fun b v _ q => q) ⟨od, e⟩ new⟩
theorem Inv.nofrz {d : Addr} {u : HO} (I : Inv X pins σ H s) (h : H d = some u) (mu : Mut (some u)) : ∀ o' u', X.H_0 d ≠ some (.frz o' u') := fun o' u' e => by
  have q := I.base.frzs d o' u' e
  rw [h] at q
  cases q
  exact mu
theorem Inv.unlock {d : Addr} {od : Obj} {u : HO} (I : Inv X pins σ H s) (h : H d = some (.frz od u)) (hn : ∀ o' u', X.H_0 d ≠ some (.frz o' u')) : Inv X pins σ (upd H d u) s := by
  have neH : ∀ b o, H b = some o → (∀ o' u', o ≠ .frz o' u') → b ≠ d := fun b o e hne z => by
    rw [z, h] at e
    cases e
    exact hne _ _ rfl
  have neN : ∀ b, H b = none → b ≠ d := fun b e z => by rw [z, h] at e; cases e
  refine ⟨I.ok, I.os, I.bare, ⟨I.base.keep, I.base.slot, fun b o e n hx => ?_, I.base.there, fun b xs e => ?_, fun b o x e => ?_, fun b ps e => ?_⟩, I.loc, I.cell, ?_, fun x c e => ?_, fun p hp => ?_, fun b o e => ?_, I.len⟩
  · rw [upd_ne (neN b (I.base.free b o e n hx))]; exact I.base.free b o e n hx
  · have q := I.base.tups b xs e
    rw [upd_ne (neH b _ q (fun _ _ z => nomatch z))]; exact q
  · have q := I.base.frzs b o x e
    rw [upd_ne (fun z => by rw [z] at e; exact hn _ _ e)]; exact q
  · obtain ⟨m, q⟩ := I.base.tbls b ps e
    exact ⟨m, by rw [upd_ne (neH b _ q (fun _ _ z => nomatch z))]; exact q⟩
  · rw [upd_ne (neN _ I.free)]; exact I.free
  · rw [upd_ne (neN c (I.freeC x c e))]; exact I.freeC x c e
  · obtain ⟨e, n, r⟩ := I.pin p hp
    exact ⟨e, by rw [upd_ne (neN _ n)]; exact n, r⟩
  · by_cases hb : b = d
    · rw [hb, upd_same] at e
      cases e
      rw [hb]
      obtain ⟨_, x⟩ := I.hok d _ h
      exact x.stay (fun c v _ q => q) (fun c q => by rw [upd_ne (neH c _ q (fun _ _ z => nomatch z))]; exact q) fun c xs q => by rw [upd_ne (neH c _ q (fun _ _ z => nomatch z))]; exact q
    · rw [upd_ne hb] at e
      exact (I.hok b o e).stay (fun c v _ q => q) (fun c q => by rw [upd_ne (neH c _ q (fun _ _ z => nomatch z))]; exact q) fun c xs q => by rw [upd_ne (neH c _ q (fun _ _ z => nomatch z))]; exact q
end
noncomputable def tLock (t : TS) : TS := fun D σ H => ∃ d u, H d = some u ∧ Mut (some u) ∧ ∀ od, t ⟨fun σ' H' => H' d = some (.frz od u) ∧ D.nx σ' (upd H' d u), fun v H' => H' d = some (.frz od u) ∧ D.rt v (upd H' d u), fun σ' H' => H' d = some (.frz od u) ∧ D.bk σ' (upd H' d u), fun σ' H' => H' d = some (.frz od u) ∧ D.ct σ' (upd H' d u)⟩ σ (upd H d (.frz od u))
section
variable {X : Cx}
theorem ps_lock {st : Stmt} {t : TS} (h : PS X st t) : PS X st (tLock t) := by
  intro pins s σ H D I hw
  obtain ⟨d, u, hd, mu, hw⟩ := hw
  obtain ⟨od, I1⟩ := I.lock hd mu
  refine thn (h pins s σ _ _ I1 (hw od)) fun f s1 q => ?_
  cases f with
  | next => obtain ⟨σ', H', I2, e, q⟩ := q; exact ⟨σ', _, I2.unlock e (I.nofrz hd mu), q⟩
  | brk => obtain ⟨σ', H', I2, e, q⟩ := q; exact ⟨σ', _, I2.unlock e (I.nofrz hd mu), q⟩
  | cont => obtain ⟨σ', H', I2, e, q⟩ := q; exact ⟨σ', _, I2.unlock e (I.nofrz hd mu), q⟩
  | ret v => obtain ⟨x, σ', H', I2, r, e, q⟩ := q; exact ⟨x, σ', _, I2.unlock e (I.nofrz hd mu), r, q⟩
theorem pi_one {tg : Expr} {pins : List (Addr × Obj)} {σ : St} {H : Hp} {s : Shared} {R : It → Hp → Prop} {J : It} {tn : Nat → Heap → Prop} {tk : Nat} (I : Inv X pins σ H s) (o : Obj)
    (T : Turn X.prog X.w X.K tg J [s.heap.objs.size] s.heap.objs.size tn) (st : tn 0 (s.heap.push o)) (q : R J H) : PIE X pins σ tg R (.ref s.heap.objs.size) { s with heap := s.heap.push o, toks := tk } := by
  refine ⟨s.heap.objs.size, [s.heap.objs.size], tn, J, H, rfl, I.kept fun b ob e => Heap.get?_push_of_some _ e, T, st, fun b hb => ?_, q⟩
  have e : b = s.heap.objs.size := by simpa using hb
  subst e
  exact I.fpOk (Nat.le_refl _) (I.hok.fresh (Nat.le_refl _))
end
section
variable {X : Cx} {tg : Expr}
end
section
variable {X : Cx} {tg : Expr}
end
section
variable {prog : Program} {w : World} {A : Around} {E : Value → Shared → Prop} {s : Shared}
end
theorem kv_get {κ : Type} {kvs : List (κ × V)} {vs : List (κ × Value)} (h : KV kvs vs) : ∀ {i : Nat} {k : κ} {v : V}, kvs[i]? = some (k, v) → ∃ u, vs[i]? = some (k, u) ∧ RelV v u := by
  unfold KV at h
  induction h with
  | nil => intro i k v e; simp at e
  | @cons a b l₁ l₂ r t ih =>
    intro i k v e
    cases i with
    | zero =>
      simp only [List.getElem?_cons_zero, Option.some.injEq] at e
      subst e
      refine ⟨b.2, ?_, r.2⟩
      simp only [List.getElem?_cons_zero]
      exact congrArg some (Prod.ext r.1.symm rfl)
    | succ j =>
      simp only [List.getElem?_cons_succ] at e ⊢
      exact ih e
theorem relV_key {k : Key} {u : Value} (h : keyIs k u = true) : RelV (kV k) u := by
  rcases keyIs_shape h with ⟨i, t, rfl, rfl⟩ | ⟨x, t, rfl, rfl⟩
  · exact ⟨t, rfl⟩
  · exact ⟨t, rfl⟩
section
variable {X : Cx} {pins : List (Addr × Obj)} {σ : St} {H : Hp} {s : Shared} {d : Addr} {o : Obj}
theorem Inv.frzK {kvs : List (Key × V)} (I : Inv X pins σ H s) (h : H d = some (.frz o (.dK kvs))) :
    (d == sysModules) = false ∧ s.heap.get? d = some o ∧ o.ExactDict ∧ ∃ (es : Array DictEntry) (ep : Nat) (vs : List (Key × Value)), o.data = .dict es ep ∧ es.size = kvs.length ∧ KV kvs vs ∧ s.heap.DictAt (mixKind X.prog X.w) d vs ep := by
  obtain ⟨hd, z, hs, vs, kv, o', es, ep, ho, hx, hdt, r⟩ := I.hok d _ h
  rw [hd] at ho
  cases ho
  refine ⟨hs, hd, hx, es, ep, vs, hdt, ?_, kv, o, es, hd, hx, hdt, r⟩
  have l1 := r.2.1.length
  have l2 : kvs.length = vs.length := Paired.length kv
  rw [Array.length_toList] at l1
  omega
end
noncomputable def Iti (d : Addr) (o : Obj) (kvs : List (Key × V)) : It :=
  ⟨fun i H => H d = some (.frz o (.dK kvs)) ∧ i < kvs.length, fun i H x H' => ∃ T k v, kvs[i]? = some (k, v) ∧ x = .ref T ∧ H T = none ∧ H' = upd H T (.tup [kV k, v]), fun i H => H d = some (.frz o (.dK kvs)) ∧ kvs.length ≤ i⟩
theorem dict_ep {o : Obj} {es es' : Array DictEntry} {ep ep' : Nat} (h : o.data = .dict es ep) (h' : o.data = .dict es' ep') : es' = es ∧ ep' = ep := by
  rw [h] at h'
  cases h'
  exact ⟨rfl, rfl⟩
section
variable {P : Program} {w : World} {K : PySem.W.Frag} {tg : Expr} {d : Addr} {o : Obj} {es : Array DictEntry} {ep : Nat}
theorem turn_items {kvs : List (Key × V)} {elts : List Expr} {kk : Nat} {tpos : Pos} (it : Addr) (hod : o.data = .dict es ep) :
    Turn P w K (.Tuple elts kk tpos) (Iti d o kvs) [it] it (fun i h => ∃ ok ov, IsItemIter h it d i kvs.length ep ok ov) where
  mem := by simp
  obj := fun i h st b hb => by
    have e : b = it := by simpa using hb
    subst e
    obtain ⟨ok, ov, e⟩ := st
    exact ⟨_, e, fun v z => nomatch z⟩
  keep := fun i h h' st k => let ⟨ok, ov, e⟩ := st; ⟨ok, ov, k it (by simp) _ e⟩
  item := by
    intro X hP hw hK hc i pins s σ H E I hf st hg
    subst hP hw hK
    obtain ⟨hd, hi⟩ := hg
    obtain ⟨hs, hgd, hx, es', ep', vs, hdt, hsz, kv, hm⟩ := I.frzK hd
    obtain ⟨rfl, rfl⟩ := dict_ep hod hdt
    obtain ⟨⟨k, v⟩, hkv⟩ : ∃ p, kvs[i]? = some p := ⟨kvs[i], List.getElem?_eq_getElem hi⟩
    obtain ⟨u, hu, ru⟩ := kv_get kv hkv
    have hl : kvs.length = vs.length := Paired.length kv
    obtain ⟨ok, ov, he⟩ := st
    rw [hl] at he
    have hlt : it < s.heap.objs.size := Heap.lt_size he
    refine wpAny_pyNext_items_item he hm hu fun key h' hkey ho hT hz hk => ?_
    refine ⟨_, rfl, wpAny_letOwnedTupleGo_items (s := { s with heap := h' }) ho fun h'' he' sb => ?_⟩
    have hT2 : h''.get? s.heap.objs.size = some { cls := .type "tuple", data := .seq #[key, u] } := (sb.2 _ (Nat.ne_of_gt hlt)).trans hT
    have new : ObjOk X.prog X.w (upd H s.heap.objs.size (.tup [kV k, v])) h'' s.heap.objs.size (.tup [kV k, v]) :=
      ⟨by show 2 ≤ sizeLine; decide, [key, u], .cons (relV_key (show keyIs k key = true from hkey)) (.cons ru .nil), ⟨_, hT2, rfl, _, rfl⟩⟩
    have I1 : Inv X pins σ (upd H s.heap.objs.size (.tup [kV k, v])) { s with heap := h'' } :=
      I.turnedNew (t' := s.toks) (ch := [it]) (fun b ob hb e => (sb.2 b (by simpa using hb)).trans (hk b ob (by simpa using hb) e)) hf (Nat.le_refl _) new
    refine ⟨.ref s.heap.objs.size, _, I1, rfl, ⟨_, k, v, hkv, rfl, I.hok.fresh (Nat.le_refl _), rfl⟩, ⟨key, u, ?_⟩, fun b hb => ?_⟩
    · rw [hl]; exact he'
    · have e : b = it := by simpa using hb
      rw [e, upd_ne (Nat.ne_of_lt hlt)]
      exact (hf it (by simp)).1
  done := by
    intro X hP hw hK hc i pins s σ H E I hf st hg
    subst hP hw hK
    obtain ⟨hd, hi⟩ := hg
    obtain ⟨f0, f1, f2, f3, f4, f5⟩ := hf it (by simp)
    obtain ⟨hs, hgd, hx, es', ep', vs, hdt, hsz, kv, hm⟩ := I.frzK hd
    obtain ⟨rfl, rfl⟩ := dict_ep hod hdt
    have hl : kvs.length = vs.length := Paired.length kv
    obtain ⟨ok, ov, he⟩ := st
    rw [hl] at he
    exact wpAny_pyNext_items_end (I.ok.hd hc) he hm (List.getElem?_eq_none (by omega)) fun h' eb => ⟨rfl, I.turned (t' := s.toks) (fun b ob hb e => eb b ob hb e) f0 f1 f3 f4 f5⟩
  self := fun A i s Q E st h => let ⟨_, _, e⟩ := st; PySem.W.kcp_self e h
end
noncomputable def iItems (td : TE) : TI := fun σ H R => td σ H fun x H1 => ∃ d o kvs, x = .ref d ∧ H1 d = some (.frz o (.dK kvs)) ∧ R (Iti d o kvs) H1
section
variable {X : Cx} {tg e : Expr} {td : TE} {apos cpos : Pos}
theorem pi_items {elts : List Expr} {kk : Nat} {tpos : Pos} (he : PE X e td) (hbase : attributeBase e "items" X.env (eval e X.env) = eval e X.env := by rfl) (hline : (apos.endLine == cpos.line) = true := by rfl) :
    PI X (.Tuple elts kk tpos) (.Call (.Attribute e "items" apos) [] [] cpos) (iItems td) := by
  intro pins s σ H R I h
  refine wpAny_Call_method (T := "dict") (id := "dict.items") hbase rfl hline F.plainAttrs_dict F.slot_dict_items F.type_dict_items (thn (he pins s σ H _ I h) fun u s1 ⟨x, H1, I1, rx, d, o, kvs, ex, hd, q⟩ => ?_)
  subst ex
  obtain rfl : u = Value.ref d := rx
  obtain ⟨hs, hgd, hx, es, ep, vs, hdt, hsz, kv, hm⟩ := I1.frzK hd
  have hl : kvs.length = vs.length := Paired.length kv
  refine ⟨hm.dictOf.typeIs, hm.dictOf.mapOf.noDict, ?_⟩
  have I2 : Inv X pins σ H1 { s1 with heap := s1.heap.push { cls := .type "dict_items", data := .fields #[.ref d] } } := I1.kept (t' := s1.toks) fun b ob q => Heap.get?_push_of_some _ q
  have fin : wpAny (model X.prog X.w) X.A (pyIter (.ref s1.heap.objs.size)) (PIE X pins σ (.Tuple elts kk tpos) R) X.xe { s1 with heap := s1.heap.push { cls := .type "dict_items", data := .fields #[.ref d] } } := by
    refine wpAny_pyIter_items (d := d) (knd := mixKind X.prog X.w) ⟨_, Heap.get?_push_size _ rfl, rfl, rfl⟩ (hm.push _) (pi_one (tk := s1.toks) I2 _ (turn_items _ hdt) ⟨.none, .none, ?_⟩ q)
    rw [hl]
    exact Heap.get?_push_size _ rfl
  show wpAny _ _ (callWith cpos (.builtin "dict.items") [.ref d] [] []) _ X.xe s1
  exact method_meetsIn F.slot_dict_items F.entry_dict_items rfl (PySem.evalArgs_none ⟨rfl, hm.dictOf.typeIs, F.args_dict_items_1 _, _, meets_dict_items (mixKind X.prog X.w) d hs, ⟨vs, hm.dictOf⟩, fin⟩)
end
noncomputable def Ite (K : PySem.W.Frag) (a : Addr) : It :=
  ⟨fun i H => ∃ (xs : List V) (x : V), SqL K H a xs ∧ xs[i]? = some x, fun i H v H' => ∃ T x, v = .ref T ∧ H T = none ∧ H' = upd H T (.tup [.int (i : Nat), x]) ∧ ∀ xs, SqL K H a xs → xs[i]? = some x, fun i H => ∃ xs : List V, SqL K H a xs ∧ xs.length ≤ i⟩
theorem turn_enum {P : Program} {w : World} {K : PySem.W.Frag} {elts : List Expr} {kk : Nat} {tpos : Pos} (a e it : Addr) :
    Turn P w K (.Tuple elts kk tpos) (Ite K a) [e, it] e (fun i h => (∃ old, IsEnum h e it ((i : Nat) : Int) old) ∧ h.IsListIter it a i ∧ e ≠ it) where
  mem := by simp
  obj := fun i h st b hb => by
    obtain ⟨⟨old, he⟩, ⟨o, ho, hc, hd⟩, _⟩ := st
    have e' : b = e ∨ b = it := by simpa using hb
    rcases e' with z | z
    · rw [z]; exact ⟨_, he, fun v q => nomatch q⟩
    · rw [z]; exact ⟨o, ho, fun v q => by rw [hd] at q; cases q⟩
  keep := fun i h h' st k => let ⟨⟨old, he⟩, hi, hne⟩ := st; ⟨⟨old, k e (by simp) _ he⟩, hi.at fun o q => k it (by simp) o q, hne⟩
  item := by
    intro X hP hw hK hc i pins s σ H E I hf st hg
    subst hP hw hK
    obtain ⟨⟨old, he⟩, hit, hne⟩ := st
    obtain ⟨xs, x, hq, hx⟩ := hg
    obtain ⟨its, rv, p, hz⟩ := I.list hq
    obtain ⟨u, hu, ru⟩ := rv.get hx
    have hel : e < s.heap.objs.size := Heap.lt_size he
    have hil : it < s.heap.objs.size := by obtain ⟨_, q, _⟩ := hit; exact Heap.lt_size q
    refine wpAny_pyNext_enum_item he hit p.isList (x := u) (by simpa using hu) hne fun h' ho hit' hT hsz hk => ?_
    refine ⟨_, rfl, wpAny_letOwnedTupleGo_enum (s := { s with heap := h', toks := s.toks + 1 }) ho fun h'' he' sb => ?_⟩
    have hT2 : h''.get? s.heap.objs.size = some { cls := .type "tuple", data := .seq #[.int i s.toks, u] } := (sb.2 _ (Nat.ne_of_gt hel)).trans hT
    have new : ObjOk X.prog X.w (upd H s.heap.objs.size (.tup [.int (i : Nat), x])) h'' s.heap.objs.size (.tup [.int (i : Nat), x]) :=
      ⟨by show 2 ≤ sizeLine; decide, [.int i s.toks, u], .cons ⟨_, rfl⟩ (.cons ru .nil), ⟨_, hT2, rfl, _, rfl⟩⟩
    have I1 : Inv X pins σ (upd H s.heap.objs.size (.tup [.int (i : Nat), x])) { s with heap := h'', toks := s.toks + 1 } :=
      I.turnedNew (ch := [e, it]) (fun b ob hb q => (sb.2 b (fun z => hb (by simp [z]))).trans (hk b ob (fun z => hb (by simp [z])) (fun z => hb (by simp [z])) q)) hf (Nat.le_refl _) new
    refine ⟨.ref s.heap.objs.size, _, I1, rfl, ⟨_, x, rfl, I.hok.fresh (Nat.le_refl _), rfl, fun ys hy => by rw [I.list_inj hy hq]; exact hx⟩, ⟨⟨u, ?_⟩, hit'.at fun o q => (sb.2 it (Ne.symm hne)).trans q, hne⟩, fun b hb => ?_⟩
    · have e1 : ((i + 1 : Nat) : Int) = (i : Int) + 1 := by omega
      rw [e1]; exact he'
    · have hb' : b < s.heap.objs.size := by
        have e' : b = e ∨ b = it := by simpa using hb
        rcases e' with z | z
        · rw [z]; exact hel
        · rw [z]; exact hil
      rw [upd_ne (Nat.ne_of_lt hb')]
      exact (hf b hb).1
  done := by
    intro X hP hw hK hc i pins s σ H E I hf st hg
    subst hP hw hK
    obtain ⟨⟨old, he⟩, hit, hne⟩ := st
    obtain ⟨xs, hq, hx⟩ := hg
    obtain ⟨its, rv, p, hz⟩ := I.list hq
    obtain ⟨f0, f1, f2, f3, f4, f5⟩ := hf it (by simp)
    have hl := rv.length
    exact wpAny_pyNext_enum_end (I.ok.hd hc) he hit p.isList (by simp; omega) fun h' eb => ⟨rfl, I.turned (t' := s.toks) (fun b o hb q => eb b o hb q) f0 f1 f3 f4 f5⟩
  self := fun A i s Q E st h => let ⟨⟨_, he⟩, _⟩ := st; wpAny_pyIter_enum he h
noncomputable def iEnum (K : PySem.W.Frag) (ta : TA) : TI := fun σ H R => ta σ H fun vs H1 => ∃ a xs, vs = [.ref a] ∧ SqL K H1 a xs ∧ R (Ite K a) H1
theorem pi_enum {X : Cx} {e : Expr} {ta : TA} {p pos tpos : Pos} {elts : List Expr} {kk : Nat} (hg : Gl X "enumerate") (hm : X.mg "enumerate" = none) (ha : PA X [e] ta) (hs : starEach [e] X.env = [(false, eval e X.env)] := by rfl) :
    PI X (.Tuple elts kk tpos) (.Call (.Name "enumerate" p) [e] [] pos) (iEnum X.K ta) := by
  intro pins s σ H R I h
  refine Call_ (ld_blt I hg hm boot_enumerate (PyProof.Rows.callWith_type1 (thn (ha pos pins s σ H _ I h) fun us s1 ⟨vs, H1, I1, r1, q1⟩ => ?_) hs rfl))
  obtain ⟨a, xs, ex, hq, q⟩ := q1
  subst ex
  cases r1 with
  | cons r rr =>
    cases rr
    cases r
    obtain ⟨its, rv, p', hz⟩ := I1.list hq
    refine call_enumerate_list p'.isList fun h' he hit hsz hk => wpAny_pyIter_enum he ?_
    have I2 : Inv X pins σ H1 { s1 with heap := h' } := I1.kept (t' := s1.toks) hk
    refine ⟨s1.heap.objs.size + 1, [s1.heap.objs.size + 1, s1.heap.objs.size], _, _, H1, rfl, I2, turn_enum a (s1.heap.objs.size + 1) s1.heap.objs.size, ⟨⟨.none, he⟩, hit, Nat.succ_ne_self _⟩, fun b hb => ?_, q⟩
    have e' : b = s1.heap.objs.size + 1 ∨ b = s1.heap.objs.size := by simpa using hb
    have hle : s1.heap.objs.size ≤ b := by
      rcases e' with z | z
      · rw [z]; exact Nat.le_add_right _ _
      · rw [z]; exact Nat.le_refl _
    exact I1.fpOk hle (I1.hok.fresh hle)
theorem boot_zip5 : bootBuiltins "zip" = some (.type "zip") := by decide +kernel
noncomputable def Itz (K : PySem.W.Frag) (a b : Addr) : It :=
  ⟨fun i H => ∃ (xs ys : List V) (x y : V), SqL K H a xs ∧ SqL K H b ys ∧ xs[i]? = some x ∧ ys[i]? = some y,
    fun i H v H' => ∃ T x y, v = .ref T ∧ H T = none ∧ H' = upd H T (.tup [x, y]) ∧ (∀ xs, SqL K H a xs → xs[i]? = some x) ∧ ∀ ys, SqL K H b ys → ys[i]? = some y,
    fun i H => ∃ xs ys : List V, SqL K H a xs ∧ SqL K H b ys ∧ (xs.length ≤ i ∨ ys.length ≤ i)⟩
theorem turn_zip {P : Program} {w : World} {K : PySem.W.Frag} {elts : List Expr} {kk : Nat} {tpos : Pos} {a b z TI TO i1 i2 : Addr} (D : ZipApart z TI TO i1 i2 a b) :
    Turn P w K (.Tuple elts kk tpos) (Itz K a b) [z, TI, TO, i1, i2] z (fun i h => IsZip h z TI TO .none ∧ IsPair h TI (.ref i1) (.ref i2) ∧ (∃ x y, IsPair h TO x y) ∧ h.IsListIter i1 a i ∧ h.IsListIter i2 b i) where
  mem := by simp
  obj := fun i h st c hc => by
    obtain ⟨hz, hTI, ⟨x, y, hTO⟩, ⟨o1, e1, _, d1⟩, ⟨o2, e2, _, d2⟩⟩ := st
    have e' : c = z ∨ c = TI ∨ c = TO ∨ c = i1 ∨ c = i2 := by simpa using hc
    rcases e' with q | q | q | q | q
    · rw [q]; exact ⟨_, hz, fun v q => nomatch q⟩
    · rw [q]; exact ⟨_, hTI, fun v q => nomatch q⟩
    · rw [q]; exact ⟨_, hTO, fun v q => nomatch q⟩
    · rw [q]; exact ⟨o1, e1, fun v q => by rw [d1] at q; cases q⟩
    · rw [q]; exact ⟨o2, e2, fun v q => by rw [d2] at q; cases q⟩
  keep := fun i h h' st k => by
    obtain ⟨hz, hTI, ⟨x, y, hTO⟩, h1, h2⟩ := st
    exact ⟨k z (by simp) _ hz, k TI (by simp) _ hTI, ⟨x, y, k TO (by simp) _ hTO⟩, h1.at fun o q => k i1 (by simp) o q, h2.at fun o q => k i2 (by simp) o q⟩
  item := by
    intro X hP hw hK hc i pins s σ H E I hf st hg
    subst hP hw hK
    obtain ⟨hz, hTI, ⟨x0, y0, hTO⟩, h1, h2⟩ := st
    obtain ⟨xs, ys, x, y, hqx, hqy, hx, hy⟩ := hg
    obtain ⟨its, rv, p, _⟩ := I.list hqx
    obtain ⟨its2, rv2, p2, _⟩ := I.list hqy
    obtain ⟨u, hu, ru⟩ := rv.get hx
    obtain ⟨u2, hu2, ru2⟩ := rv2.get hy
    have hzl : z < s.heap.objs.size := Heap.lt_size hz
    refine wpAny_pyNext_zip_item D hz hTI hTO h1 h2 p.isList p2.isList (x := u) (y := u2) (by simpa using hu) (by simpa using hu2) fun h' z' TO' h1' h2' hT hsz hk => ?_
    refine ⟨_, rfl, wpAny_letOwnedTupleGo_zip (s := { s with heap := h' }) z' fun h'' z'' sb => ?_⟩
    have hT2 : h''.get? s.heap.objs.size = some { cls := .type "tuple", data := .seq #[u, u2] } := (sb.2 _ (Nat.ne_of_gt hzl)).trans hT
    have new : ObjOk X.prog X.w (upd H s.heap.objs.size (.tup [x, y])) h'' s.heap.objs.size (.tup [x, y]) :=
      ⟨by show 2 ≤ sizeLine; decide, [u, u2], .cons ru (.cons ru2 .nil), ⟨_, hT2, rfl, _, rfl⟩⟩
    have I1 : Inv X pins σ (upd H s.heap.objs.size (.tup [x, y])) { s with heap := h'' } :=
      I.turnedNew (t' := s.toks) (ch := [z, TI, TO, i1, i2]) (fun c o hb q => (sb.2 c (fun q' => hb (by simp [q']))).trans (hk c o (fun q' => hb (by simp [q'])) (fun q' => hb (by simp [q'])) (fun q' => hb (by simp [q'])) (fun q' => hb (by simp [q'])) q)) hf (Nat.le_refl _) new
    refine ⟨.ref s.heap.objs.size, _, I1, rfl, ⟨_, x, y, rfl, I.hok.fresh (Nat.le_refl _), rfl, fun l hl => by rw [I.list_inj hl hqx]; exact hx, fun l hl => by rw [I.list_inj hl hqy]; exact hy⟩, ⟨z'', ?_, ⟨u, u2, ?_⟩, ?_, ?_⟩, fun c hcm => ?_⟩
    · exact (sb.2 _ D.TIz).trans (hk _ _ D.TIz D.TITO D.TIi1 D.TIi2 hTI)
    · exact (sb.2 _ D.TOz).trans TO'
    · exact h1'.at fun o q => (sb.2 _ D.i1z).trans q
    · exact h2'.at fun o q => (sb.2 _ D.i2z).trans q
    · have hlt : c < s.heap.objs.size := by
        have e' : c = z ∨ c = TI ∨ c = TO ∨ c = i1 ∨ c = i2 := by simpa using hcm
        rcases e' with q | q | q | q | q
        · rw [q]; exact hzl
        · rw [q]; exact Heap.lt_size hTI
        · rw [q]; exact Heap.lt_size hTO
        · rw [q]; obtain ⟨_, e1, _⟩ := h1; exact Heap.lt_size e1
        · rw [q]; obtain ⟨_, e2, _⟩ := h2; exact Heap.lt_size e2
      rw [upd_ne (Nat.ne_of_lt hlt)]
      exact (hf c hcm).1
  done := by
    intro X hP hw hK hc i pins s σ H E I hf st hg
    subst hP hw hK
    obtain ⟨hz, hTI, ⟨x0, y0, hTO⟩, h1, h2⟩ := st
    obtain ⟨xs, ys, hqx, hqy, hend⟩ := hg
    obtain ⟨its, rv, p, _⟩ := I.list hqx
    obtain ⟨its2, rv2, p2, _⟩ := I.list hqy
    have l1 := rv.length
    have l2 := rv2.length
    have he : its.toArray[i]? = none ∨ its2.toArray[i]? = none := by
      rcases hend with q | q
      · exact .inl (by simp; omega)
      · exact .inr (by simp; omega)
    exact wpAny_pyNext_zip_end (I.ok.hd hc) D hz hTI hTO h1 h2 p.isList p2.isList he fun h' hk => ⟨rfl, I.turnedL (t' := s.toks) (ch := [z, TI, TO, i1, i2]) (fun c o hb q =>
      hk c o (fun q' => hb (by simp [q'])) (fun q' => hb (by simp [q'])) (fun q' => hb (by simp [q'])) (fun q' => hb (by simp [q'])) q) hf⟩
  self := fun A i s Q E st h => wpAny_pyIter_zip st.1 h
noncomputable def iZip (K : PySem.W.Frag) (ta : TA) : TI := fun σ H R => ta σ H fun vs H1 => ∃ a b xs ys, vs = [.ref a, .ref b] ∧ SqL K H1 a xs ∧ SqL K H1 b ys ∧ R (Itz K a b) H1
theorem pi_zip {X : Cx} {e e2 : Expr} {ta : TA} {p pos tpos : Pos} {elts : List Expr} {kk : Nat} (hg : Gl X "zip") (hm : X.mg "zip" = none) (ha : PA X [e, e2] ta)
    (hs : starEach [e, e2] X.env = (false, eval e X.env) :: starEach [e2] X.env := by rfl) (hpl : (backTo pos (starEach [e2] X.env)).any (·.1) = false := by rfl) :
    PI X (.Tuple elts kk tpos) (.Call (.Name "zip" p) [e, e2] [] pos) (iZip X.K ta) := by
  intro pins s σ H R I h
  refine Call_ (ld_blt I hg hm boot_zip5 (PyProof.Rows.callWith_type1 (thn (ha pos pins s σ H _ I h) fun us s1 ⟨vs, H1, I1, r1, q1⟩ => ?_) hs hpl))
  obtain ⟨a, b, xs, ys, ex, hqx, hqy, q⟩ := q1
  subst ex
  cases r1 with
  | cons r rr =>
    cases rr with
    | cons r' rr =>
      cases rr
      cases r
      cases r'
      obtain ⟨its, rv, p1, _⟩ := I1.list hqx
      obtain ⟨its2, rv2, p2, _⟩ := I1.list hqy
      have la : a < s1.heap.objs.size := p1.lt
      have lb : b < s1.heap.objs.size := p2.lt
      refine call_zip_2 p1.isList p2.isList fun h' hz hTI hTO h1 h2 hsz hk => wpAny_pyIter_zip hz ?_
      have I2 : Inv X pins σ H1 { s1 with heap := h' } := I1.kept (t' := s1.toks) hk
      refine ⟨s1.heap.objs.size + 4, [s1.heap.objs.size + 4, s1.heap.objs.size + 2, s1.heap.objs.size + 3, s1.heap.objs.size, s1.heap.objs.size + 1], _, _, H1, rfl, I2, turn_zip (PySem.W.ktu_apart s1.heap.objs.size a b la lb), ⟨hz, hTI, ⟨_, _, hTO⟩, h1, h2⟩, fun c hcm => ?_, q⟩
      have e' : c = s1.heap.objs.size + 4 ∨ c = s1.heap.objs.size + 2 ∨ c = s1.heap.objs.size + 3 ∨ c = s1.heap.objs.size ∨ c = s1.heap.objs.size + 1 := by simpa using hcm
      have hle : s1.heap.objs.size ≤ c := by
        rcases e' with z | z | z | z | z
        · rw [z]; exact Nat.le_add_right _ _
        · rw [z]; exact Nat.le_add_right _ _
        · rw [z]; exact Nat.le_add_right _ _
        · rw [z]; exact Nat.le_refl _
        · rw [z]; exact Nat.le_add_right _ _
      exact I1.fpOk hle (I1.hok.fresh hle)
end L2
section
namespace Bits
open PySem PyProof.Rows
end Bits
end
section
namespace TL
open PySem PySem.Builtin PySem.Builtin.Str PySem.StrLaws
end TL
end
namespace L2
open PySem PySem.Spec PyProof.Rows
section
variable {X : Cx} {pins : List (Addr × Obj)} {σ : St} {H : Hp} {s : Shared} {Q : VK}
end
section
variable {X : Cx}
end
section
variable {X : Cx} {o e : Expr} {to te : TE}
end
end L2
namespace L2
open PySem PySem.Spec PyProof.Rows
section
variable {X : Cx}
end
end L2
namespace Att
open PySem PySem.W PySem.Calls PyProof.Rows
section
variable {prog : Program} {w : World} {A : Around} {E : Value → Shared → Prop} {s : Shared} {K : Frag}
end
end Att
namespace L2
open PySem PySem.Spec PyProof.Rows
end L2
namespace L2
open PySem PySem.Spec PyProof.Rows
end L2
namespace L2
open PySem PySem.Spec PyProof.Rows
noncomputable def inClass (s : Stmt) (j : Nat) : Stmt := match s with
  | .ClassDef _ _ _ body _ _ _ _ _ _ _ => body.getD j (.Pass ⟨0, 0, 0, 0⟩)
  | _ => .Pass ⟨0, 0, 0, 0⟩
noncomputable def defArgs (s : Stmt) : Arguments := match s with
  | .FunctionDef _ a _ _ _ _ _ _ _ _ => a
  | _ => { posonlyargs := [], args := [], vararg := none, kwonlyargs := [], kw_defaults := [], kwarg := none, defaults := [] }
noncomputable def defBody (s : Stmt) : List Stmt := match s with
  | .FunctionDef _ _ b _ _ _ _ _ _ _ => b
  | _ => []
noncomputable def defScope (s : Stmt) : Scope := match s with
  | .FunctionDef _ _ _ _ _ _ sc _ _ _ => sc
  | _ => { kind := .function, names := [], isGenerator := false, isCoroutine := false }
noncomputable abbrev CX0 : CXT := fun _ _ _ _ _ _ => False
noncomputable abbrev E0 : XK := fun _ _ _ => False
theorem pass0 {X : Cx} : Passes CX0 X E0 := fun _ _ _ _ _ _ _ h => h.elim
structure Fun (K : PySem.W.Frag) (x qual : Str) (st : Stmt) (f : Addr) (fd : FuncData) : Prop where
  ex : ∃ (oc : Value) (od : Option Addr) (kV doc pm : Value) (an : Option Addr) (cdv ct : Value) (osl : Array (Option Value)),
    fd = PySem.W.fnOf x qual (defArgs st) (defBody st) (defScope st) .none kV doc pm an cdv ct ∧ K.lookup f = some ⟨oc, od, .func fd, osl⟩ ∧ PySem.W.codeIn K cdv qual = true
  kp : PySem.W.keepIn K (.ref f) = true
section
variable {P : Program} {w : World} {K : PySem.W.Frag} {mg : Str → Option Value} {base : Heap}
theorem Fun.ok {x qual : Str} {st : Stmt} {f : Addr} {fd : FuncData} {N ps : List Str} {k : Nat} {sp : Sp} (F : Fun K x qual st f fd) (S : FnScope N ps (defScope st)) (len : ∀ vs H Q E, sp vs H Q E → vs.length = ps.length)
    (hbody : ∀ (cdv : Value) (A : Around) (outer : List Env) (s : Shared) (H : Hp) (vs : List V) (Q : VK) (E : XK), Room k (A.deeper (envOfC qual (defScope st) s.heap.objs.size f cdv)) → sp vs H Q E →
      ∃ t, PSs (cxOf CX0 P w K mg base N qual (defScope st) f cdv A outer s H E).nox (defBody st) t ∧ t { nx := fun _ H' => Q .non H', rt := Q } (start N vs) H) : FnOk P w K mg base CX0 (k + 1) f fd ps sp := by
  obtain ⟨oc, od, kV, doc, pm, an, cdv, ct, osl, rfl, lk, hcd⟩ := F.ex
  refine fn_of lk hcd S len fun A outer s H vs Q E hr hsp => ?_
  obtain ⟨t, h, q⟩ := hbody cdv A outer s H vs Q E hr hsp
  exact ⟨t, h.nox, q⟩
theorem Fun.binds {x qual : Str} {st : Stmt} {f : Addr} {fd : FuncData} {ps : List Str} (F : Fun K x qual st f fd)
    (h : ∀ (kV doc pm : Value) (an : Option Addr) (cdv ct : Value) (us : List Value), us.length = ps.length → bindArgs (PySem.W.fnOf x qual (defArgs st) (defBody st) (defScope st) .none kV doc pm an cdv ct) ⟨us, []⟩ = pure (ps.zip us)) : Binds K fd ps [] := by
  obtain ⟨oc, od, kV, doc, pm, an, cdv, ct, osl, rfl, lk, hcd⟩ := F.ex
  exact .all (h kV doc pm an cdv ct)
theorem fun_mk {x qual : Str} {st : Stmt} {f : Addr} {oc : Value} {od an : Option Addr} {osl : Array (Option Value)} {kV doc pm cdv ct : Value} (l : K.lookup f = some ⟨oc, od, .func (PySem.W.fnOf x qual (defArgs st) (defBody st) (defScope st) .none kV doc pm an cdv ct), osl⟩)
    (c : PySem.W.codeIn K cdv qual = true) (k : PySem.W.keepIn K (.ref f) = true) : Fun K x qual st f (PySem.W.fnOf x qual (defArgs st) (defBody st) (defScope st) .none kV doc pm an cdv ct) := ⟨⟨oc, od, kV, doc, pm, an, cdv, ct, osl, rfl, l, c⟩, k⟩
end
theorem hu_of {A : Around} {k : Nat} (hr : Room k A) : A.units + 1 < cLine := Nat.lt_of_le_of_lt (Nat.add_le_add_left (by decide : 1 ≤ 64) _) hr.units
section
variable {X : Cx}
theorem pv (i : Nat) {x : Str} {pos : Pos} (hN : X.N[i]? = some x := by rfl) (hv : Vis X.env.scope x := by first | exact Or.inl rfl | exact Or.inr (Or.inl rfl) | exact Or.inr (Or.inr rfl)) (hd : (x == ("__debug__" : Str)) = false := by decide)
    (hcd : (x == ("__classdict__" : Str)) = false := by decide) : PE X (.Name x pos) (tVar i) := pe_var hN hv hd hcd
theorem call_lenD : CallR X (.builtin "len") (fun xs H Q => ∃ a kvs, xs = [V.ref a] ∧ H a = some (.dK kvs) ∧ Q (.int kvs.length) H) := by
  intro pins s σ H xs us Q I r h
  obtain ⟨a, kvs, rfl, ha, q⟩ := h
  obtain ⟨u, rfl, ru⟩ := vals1 r
  cases ru
  exact d_len I (.inl ha) fun t s' I' => ⟨.int kvs.length, H, I', ⟨t, rfl⟩, q⟩
end
theorem iteF {A B : Prop} (h : B) : if false = true then A else B := by
  rw [if_neg Bool.false_ne_true]
  exact h
theorem iteT {A B : Prop} (h : A) : if true = true then A else B := by
  rw [if_pos rfl]
  exact h
theorem ite2 {c A B : Prop} [Decidable c] (h1 : c → A) (h2 : ¬ c → B) : if c then A else B := by
  by_cases h : c
  · rw [if_pos h]
    exact h1 h
  · rw [if_neg h]
    exact h2 h
theorem iteNS {c A B : Prop} [Decidable c] (hc : c) (h : B) : if (!decide c) = true then A else B := by
  rw [decide_eq_true hc]
  exact iteF h
noncomputable def Same (H H' : Hp) : Prop := ∀ b o, H b = some o → H' b = some o
theorem Same.refl (H : Hp) : Same H H := fun _ _ h => h
theorem Same.trans {H H1 H2 : Hp} (a : Same H H1) (b : Same H1 H2) : Same H H2 := fun c o h => b c o (a c o h)
theorem Same.free {H H' : Hp} (e : Same H H') {l : Addr} (h : H' l = Option.none) : H l = Option.none := by
  cases q : H l with
  | none => rfl
  | some o =>
    rw [e l o q] at h
    cases h
theorem Same.seq {K : PySem.W.Frag} {H H' : Hp} {a : Addr} {xs : List V} (e : Same H H') (h : SqL K H a xs) : SqL K H' a xs := by
  rcases h with (h | ⟨o, h⟩) | h
  · exact .inl (.inl (e _ _ h))
  · exact .inl (.inr ⟨o, e _ _ h⟩)
  · exact .inr h
section
variable {κ : Type} [DecidableEq κ]
end
theorem at_of {xs : List V} {z : Int} {j : Nat} {v : V} (e : z = (j : Int)) (h : xs[j]? = some v) : atI xs z = some v := by
  rw [e]
  exact atI_nat h
theorem nd_ix {α : Type} {l : List α} (hN : l.Nodup) {i j : Nat} {x : α} (a : l[i]? = some x) (b : l[j]? = some x) : i = j := by
  obtain ⟨h1, e1⟩ := List.getElem?_eq_some_iff.mp a
  obtain ⟨h2, e2⟩ := List.getElem?_eq_some_iff.mp b
  exact (List.getElem_inj hN).mp (e1.trans e2.symm)
theorem Same.made {H H1 : Hp} {x dx C : Addr} (nx : H x = Option.none) (nd : H dx = Option.none) (k : ∀ b o, (upd (upd H dx (.own x)) x (.ins C dx [])) b = some o → b ≠ x → H1 b = some o) : Same H H1 := fun b o e =>
  k b o (by rw [upd_ne (ne_of_none e nx), upd_ne (ne_of_none e nd)]; exact e) (ne_of_none e nx)
end L2
end
section
section
set_option Elab.async false
set_option linter.all false
set_option maxRecDepth 100000
set_option maxHeartbeats 2000000
namespace L2
open PySem PySem.Spec PyProof.Rows
open PySem.W (WData Codec OpenSpec Well WellAll ReadsW ReadsAllW)
mutual
inductive Dw (K : PySem.W.Frag) (H : Hp) : V → WData → Prop
  | non : Dw K H .non .none
  | bl (b : Bool) : Dw K H (.bl b) (.bool b)
  | int (i : Int) : Dw K H (.int i) (.int i)
  | str (x : Str) : Dw K H (.str x) (.str x)
  | byt (b : Array UInt8) : Dw K H (.byt b) (.bytes b.toList)
  | lst {a : Addr} {xs : List V} {ds : List WData} : SqL K H a xs → DwAll K H xs ds → Dw K H (.ref a) (.list ds)
  | tup {a : Addr} {xs : List V} {ds : List WData} : SqT K H a xs → DwAll K H xs ds → Dw K H (.ref a) (.tuple ds)
inductive DwAll (K : PySem.W.Frag) (H : Hp) : List V → List WData → Prop
  | nil : DwAll K H [] []
  | cons {v : V} {vs : List V} {d : WData} {ds : List WData} : Dw K H v d → DwAll K H vs ds → DwAll K H (v :: vs) (d :: ds)
end
theorem dw_ints {K : PySem.W.Frag} {H : Hp} : ∀ ns : List Int, DwAll K H (ns.map V.int) (ns.map WData.int)
  | [] => .nil
  | n :: r => .cons (.int n) (dw_ints r)
theorem ints_dw {K : PySem.W.Frag} {H : Hp} : ∀ (ns : List Int) (xs : List V), DwAll K H xs (ns.map WData.int) → xs = ns.map V.int
  | [], xs, h => by
    cases h
    rfl
  | n :: r, xs, h => by
    cases h with
    | cons h1 h2 =>
      cases h1
      rw [ints_dw r _ h2] <;> rfl
section
variable {P : Program} {w : World} {K : PySem.W.Frag} {H : Hp} {h : Heap} {R : PySem.W.WRecords} {cl : Str → Option Addr}
theorem sqL_at {a : Addr} {xs : List V} (hok : HOk P w H h) (KX : K.In h) (q : SqL K H a xs) : ∃ (its : List Value) (o : Obj) (n : Nat), Vals xs its ∧ h.get? a = some o ∧ o.cls = .type "list" ∧ o.data = .seq its.toArray n := by
  rcases q with q | ⟨o, its, n, e, hc, _, hd, _, hv⟩
  · obtain ⟨_, its, n, hv, e⟩ := (show ObjOk P w H h a (.lst xs) from q.ok hok)
    exact ⟨its, _, n, hv, e, rfl, rfl⟩
  · exact ⟨its.toList, o, n, hv, KX _ _ e, hc, by simp [hd]⟩
theorem sqT_at {a : Addr} {xs : List V} (hok : HOk P w H h) (KX : K.In h) (q : SqT K H a xs) : ∃ (its : List Value) (o : Obj) (n : Nat), Vals xs its ∧ h.get? a = some o ∧ o.cls = .type "tuple" ∧ o.data = .seq its.toArray n := by
  rcases q with q | ⟨o, its, n, e, hc, hd, _, hv⟩
  · obtain ⟨_, its, hv, o, e, hc, n, hd⟩ := (show ObjOk P w H h a (.tup xs) from q.ok hok)
    exact ⟨its, o, n, hv, e, hc, hd⟩
  · exact ⟨its.toList, o, n, hv, KX _ _ e, hc, by simp [hd]⟩
mutual
theorem Dw.reads (hok : HOk P w H h) (KX : K.In h) : ∀ (d : WData) (v : V) (u : Value), Dw K H v d → RelV v u → ∃ as, ReadsW R cl h u d as
  | .none, _, _, x, r => by
    cases x
    cases r
    exact ⟨_, ReadsW.none⟩
  | .bool b, _, _, x, r => by
    cases x
    cases r
    exact ⟨_, ReadsW.bool b⟩
  | .int i, _, _, x, r => by
    cases x
    obtain ⟨t, rfl⟩ := r
    exact ⟨_, ReadsW.int i t⟩
  | .str s, _, _, x, r => by
    cases x
    obtain ⟨t, rfl⟩ := r
    exact ⟨_, ReadsW.str s t⟩
  | .bytes b, _, _, x, r => by
    cases x
    obtain ⟨t, rfl⟩ := r
    exact ⟨_, ReadsW.bytes _ t⟩
  | .list ds, _, _, x, r => by
    cases x with
    | lst hs ha =>
      cases r
      obtain ⟨its, o, n, rv, ho, hc, hd⟩ := sqL_at hok KX hs
      obtain ⟨as, hr⟩ := Dw.readsAll hok KX ds _ its ha rv
      exact ⟨_, ReadsW.list ho hc hd hr⟩
  | .tuple ds, _, _, x, r => by
    cases x with
    | tup hs ha =>
      cases r
      obtain ⟨its, o, n, rv, ho, hc, hd⟩ := sqT_at hok KX hs
      obtain ⟨as, hr⟩ := Dw.readsAll hok KX ds _ its ha rv
      exact ⟨_, ReadsW.tuple ho hc hd hr⟩
  | .float _, _, _, x, _ => by cases x
  | .dict _, _, _, x, _ => by cases x
  | .bytearray _, _, _, x, _ => by cases x
  | .set _, _, _, x, _ => by cases x
  | .frozenset _, _, _, x, _ => by cases x
  | .obj _ _, _, _, x, _ => by cases x
theorem Dw.readsAll (hok : HOk P w H h) (KX : K.In h) : ∀ (ds : List WData) (vs : List V) (us : List Value), DwAll K H vs ds → Vals vs us → ∃ as, ReadsAllW R cl h us ds as
  | [], _, _, x, r => by
    cases x
    cases r
    exact ⟨_, ReadsAllW.nil⟩
  | d :: ds, _, _, x, r => by
    cases x with
    | cons h1 h2 =>
      cases r with
      | cons r1 r2 =>
        obtain ⟨as, q1⟩ := Dw.reads hok KX d _ _ h1 r1
        obtain ⟨bs, q2⟩ := Dw.readsAll hok KX ds _ _ h2 r2
        exact ⟨_, ReadsAllW.cons q1 q2⟩
end
end
mutual
noncomputable def plW : WData → Bool
  | .none => true
  | .bool _ => true
  | .int _ => true
  | .str _ => true
  | .bytes _ => true
  | .list xs => plWs xs
  | .tuple xs => plWs xs
  | _ => false
noncomputable def plWs : List WData → Bool
  | [] => true
  | x :: r => plW x && plWs r
end
theorem plWs_map {α : Type} {f : α → WData} (h : ∀ a, plW (f a) = true) : ∀ l : List α, plWs (l.map f) = true
  | [] => rfl
  | x :: r => by
    show (plW (f x) && plWs (r.map f)) = true
    rw [h x, plWs_map h r] <;> rfl
theorem pl_enc : ∀ (c : Codec) (a : c.denote), plW (c.enc a) = true
  | .unit, _ => rfl
  | .bool, _ => rfl
  | .int _ _, _ => rfl
  | .nat _ _, _ => rfl
  | .u8, _ => rfl
  | .bytes _ _, _ => rfl
  | .text _ _ _ _, _ => rfl
  | .list _ _ c, a => plWs_map (fun x => pl_enc c x) a
  | .pair c d, a => by
    show (plW (c.enc a.1) && (plW (d.enc a.2) && true)) = true
    rw [pl_enc c a.1, pl_enc d a.2] <;> rfl
  | .triple c d e, a => by
    show (plW (c.enc a.1) && (plW (d.enc a.2.1) && (plW (e.enc a.2.2) && true))) = true
    rw [pl_enc c a.1, pl_enc d a.2.1, pl_enc e a.2.2] <;> rfl
  | .option c, none => rfl
  | .option c, some x => pl_enc c x
theorem pl_encAll : ∀ (cs : List Codec) (a : Codec.denoteAll cs), plWs (Codec.encAll cs a) = true
  | [], _ => rfl
  | c :: cs, a => by
    show (plW (c.enc a.1) && plWs (Codec.encAll cs a.2)) = true
    rw [pl_enc c a.1, pl_encAll cs a.2] <;> rfl
theorem weight_mem : ∀ {xs : List WData} {d : WData}, d ∈ xs → d.weight ≤ WData.weightAll xs
  | [], d, h => absurd h (by simp)
  | x :: r, d, h => by
    show d.weight ≤ x.weight + 1 + WData.weightAll r
    rcases List.mem_cons.mp h with e | m
    · rw [e]
      omega
    · have z := weight_mem m
      omega
noncomputable def toV : Value → V
  | .none => .non
  | .bool b => .bl b
  | .int i _ => .int i
  | .str x _ => .str x
  | .bytes b _ => .byt b
  | .ref a => .ref a
  | _ => .non
noncomputable def OkU (A : List Addr) : Value → Prop
  | .none => True
  | .bool _ => True
  | .int _ _ => True
  | .str _ _ => True
  | .bytes _ _ => True
  | .ref a => a ∈ A
  | _ => False
theorem OkU.mono {A B : List Addr} (h : ∀ a ∈ A, a ∈ B) : ∀ {u : Value}, OkU A u → OkU B u := fun {u} x => by
  cases u with
  | ref a => exact h a x
  | none => trivial
  | bool b => trivial
  | int i t => trivial
  | str s t => trivial
  | bytes b t => trivial
  | _ => exact False.elim x
theorem relV_toV {A : List Addr} {u : Value} (x : OkU A u) : RelV (toV u) u := by
  cases u with
  | ref a => rfl
  | none => rfl
  | bool b => rfl
  | int i t => exact ⟨t, rfl⟩
  | str s t => exact ⟨t, rfl⟩
  | bytes b t => exact ⟨t, rfl⟩
  | _ => exact False.elim x
theorem vals_toV {A : List Addr} : ∀ {vs : List Value}, (∀ u ∈ vs, OkU A u) → Vals (vs.map toV) vs
  | [], _ => .nil
  | u :: r, h => .cons (relV_toV (h u (List.mem_cons_self ..))) (vals_toV fun x hx => h x (List.mem_cons_of_mem _ hx))
noncomputable def ArgOb (h : Heap) (A : List Addr) (a : Addr) : Prop := ∃ vs : List Value, vs.length ≤ sizeLine ∧ (∀ u ∈ vs, OkU A u) ∧
  (h.get? a = some { cls := .type "list", data := .seq vs.toArray } ∨ h.get? a = some { cls := .type "tuple", data := .seq vs.toArray })
theorem ArgOb.mono {h : Heap} {A B : List Addr} {a : Addr} (k : ∀ a ∈ A, a ∈ B) (x : ArgOb h A a) : ArgOb h B a := by
  obtain ⟨vs, h1, h2, h3⟩ := x
  exact ⟨vs, h1, fun u hu => (h2 u hu).mono k, h3⟩
theorem wellAll_len {P : Params} {h : Heap} : ∀ {vs : List Value} {ds : List WData}, WellAll P h vs ds → vs.length = ds.length
  | _, _, .nil => rfl
  | _, _, .cons _ b => by
    show _ + 1 = _ + 1
    rw [wellAll_len b]
theorem well_list {P : Params} {h : Heap} {v : Value} {ds : List WData} (x : Well P h v (.list ds)) : ∃ (a : Addr) (vs : List Value), v = .ref a ∧ h.get? a = some { cls := .type "list", data := .seq vs.toArray } ∧ WellAll P h vs ds := by
  cases x with
  | list ho hall => exact ⟨_, _, rfl, ho, hall⟩
theorem well_tuple {P : Params} {h : Heap} {v : Value} {ds : List WData} (x : Well P h v (.tuple ds)) : ∃ (a : Addr) (vs : List Value), v = .ref a ∧ h.get? a = some { cls := .type "tuple", data := .seq vs.toArray } ∧ WellAll P h vs ds := by
  cases x with
  | tuple ho hall => exact ⟨_, _, rfl, ho, hall⟩
theorem well_cons {P : Params} {h : Heap} {us : List Value} {d : WData} {ds : List WData} (x : WellAll P h us (d :: ds)) : ∃ (v : Value) (vs : List Value), us = v :: vs ∧ Well P h v d ∧ WellAll P h vs ds := by
  cases x with
  | cons a b => exact ⟨_, _, rfl, a, b⟩
theorem line_of {n : Nat} (h : n ≤ 1048576) : n ≤ sizeLine := Nat.le_trans h (by decide)
section
variable {P : Params} {h : Heap}
mutual
theorem area_one : ∀ (d : WData) (v : Value), Well P h v d → plW d = true → d.weight ≤ 1048576 → ∃ A : List Addr, OkU A v ∧ ∀ a ∈ A, ArgOb h A a
  | .none, _, x, _, _ => by
    cases x
    exact ⟨[], trivial, fun a m => absurd m (by simp)⟩
  | .bool b, _, x, _, _ => by
    cases x
    exact ⟨[], trivial, fun a m => absurd m (by simp)⟩
  | .int i, _, x, _, _ => by
    cases x
    exact ⟨[], trivial, fun a m => absurd m (by simp)⟩
  | .str s, _, x, _, _ => by
    cases x
    exact ⟨[], trivial, fun a m => absurd m (by simp)⟩
  | .bytes b, _, x, _, _ => by
    cases x
    exact ⟨[], trivial, fun a m => absurd m (by simp)⟩
  | .list ds, _, x, p, z => by
    obtain ⟨a, vs, rfl, ho, hall⟩ := well_list x
    have z2 : WData.weightAll ds ≤ 1048576 := z
    obtain ⟨A, h1, h2⟩ := area_all ds _ hall p fun d hd => Nat.le_trans (weight_mem hd) z2
    have k : ∀ b ∈ A, b ∈ a :: A := fun b hb => List.mem_cons_of_mem _ hb
    refine ⟨a :: A, List.mem_cons_self .., fun b hb => ?_⟩
    rcases List.mem_cons.mp hb with e | m
    · rw [e]
      exact ⟨vs, line_of (by rw [wellAll_len hall]; exact Nat.le_trans (PySem.W.length_le_weightAllW ds) z2), fun u hu => (h1 u hu).mono k, .inl ho⟩
    · exact (h2 b m).mono k
  | .tuple ds, _, x, p, z => by
    obtain ⟨a, vs, rfl, ho, hall⟩ := well_tuple x
    have z2 : WData.weightAll ds ≤ 1048576 := z
    obtain ⟨A, h1, h2⟩ := area_all ds _ hall p fun d hd => Nat.le_trans (weight_mem hd) z2
    have k : ∀ b ∈ A, b ∈ a :: A := fun b hb => List.mem_cons_of_mem _ hb
    refine ⟨a :: A, List.mem_cons_self .., fun b hb => ?_⟩
    rcases List.mem_cons.mp hb with e | m
    · rw [e]
      exact ⟨vs, line_of (by rw [wellAll_len hall]; exact Nat.le_trans (PySem.W.length_le_weightAllW ds) z2), fun u hu => (h1 u hu).mono k, .inr ho⟩
    · exact (h2 b m).mono k
  | .float _, _, _, p, _ => Bool.noConfusion (show false = true from p)
  | .dict _, _, _, p, _ => Bool.noConfusion (show false = true from p)
  | .bytearray _, _, _, p, _ => Bool.noConfusion (show false = true from p)
  | .set _, _, _, p, _ => Bool.noConfusion (show false = true from p)
  | .frozenset _, _, _, p, _ => Bool.noConfusion (show false = true from p)
  | .obj _ _, _, _, p, _ => Bool.noConfusion (show false = true from p)
theorem area_all : ∀ (ds : List WData) (vs : List Value), WellAll P h vs ds → plWs ds = true → (∀ d ∈ ds, d.weight ≤ 1048576) → ∃ A : List Addr, (∀ u ∈ vs, OkU A u) ∧ ∀ a ∈ A, ArgOb h A a
  | [], _, x, _, _ => by
    cases x
    exact ⟨[], fun u m => absurd m (by simp), fun a m => absurd m (by simp)⟩
  | d :: ds, _, x, p, z => by
    obtain ⟨v, vs, rfl, x1, x2⟩ := well_cons x
    have q : plW d = true ∧ plWs ds = true := Bool.and_eq_true_iff.mp p
    obtain ⟨A, a1, a2⟩ := area_one d v x1 q.1 (z d (List.mem_cons_self ..))
    obtain ⟨B, b1, b2⟩ := area_all ds vs x2 q.2 fun e he => z e (List.mem_cons_of_mem _ he)
    have kA : ∀ b ∈ A, b ∈ A ++ B := fun b hb => List.mem_append.mpr (.inl hb)
    have kB : ∀ b ∈ B, b ∈ A ++ B := fun b hb => List.mem_append.mpr (.inr hb)
    refine ⟨A ++ B, fun u hu => ?_, fun b hb => ?_⟩
    · rcases List.mem_cons.mp hu with e | m
      · rw [e]
        exact a1.mono kA
      · exact (b1 u m).mono kB
    · rcases List.mem_append.mp hb with m | m
      · exact (a2 b m).mono kA
      · exact (b2 b m).mono kB
end
end
noncomputable def hoOf (o : Obj) : Option HO := match o.data with
  | .seq vs _ => if (o.cls == Value.type "list") = true then some (.frz o (.lst (vs.toList.map toV))) else some (.frz o (.tup (vs.toList.map toV)))
  | _ => none
noncomputable def argH (K : PySem.W.Frag) (h : Heap) (A : List Addr) : Hp := fun b => if b ∈ A then (if (K.lookup b).isNone = true then (h.get? b).bind hoOf else none) else none
noncomputable def OnlyF (H : Hp) : Prop := ∀ b, H b = none ∨ ∃ o u, H b = some (.frz o u)
theorem hoOf_lst (vs : List Value) : hoOf { cls := .type "list", data := .seq vs.toArray } = some (.frz { cls := .type "list", data := .seq vs.toArray } (.lst (vs.map toV))) := by
  show (if (Value.type "list" == Value.type "list") = true then some (HO.frz { cls := .type "list", data := .seq vs.toArray } (.lst (vs.toArray.toList.map toV))) else some (HO.frz { cls := .type "list", data := .seq vs.toArray } (.tup (vs.toArray.toList.map toV)))) = _
  rw [if_pos (beq_self_eq_true _)]
theorem hoOf_tup (vs : List Value) : hoOf { cls := .type "tuple", data := .seq vs.toArray } = some (.frz { cls := .type "tuple", data := .seq vs.toArray } (.tup (vs.map toV))) := by
  show (if (Value.type "tuple" == Value.type "list") = true then some (HO.frz { cls := .type "tuple", data := .seq vs.toArray } (.lst (vs.toArray.toList.map toV))) else some (HO.frz { cls := .type "tuple", data := .seq vs.toArray } (.tup (vs.toArray.toList.map toV)))) = _
  rw [if_neg (by decide)]
section
variable {P : Program} {w : World} {K : PySem.W.Frag} {h : Heap} {A : List Addr}
theorem argH_at {b : Addr} {o : Obj} (hb : b ∈ A) (hk : K.lookup b = none) (e : h.get? b = some o) : argH K h A b = hoOf o := by
  unfold argH
  rw [if_pos hb, hk, if_pos (show (none : Option Obj).isNone = true from rfl), e] <;> rfl
theorem of_argH {b : Addr} {u : HO} (q : argH K h A b = some u) : b ∈ A ∧ K.lookup b = none := by
  unfold argH at q
  by_cases hb : b ∈ A
  · rw [if_pos hb] at q
    cases hk : K.lookup b with
    | none => exact ⟨hb, rfl⟩
    | some o =>
      rw [hk, if_neg (by simp)] at q
      cases q
  · rw [if_neg hb] at q
    cases q
theorem argH_is (ar : ∀ a ∈ A, ArgOb h A a) {b : Addr} {u : HO} (q : argH K h A b = some u) : K.lookup b = none ∧ ∃ vs : List Value, vs.length ≤ sizeLine ∧ (∀ u ∈ vs, OkU A u) ∧
    ((h.get? b = some { cls := .type "list", data := .seq vs.toArray } ∧ u = .frz { cls := .type "list", data := .seq vs.toArray } (.lst (vs.map toV))) ∨
     (h.get? b = some { cls := .type "tuple", data := .seq vs.toArray } ∧ u = .frz { cls := .type "tuple", data := .seq vs.toArray } (.tup (vs.map toV)))) := by
  obtain ⟨hb, hk⟩ := of_argH q
  obtain ⟨vs, h1, h2, h3⟩ := ar b hb
  refine ⟨hk, vs, h1, h2, ?_⟩
  rcases h3 with e | e
  · rw [argH_at hb hk e, hoOf_lst] at q
    exact .inl ⟨e, (Option.some.inj q).symm⟩
  · rw [argH_at hb hk e, hoOf_tup] at q
    exact .inr ⟨e, (Option.some.inj q).symm⟩
theorem argH_only (ar : ∀ a ∈ A, ArgOb h A a) : OnlyF (argH K h A) := fun b => by
  cases q : argH K h A b with
  | none => exact .inl rfl
  | some u =>
    obtain ⟨_, vs, _, _, ⟨_, e⟩ | ⟨_, e⟩⟩ := argH_is ar q
    · exact .inr ⟨_, _, by rw [e]⟩
    · exact .inr ⟨_, _, by rw [e]⟩
theorem argH_ok (ar : ∀ a ∈ A, ArgOb h A a) : HOk P w (argH K h A) h := fun b u q => by
  obtain ⟨_, vs, h1, h2, ⟨e, rfl⟩ | ⟨e, rfl⟩⟩ := argH_is ar q
  · exact ⟨e, by rw [List.length_map]; exact h1, vs, _, vals_toV h2, e⟩
  · exact ⟨e, by rw [List.length_map]; exact h1, vs, vals_toV h2, _, e, rfl, _, rfl⟩
theorem seq_inj {c c' : Value} {vs us : List Value} (e : (some { cls := c, data := .seq vs.toArray } : Option Obj) = some { cls := c', data := .seq us.toArray }) : c = c' ∧ vs = us := by
  have e1 := Option.some.inj e
  have e2 : c = c' := congrArg Obj.cls e1
  have e3 : Data.seq vs.toArray = Data.seq us.toArray := congrArg Obj.data e1
  injection e3 with e4
  refine ⟨e2, ?_⟩
  have e5 := congrArg Array.toList e4
  simpa using e5
theorem argL (KX : K.In h) (ar : ∀ a ∈ A, ArgOb h A a) {a : Addr} {vs : List Value} (ha : a ∈ A) (e : h.get? a = some { cls := .type "list", data := .seq vs.toArray }) : (∀ u ∈ vs, OkU A u) ∧ SqL K (argH K h A) a (vs.map toV) := by
  obtain ⟨us, h1, h2, h3⟩ := ar a ha
  have hu : us = vs := by
    rcases h3 with q | q
    · rw [e] at q
      exact (seq_inj q).2.symm
    · rw [e] at q
      exact absurd (Value.type.inj (seq_inj q).1) (by decide)
  subst hu
  refine ⟨h2, ?_⟩
  cases hk : K.lookup a with
  | none => exact .inl (.inr ⟨_, by rw [argH_at ha hk e, hoOf_lst]⟩)
  | some o =>
    have e2 := KX a o hk
    rw [e] at e2
    obtain rfl := Option.some.inj e2
    exact .inr ⟨_, us.toArray, _, hk, rfl, rfl, rfl, by rw [List.size_toArray]; exact h1, by simpa using vals_toV h2⟩
theorem argT (KX : K.In h) (ar : ∀ a ∈ A, ArgOb h A a) {a : Addr} {vs : List Value} (ha : a ∈ A) (e : h.get? a = some { cls := .type "tuple", data := .seq vs.toArray }) : (∀ u ∈ vs, OkU A u) ∧ SqT K (argH K h A) a (vs.map toV) := by
  obtain ⟨us, h1, h2, h3⟩ := ar a ha
  have hu : us = vs := by
    rcases h3 with q | q
    · rw [e] at q
      exact absurd (Value.type.inj (seq_inj q).1) (by decide)
    · rw [e] at q
      exact (seq_inj q).2.symm
  subst hu
  refine ⟨h2, ?_⟩
  cases hk : K.lookup a with
  | none => exact .inl (.inr ⟨_, by rw [argH_at ha hk e, hoOf_tup]⟩)
  | some o =>
    have e2 := KX a o hk
    rw [e] at e2
    obtain rfl := Option.some.inj e2
    exact .inr ⟨_, us.toArray, _, hk, rfl, rfl, by rw [List.size_toArray]; exact h1, by simpa using vals_toV h2⟩
mutual
theorem dw_one {Pm : Params} (KX : K.In h) (ar : ∀ a ∈ A, ArgOb h A a) : ∀ (d : WData) (v : Value), Well Pm h v d → plW d = true → OkU A v → Dw K (argH K h A) (toV v) d
  | .none, _, x, _, _ => by
    cases x
    exact .non
  | .bool b, _, x, _, _ => by
    cases x
    exact .bl b
  | .int i, _, x, _, _ => by
    cases x
    exact .int i
  | .str s, _, x, _, _ => by
    cases x
    exact .str s
  | .bytes b, _, x, _, _ => by
    cases x
    have z := Dw.byt (K := K) (H := argH K h A) b.toArray
    exact z
  | .list ds, _, x, p, hu => by
    obtain ⟨a, vs, rfl, ho, hall⟩ := well_list x
    obtain ⟨h2, hs⟩ := argL KX ar hu ho
    exact .lst hs (dw_all KX ar ds _ hall p h2)
  | .tuple ds, _, x, p, hu => by
    obtain ⟨a, vs, rfl, ho, hall⟩ := well_tuple x
    obtain ⟨h2, hs⟩ := argT KX ar hu ho
    exact .tup hs (dw_all KX ar ds _ hall p h2)
  | .float _, _, _, p, _ => Bool.noConfusion (show false = true from p)
  | .dict _, _, _, p, _ => Bool.noConfusion (show false = true from p)
  | .bytearray _, _, _, p, _ => Bool.noConfusion (show false = true from p)
  | .set _, _, _, p, _ => Bool.noConfusion (show false = true from p)
  | .frozenset _, _, _, p, _ => Bool.noConfusion (show false = true from p)
  | .obj _ _, _, _, p, _ => Bool.noConfusion (show false = true from p)
theorem dw_all {Pm : Params} (KX : K.In h) (ar : ∀ a ∈ A, ArgOb h A a) : ∀ (ds : List WData) (vs : List Value), WellAll Pm h vs ds → plWs ds = true → (∀ u ∈ vs, OkU A u) → DwAll K (argH K h A) (vs.map toV) ds
  | [], _, x, _, _ => by
    cases x
    exact .nil
  | d :: ds, _, x, p, hu => by
    obtain ⟨v, vs, rfl, x1, x2⟩ := well_cons x
    have q : plW d = true ∧ plWs ds = true := Bool.and_eq_true_iff.mp p
    exact .cons (dw_one KX ar d v x1 q.1 (hu _ (List.mem_cons_self ..))) (dw_all KX ar ds vs x2 q.2 fun u m => hu u (List.mem_cons_of_mem _ m))
end
end
theorem spec_call {P : Program} {w : World} {K : PySem.W.Frag} {mg mb : Str → Option Value} {CX : CXT} {k : Nat} {fa : Addr} {fd : FuncData} {ps : List Str} {sp : Sp} {s₁ : Shared} {vals : List Value} {ds : List WData} {R : PySem.W.WRecords} {cl : Str → Option Addr} {d0 : WData}
    (KX : K.In s₁.heap) (hns : s₁.heap.Ns mainGlobals mg) (hb : s₁.heap.Ns builtinsNs mb) (hbb : ∀ x : Str, x ≠ "__name__" → mb x = bootBuiltins x) (hlim : s₁.heap.NoLimit) (hg : s₁.gens = #[])
    (hwl : WellAll w.params s₁.heap vals ds) (hpl : plWs ds = true) (hwt : ∀ d ∈ ds, d.weight ≤ 1048576) (hr : Room k callerA)
    (F : ∀ base : Heap, K.In base → base.Ns mainGlobals mg → FnOk P w K mg base CX k fa fd ps sp) (hbind : ∀ (s : Shared) (us : List Value), us.length = ps.length → BindsTo s fd ⟨us, []⟩ (ps.zip us)) (hlen : ds.length = ps.length)
    (hsp : ∀ (H : Hp) (xs : List V), OnlyF H → DwAll K H xs ds → sp xs H (fun v H' => Dw K H' v d0) fun _ _ _ => False)
    (hCX : ∀ H e s', CX [] H s₁ (fun _ _ _ => False) e s' → False) :
    codeAny (model P w) callerA (.call (.ref fa) ⟨vals, []⟩) (fun r s' => ∃ u as, r = .ok (.ret u) ∧ ReadsW R cl s'.heap u d0 as ∧ OldK s₁.heap s'.heap ∧ s'.os = s₁.os ∧ AllBare s'.gens) s₁ := by
  obtain ⟨A, ho, ar⟩ := area_all ds vals hwl hpl hwt
  have hO : OnlyF (argH K s₁.heap A) := argH_only ar
  have hok : HOk P w (argH K s₁.heap A) s₁.heap := argH_ok ar
  have hS := dw_all KX ar ds vals hwl hpl ho
  have hV := vals_toV ho
  have hK : ∀ b u, argH K s₁.heap A b = some u → K.lookup b = none := fun b u q => (argH_is ar q).1
  have noA : ∀ {b : Addr} {o : Obj} {es : Array DictEntry} {ep : Nat}, s₁.heap.get? b = some o → o.data = .dict es ep → argH K s₁.heap A b = none := fun {b o es ep} e d => by
    cases q : argH K s₁.heap A b with
    | none => rfl
    | some u =>
      obtain ⟨_, vs, _, _, ⟨e2, _⟩ | ⟨e2, _⟩⟩ := argH_is ar q
      · rw [e2] at e
        cases e
        have d' : Data.seq vs.toArray _ = Data.dict es ep := d
        cases d'
      · rw [e2] at e
        cases e
        have d' : Data.seq vs.toArray _ = Data.dict es ep := d
        cases d'
  generalize argH K s₁.heap A = H at hO hok hS hK noA
  have base_of : ∀ {b : Addr} {o : Obj}, s₁.heap.get? b = some o → H b = none → (hidT s₁.heap H).get? b = some o := fun e n => hidT_get e n
  have nsK : ∀ {b : Addr} {m : Str → Option Value}, s₁.heap.Ns b m → (hidT s₁.heap H).Ns b m := fun {b m} ⟨o, es, ep, e, d, r⟩ => ⟨o, es, ep, base_of e (noA e d), d, r⟩
  have nK : ∀ b o, K.lookup b = some o → H b = none := fun b o e => by
    cases q : H b with
    | none => rfl
    | some u =>
      rw [hK b u q] at e
      cases e
  have hKb : K.In (hidT s₁.heap H) := fun b o e => base_of (KX b o e) (nK b o e)
  have hM : Mod K mg (hidT s₁.heap H) := ⟨hKb, nsK hns, ⟨mb, nsK hb, hbb⟩, let ⟨mc, h1, h2⟩ := hlim; ⟨mc, nsK h1, h2⟩⟩
  have e0 : Env0 P w K mg (hidT s₁.heap H) callerA [] s₁ H := ⟨rfl, hM, fun b o e => of_hidT e, Nat.le_of_eq (hidT_size _ _), trivial, fun b hb => absurd (show b ∈ ([] : List Addr) from hb) (by simp), hok, .of_eq hg⟩
  have hl : vals.length = ps.length := by rw [wellAll_len hwl]; exact hlen
  refine codeAny_mono ((F _ hKb (nsK hns)).run callerA [] s₁ H ⟨vals, []⟩ vals (vals.map toV) _ _ hr e0 (hbind s₁ vals hl) hV (hsp H _ hO hS)) fun r s' x => ?_
  cases r with
  | error e => exact (hCX H e s' x).elim
  | ok fl =>
    cases fl with
    | next => exact False.elim x
    | brk => exact False.elim x
    | cont => exact False.elim x
    | ret u =>
      obtain ⟨v, H', os, bare, un, hok', r', q⟩ := x
      have kept : ∀ b o, s₁.heap.get? b = some o → s'.heap.get? b = some o := fun b o e => by
        cases q2 : H b with
        | none => exact un.keep b o e q2 (by intro z; exact absurd (show b ∈ ([] : List Addr) from z) (by simp)) (by simp)
        | some u2 =>
          rcases hO b with z | ⟨ob, u3, z⟩
          · rw [q2] at z
            cases z
          · have z2 := un.frzs b ob _ z
            obtain ⟨e1, _⟩ := hok b _ z
            obtain ⟨e2, _⟩ := hok' b _ z2
            rw [e] at e1
            cases e1
            exact e2
      have KX' : K.In s'.heap := fun b o e => kept b o (KX b o e)
      obtain ⟨as, hrd⟩ := Dw.reads (R := R) (cl := cl) hok' KX' d0 v u q r'
      exact ⟨u, as, rfl, hrd, OldK.of_keep kept, os, bare⟩
theorem layable_weight {ds : List WData} (h : WData.layableAll ds = true) : ∀ d ∈ ds, d.weight ≤ 1048576 := fun d hd =>
  (PySem.W.layableW_iff.mp (List.all_eq_true.mp h d hd)).2.2
theorem encAll_len : ∀ (cs : List Codec) (a : Codec.denoteAll cs), (Codec.encAll cs a).length = cs.length
  | [], _ => rfl
  | c :: cs, a => by
    show (Codec.encAll cs a.2).length + 1 = cs.length + 1
    rw [encAll_len cs a.2]
theorem walk_spec {r : OpenSpec} {k : Nat} {q : Program} {loose : List Str} {XP : (Str → Option Value) → Heap → Prop} {YP : World → Heap → Prop} {d : DefRec} {K : Params → PySem.W.Frag} {CX : World → CXT} {ps : List Str} {sp : World → Sp}
    (hwell : r.wellSaid = true) (hdf : d.params.defaults = []) (hlen : r.args.length = ps.length) (hr : Room k callerA)
    (hY : ∀ (w : World) (h : Heap), YP w h → (K w.params).In h)
    (F : ∀ (w : World) (mg : Str → Option Value) (fa : Addr) (h : Heap), YP w h → (K w.params).In h → h.Ns mainGlobals mg → mg d.name = some (.ref fa) →
      ∃ fd : FuncData, (∀ (s : Shared) (us : List Value), us.length = ps.length → BindsTo s fd ⟨us, []⟩ (ps.zip us)) ∧
        ∀ base : Heap, (K w.params).In base → base.Ns mainGlobals mg → FnOk r.prog w (K w.params) mg base (CX w) k fa fd ps (sp w))
    (hsp : ∀ (w : World) (H : Hp) (xs : List V) (a : Codec.denoteAll r.args), OnlyF H → Codec.withinAll r.args a = true → Codec.app r.args r.asked a = true → DwAll (K w.params) H xs (Codec.encAll r.args a) →
      sp w xs H (fun v H' => Dw (K w.params) H' v (r.ret.enc (Codec.app r.args r.f a))) fun _ _ _ => False)
    (hCX : ∀ (w : World) (H : Hp) (s : Shared) (e : Value) (s' : Shared), CX w [] H s (fun _ _ _ => False) e s' → False) :
    PySem.W.WalkOS q loose XP YP r d [] (fun f vs => PySem.call f vs) := by
  intro w s_0 s₁ mg mb G Y fa o pm cd doc dV kV ho hd hcd hD hmg hg args vals as hpre hlay hrd hwl hlo
  obtain ⟨a, e1, e2⟩ := PySem.W.os_pre_some hpre
  obtain ⟨e3, hwi⟩ := Codec.encAll_of_decAll r.args args a e1
  subst e3
  have KX := hY w _ Y
  obtain ⟨fd, hb, hF⟩ := F w mg fa _ Y KX G.T.g hmg
  refine PySem.W.enter_call (codeAny_mono (spec_call (R := []) (cl := classAt s_0.heap) (d0 := r.ret.enc (Codec.app r.args r.f a)) KX G.T.g G.T.b G.T.builtins G.T.nolimit hg hwl (pl_encAll _ _) (layable_weight hlay) hr hF hb (by rw [encAll_len]; exact hlen)
    (fun H xs hO hS => hsp w H xs a hO hwi e2 hS) fun H e s' => hCX w H s₁ e s') fun r' s' hq => ?_)
  obtain ⟨u, as', rfl, h1, h2, h3, h4⟩ := hq
  exact ⟨.inl ⟨u, _, as', rfl, fun _ => rfl, h1, (OpenSpec.post_iff hwell hwi _ _).mpr rfl, fun z => Bool.noConfusion (show false = true from z)⟩, h2, h3, h4⟩
theorem walk_specK {r : OpenSpec} {k : Nat} {q : Program} {loose : List Str} {XP : (Str → Option Value) → Heap → Prop} {YP : World → Heap → Prop} {d : DefRec} {K : Params → PySem.W.Frag} {CX : CXT} {ps : List Str} {sp : PySem.W.Frag → Sp}
    (hwell : r.wellSaid = true) (hdf : d.params.defaults = []) (hlen : r.args.length = ps.length) (hr : Room k callerA)
    (hY : ∀ (w : World) (h : Heap), YP w h → (K w.params).In h)
    (F : ∀ (w : World) (mg : Str → Option Value) (fa : Addr) (h : Heap), YP w h → (K w.params).In h → h.Ns mainGlobals mg → mg d.name = some (.ref fa) →
      ∃ fd : FuncData, (∀ (s : Shared) (us : List Value), us.length = ps.length → BindsTo s fd ⟨us, []⟩ (ps.zip us)) ∧
        ∀ base : Heap, (K w.params).In base → base.Ns mainGlobals mg → FnOk r.prog w (K w.params) mg base CX k fa fd ps (sp (K w.params)))
    (hsp : ∀ (K : PySem.W.Frag) (H : Hp) (xs : List V) (a : Codec.denoteAll r.args), OnlyF H → Codec.withinAll r.args a = true → Codec.app r.args r.asked a = true → DwAll K H xs (Codec.encAll r.args a) →
      sp K xs H (fun v H' => Dw K H' v (r.ret.enc (Codec.app r.args r.f a))) fun _ _ _ => False)
    (hCX : ∀ (H : Hp) (s : Shared) (e : Value) (s' : Shared), CX [] H s (fun _ _ _ => False) e s' → False) :
    PySem.W.WalkOS q loose XP YP r d [] (fun f vs => PySem.call f vs) :=
  walk_spec (K := K) (CX := fun _ => CX) (sp := fun w => sp (K w.params)) hwell hdf hlen hr hY F (fun w H xs a h1 h2 h3 h4 => hsp (K w.params) H xs a h1 h2 h3 h4) fun _ H s e s' => hCX H s e s'
end L2
end
end
section
set_option Elab.async false
set_option linter.all false
set_option maxRecDepth 100000
namespace SW
open PySem PySem.Spec PyProof.Rows
noncomputable def Rise (xs : Array Nat) : Prop := ∀ (i k a b : Nat), i < k → xs[i]? = some a → xs[k]? = some b → a < b
theorem rise_nil : Rise #[] := fun i k a b _ h _ => by simp at h
theorem rise_range (n : Nat) : Rise (Array.range n) := fun i k a b hik h h' => by
  obtain ⟨h1, e1⟩ := Array.getElem?_eq_some_iff.mp h
  obtain ⟨h2, e2⟩ := Array.getElem?_eq_some_iff.mp h'
  simp at e1 e2
  omega
structure Cut (xs : Array Nat) (j p : Nat) : Prop where
  le : p ≤ xs.size
  lo : ∀ i a, i < p → xs[i]? = some a → a < j
  hi : ∀ i a, p ≤ i → xs[i]? = some a → j ≤ a
theorem Cut.one {xs : Array Nat} {j p q : Nat} (c : Cut xs j p) (d : Cut xs j q) : p = q := by
  rcases Nat.lt_trichotomy p q with h | h | h
  · have hp : p < xs.size := Nat.lt_of_lt_of_le h d.le
    have e : xs[p]? = some xs[p] := Array.getElem?_eq_getElem hp
    have h1 := c.hi p _ (Nat.le_refl _) e
    have h2 := d.lo p _ h e
    omega
  · exact h
  · have hp : q < xs.size := Nat.lt_of_lt_of_le h c.le
    have e : xs[q]? = some xs[q] := Array.getElem?_eq_getElem hp
    have h1 := d.hi q _ (Nat.le_refl _) e
    have h2 := c.lo q _ h e
    omega
theorem go_cut {xs : Array Nat} {j : Nat} (R : Rise xs) : ∀ (f lo hi : Nat), lo ≤ hi → hi ≤ xs.size → hi - lo ≤ f → (∀ i a, i < lo → xs[i]? = some a → a < j) → (∀ i a, hi ≤ i → xs[i]? = some a → j ≤ a) →
    Cut xs j (SetTable.below.go xs j f lo hi) := by
  intro f
  induction f with
  | zero =>
    intro lo hi h1 h2 h3 h4 h5
    have e : lo = hi := by omega
    subst e
    exact ⟨h2, h4, h5⟩
  | succ f ih =>
    intro lo hi h1 h2 h3 h4 h5
    unfold SetTable.below.go
    by_cases hl : lo < hi
    · rw [if_pos hl]
      have hm : (lo + hi) / 2 < xs.size := by omega
      have em : xs[(lo + hi) / 2]? = some xs[(lo + hi) / 2] := Array.getElem?_eq_getElem hm
      have eD : xs.getD ((lo + hi) / 2) j = xs[(lo + hi) / 2] := by simp [Array.getD, hm]
      dsimp only
      by_cases hj : xs.getD ((lo + hi) / 2) j < j
      · rw [if_pos hj]
        refine ih _ _ (by omega) h2 (by omega) (fun i a hi' e => ?_) h5
        rcases Nat.lt_or_eq_of_le (Nat.le_of_lt_succ hi') with h | h
        · have := R _ _ _ _ h e em
          omega
        · subst h
          rw [em] at e
          cases e
          omega
      · rw [if_neg hj]
        refine ih _ _ (by omega) (by omega) (by omega) h4 fun i a hi' e => ?_
        rcases Nat.lt_or_eq_of_le hi' with h | h
        · have := R _ _ _ _ h em e
          omega
        · subst h
          rw [em] at e
          cases e
          omega
    · rw [if_neg hl]
      have e : lo = hi := by omega
      subst e
      exact ⟨h2, h4, h5⟩
theorem below_cut {xs : Array Nat} (R : Rise xs) (j : Nat) : Cut xs j (SetTable.below xs j) :=
  go_cut R _ _ _ (Nat.zero_le _) (Nat.le_refl _) (by omega) (fun i a h => absurd h (Nat.not_lt_zero _)) fun i a h e => by
    have := (Array.getElem?_eq_some_iff.mp e).1
    omega
theorem below_zero {xs : Array Nat} (R : Rise xs) : SetTable.below xs 0 = 0 :=
  (below_cut R 0).one ⟨Nat.zero_le _, fun i a h => absurd h (Nat.not_lt_zero _), fun _ _ _ _ => Nat.zero_le _⟩
theorem below_next {xs : Array Nat} (R : Rise xs) {i a : Nat} (e : xs[i]? = some a) : SetTable.below xs (a + 1) = i + 1 :=
  (below_cut R (a + 1)).one ⟨(Array.getElem?_eq_some_iff.mp e).1, fun k b h eb => by
    rcases Nat.lt_or_eq_of_le (Nat.le_of_lt_succ h) with h | h
    · have := R _ _ _ _ h eb e
      omega
    · subst h
      rw [e] at eb
      cases eb
      omega, fun k b h eb => R i k a b h e eb⟩
theorem insertAt_get {α : Type} (xs : Array α) (p : Nat) (x : α) (hp : p ≤ xs.size) (i : Nat) : (SetTable.insertAt xs p x)[i]? = if i < p then xs[i]? else if i = p then some x else xs[i - 1]? := by
  rw [← Array.getElem?_toList, SetTable.toList_insertAt, List.getElem?_append, List.length_take, Array.length_toList, Nat.min_eq_left hp]
  by_cases h : i < p
  · rw [if_pos h, if_pos h, List.getElem?_take_of_lt h, Array.getElem?_toList]
  · rw [if_neg h, if_neg h]
    by_cases h2 : i = p
    · subst h2
      rw [if_pos rfl, Nat.sub_self]
      rfl
    · rw [if_neg h2]
      obtain ⟨k, hk⟩ : ∃ k, i - p = k + 1 := ⟨i - p - 1, by omega⟩
      rw [hk, List.getElem?_cons_succ, List.getElem?_drop, Array.getElem?_toList]
      congr 1
      omega
theorem rise_insert {xs : Array Nat} (R : Rise xs) {j : Nat} (h : xs[SetTable.below xs j]? ≠ some j) : Rise (SetTable.insertAt xs (SetTable.below xs j) j) := by
  have C := below_cut R j
  generalize SetTable.below xs j = p at C h
  have G := insertAt_get xs p j C.le
  have up : ∀ i a, p ≤ i → xs[i]? = some a → j < a := fun i a hi e => by
    have h1 := C.hi i a hi e
    rcases Nat.lt_or_eq_of_le h1 with h2 | h2
    · exact h2
    · exfalso
      subst h2
      rcases Nat.lt_or_eq_of_le hi with h3 | h3
      · have hp : p < xs.size := Nat.lt_trans h3 (Array.getElem?_eq_some_iff.mp e).1
        have ep : xs[p]? = some xs[p] := Array.getElem?_eq_getElem hp
        have h4 := R _ _ _ _ h3 ep e
        have h5 := C.hi p _ (Nat.le_refl _) ep
        omega
      · subst h3
        exact h e
  intro i k a b hik ei ek
  rw [G] at ei ek
  by_cases h1 : i < p
  · rw [if_pos h1] at ei
    by_cases h2 : k < p
    · rw [if_pos h2] at ek
      exact R _ _ _ _ hik ei ek
    · rw [if_neg h2] at ek
      have h3 := C.lo _ _ h1 ei
      by_cases h4 : k = p
      · rw [if_pos h4] at ek
        cases ek
        exact h3
      · rw [if_neg h4] at ek
        have := up _ _ (by omega) ek
        omega
  · rw [if_neg h1] at ei
    rw [if_neg (by omega), if_neg (by omega)] at ek
    by_cases h4 : i = p
    · rw [if_pos h4] at ei
      cases ei
      exact up _ _ (by omega) ek
    · rw [if_neg h4] at ei
      exact R _ _ _ _ (by omega) ei ek
structure TOk (t : SetTable) : Prop where
  rise : Rise t.place
  none : t.dummies = #[]
theorem no_dummy {t : SetTable} (h : t.dummies = #[]) (j : Nat) : t.slot j = .empty ∨ ∃ i, t.slot j = .live i := by
  unfold SetTable.slot
  dsimp only
  split
  · exact .inr ⟨_, rfl⟩
  · rw [h]
    left
    simp [SetTable.has]
theorem empty_free {t : SetTable} {j : Nat} (h : t.slot j = .empty) : t.place[SetTable.below t.place j]? ≠ some j := by
  intro e
  unfold SetTable.slot at h
  dsimp only at h
  rw [if_pos (by rw [e]; exact beq_self_eq_true _)] at h
  cases h
theorem probe_free {t : SetTable} (T : TOk t) {f : Nat → Int} {h : Int} : ∀ (n : Nat) (p : SetTable.Probe) {j : Nat} {d : Option Nat}, p.dummy = none → SetTable.probe.go t f h n p = some (.empty j d) → d = none ∧ t.slot j = .empty
  | 0, p, j, d, _, e => by cases e
  | n + 1, p, j, d, hd, e => by
    unfold SetTable.probe.go at e
    rcases no_dummy T.none p.j with q | ⟨i, q⟩
    · rw [q] at e
      injection e with e
      injection e with e1 e2
      subst e1 e2
      exact ⟨hd, q⟩
    · rw [q] at e
      dsimp only at e
      split at e
      · cases e
      · refine probe_free T n _ ?_ e
        unfold SetTable.advance
        split
        · exact hd
        · exact hd
theorem free_slot {t : SetTable} (T : TOk t) {h : Int} {j : Nat} {d : Bool} (e : t.freeSlot h = some (j, d)) : t.slot j = .empty := by
  unfold SetTable.freeSlot SetTable.probe at e
  split at e
  · rename_i j' d' q
    obtain ⟨rfl, q2⟩ := probe_free T _ _ (by rfl) q
    injection e with e
    injection e with e1 e2
    subst e1
    exact q2
  · cases e
theorem put_ok {t : SetTable} (T : TOk t) {j : Nat} (h : t.slot j = .empty) : TOk (t.put j).1 := by
  refine ⟨rise_insert T.rise (empty_free h), ?_⟩
  show (if SetTable.has t.dummies j = true then _ else t.dummies) = #[]
  rw [T.none, if_neg (by simp [SetTable.has])]
theorem standIn_ok (t : SetTable) (n : Nat) : TOk (t.standIn n) := ⟨rise_range n, rfl⟩
theorem orStandIn_ok {t : SetTable} (T : TOk t) (n : Nat) : TOk (t.orStandIn n) := by
  unfold SetTable.orStandIn
  split
  · exact T
  · exact standIn_ok t n
theorem orStandIn_led (t : SetTable) (n : Nat) : (t.orStandIn n).led = t.led := by
  unfold SetTable.orStandIn
  split <;> rfl
theorem layNew_ok {t : SetTable} (T : TOk t) (es : Array (Int × Value)) (h : Int) (x : Value) : TOk (layNew t es h x).2.1 ∧ (layNew t es h x).2.1.led = t.led := by
  unfold layNew
  split
  · rename_i j d e
    exact ⟨orStandIn_ok (put_ok T (free_slot T e)) _, orStandIn_led _ _⟩
  · exact ⟨standIn_ok _ _, rfl⟩
theorem rise_of_pairwise {l : List Nat} (h : l.Pairwise (· < ·)) : Rise l.toArray := fun i k a b hik e1 e2 => by
  simp only [List.getElem?_toArray] at e1 e2
  obtain ⟨h1, rfl⟩ := List.getElem?_eq_some_iff.mp e1
  obtain ⟨h2, rfl⟩ := List.getElem?_eq_some_iff.mp e2
  exact List.pairwise_iff_getElem.mp h i k h1 h2 hik
theorem laid_ok {mask finger moves : Nat} {led plain : Bool} {hs : Array Int} {t : SetTable} {o : Array Nat} (e : SetTable.laid mask finger moves led plain hs = some (t, o)) : TOk t ∧ t.led = led := by
  unfold SetTable.laid at e
  cases q : SetTable.layClean mask hs with
  | none => rw [q] at e; cases e
  | some owner =>
    rw [q] at e
    injection e with e
    injection e with e1 e2
    subst e1
    refine ⟨⟨rise_of_pairwise ?_, rfl⟩, rfl⟩
    rw [List.map_filterMap]
    refine List.Pairwise.filterMap (R := (· < ·)) _ (fun a a' haa b hb b' hb' => ?_) List.pairwise_lt_range
    simp only [Option.map_map] at hb hb'
    cases q1 : owner.getD a none with
    | none => rw [q1] at hb; simp at hb
    | some z =>
      rw [q1] at hb
      simp at hb
      cases q2 : owner.getD a' none with
      | none => rw [q2] at hb'; simp at hb'
      | some z' =>
        rw [q2] at hb'
        simp at hb'
        subst hb hb'
        exact haa
theorem relayAll_ok {t : SetTable} (es : Array (Int × Value)) (wanted : Nat) : TOk (relayAll t es wanted).2.1 ∧ (relayAll t es wanted).2.1.led = t.led := by
  unfold relayAll
  split
  · rename_i t' o e
    dsimp only
    split
    · exact laid_ok e
    · exact ⟨standIn_ok _ _, rfl⟩
  · exact ⟨standIn_ok _ _, rfl⟩
end SW
end
section
set_option Elab.async false
set_option linter.all false
set_option maxRecDepth 100000
namespace SW
open PySem PySem.Spec PyProof.Rows
noncomputable def byText (w : World) : Bool := w.params.followText "set-order"
structure SetD (P : Program) (w : World) (ks : List Int) (es : Array (Int × Value)) (t : SetTable) : Prop where
  el : ElemsOf (intKind P w) es.toList
  «ints» : IntsAre (es.toList.map (·.2)) ks
  nd : ks.Nodup
  few : es.size < scanBound
  fit : t.fits es.size = true
  led : byText w = true ∨ t.led = true
  ok : TOk t
noncomputable abbrev setObj (es : Array (Int × Value)) (ep : Nat) (t : SetTable) : Obj := { cls := .type "set", dict := none, data := .set es ep t, slots := #[] }
noncomputable def SetG (P : Program) (w : World) (h : Heap) (a : Addr) (ks : List Int) : Prop := ∃ es ep t, h.get? a = some (setObj es ep t) ∧ SetD P w ks es t
theorem SetG.keep {P : Program} {w : World} {h h' : Heap} {a : Addr} {ks : List Int} (g : SetG P w h a ks) (k : ∀ o, h.get? a = some o → h'.get? a = some o) : SetG P w h' a ks :=
  let ⟨es, ep, t, e, d⟩ := g
  ⟨es, ep, t, k _ e, d⟩
theorem ints_is {P : Program} {w : World} : ∀ {l : List Value} {ks : List Int}, IntsAre l ks → ∀ k : Int, (∃ v ∈ l, (intKind P w).is k v = true) ↔ k ∈ ks
  | _, _, .nil, k => by simp
  | _, _, .cons n t r, k => by
    have ih := ints_is (P := P) (w := w) r k
    have e : (intKind P w).is k (Value.int n t) = decide (k = n) := by
      show Value.isInt k (Value.int n t) = _
      show (n == k) = decide (k = n)
      by_cases q : n = k
      · subst q
        rw [beq_self_eq_true, decide_eq_true rfl]
      · rw [beq_eq_false_iff_ne.mpr q, decide_eq_false fun z => q z.symm]
    simp only [List.mem_cons, exists_eq_or_imp, ih, e, decide_eq_true_eq]
theorem ints_perm : ∀ {l l' : List Value} {ks : List Int}, List.Perm l' l → IntsAre l ks → ∃ ks', ks'.Perm ks ∧ IntsAre l' ks' := by
  intro l l' ks p
  induction p generalizing ks with
  | nil => exact fun h => ⟨ks, .refl _, h⟩
  | @cons a l1 l2 _ ih =>
    intro h
    cases h with
    | cons n t r =>
      obtain ⟨ks', p', q⟩ := ih r
      exact ⟨n :: ks', p'.cons _, .cons n t q⟩
  | @swap a b l1 =>
    intro h
    cases h with
    | cons n t r =>
      cases r with
      | cons n2 t2 r2 => exact ⟨_, List.Perm.swap .., .cons n2 t2 (.cons n t r2)⟩
  | @trans l1 l2 l3 _ _ ih1 ih2 =>
    intro h
    obtain ⟨k2, p2, q2⟩ := ih2 h
    obtain ⟨k1, p1, q1⟩ := ih1 q2
    exact ⟨k1, p1.trans p2, q1⟩
theorem ints_snoc : ∀ {l : List Value} {ks : List Int} (n : Int) (t : Tok), IntsAre l ks → IntsAre (l ++ [Value.int n t]) (ks ++ [n])
  | _, _, n, t, .nil => .cons n t .nil
  | _, _, n, t, .cons m u r => .cons m u (ints_snoc n t r)
theorem nodup_snoc {ks : List Int} {k : Int} (h : ks.Nodup) (hk : ¬ k ∈ ks) : (ks ++ [k]).Nodup := by
  rw [List.nodup_append]
  refine ⟨h, by simp, fun a ha b hb => ?_⟩
  simp at hb
  subst hb
  exact fun e => hk (e ▸ ha)
section
variable {P : Program} {w : World} {A : Around} {E : Value → Shared → Prop} {s : Shared}
theorem store_get {h : Heap} {a : Addr} {es es' : Array (Int × Value)} {ep : Nat} {t t' : SetTable} (e : h.get? a = some (setObj es ep t)) : (h.update a (Obj.putSet es' t')).get? a = some (setObj es' (ep + 1) t') := by
  have q := Heap.get?_update_self (Obj.putSet es' t') e (by
    rw [putSet_of es' t' rfl]
    rfl)
  rw [putSet_of es' t' rfl] at q
  exact q
theorem add_int {a : Addr} {ks : List Int} {k : Int} {tk : Tok} {Q : Bool → Shared → Prop} (g : SetG P w s.heap a ks) (room : ks.length + 1 < scanBound)
    (h : ∀ h' ks' b, Heap.SameBut a s.heap h' → SetG P w h' a ks' → (∀ x, x ∈ ks' ↔ x ∈ ks ∨ x = k) → ks'.length ≤ ks.length + 1 → Q b { s with heap := h' }) :
    wpAny (model P w) A (setAddHashed a (.int k tk) ((intKind P w).hash k)) Q E s := by
  obtain ⟨es, ep, t, ho, D⟩ := g
  have hlen : es.size = ks.length := by
    have q := IntsAre.length D.ints
    rw [List.length_map, Array.length_toList] at q
    exact q
  have hkey : (intKind P w).is k (Value.int k tk) = true := intKind_is _ _ _ _
  have hsc : (Value.int k tk).scannable = true := rfl
  have mem : ∀ x : Int, (∃ e ∈ es.toList, (intKind P w).is x e.2 = true) ↔ x ∈ ks := fun x => by
    rw [← ints_is (P := P) (w := w) D.ints x]
    constructor
    · rintro ⟨e, he, q⟩
      exact ⟨e.2, List.mem_map.mpr ⟨e, he, rfl⟩, q⟩
    · rintro ⟨v, hv, q⟩
      obtain ⟨e, he, rfl⟩ := List.mem_map.mp hv
      exact ⟨e, he, q⟩
  unfold setAddHashed setAddHashedIn
  refine wpAny_holding (wpAny_bind (wpAny_setState_of ho rfl D.fit ?_))
  dsimp only
  rw [byScan_of hsc D.few D.el]
  simp only [↓reduceIte]
  unfold setAddByScan
  refine wpAny_bind (wpAny_bind (wpAny_rule (wpAny_bind (wpAny_setScan_of hkey ho rfl D.fit D.el ?_))))
  cases hr : List.findIdx? (fun e => (intKind P w).is k e.2) es.toList with
  | some j =>
    dsimp only
    obtain ⟨hj, hpj, _⟩ := List.findIdx?_eq_some_iff_getElem.mp hr
    have hin : k ∈ ks := (mem k).mp ⟨es.toList[j], List.getElem_mem hj, hpj⟩
    refine wpAny_pure (wpAny_pure ?_)
    have e : s = { s with heap := s.heap } := by cases s; rfl
    rw [e]
    exact h s.heap ks _ (Heap.SameBut.refl a s.heap) ⟨es, ep, t, ho, D⟩ (fun x => ⟨.inl, fun q => q.elim id fun q => q ▸ hin⟩) (Nat.le_succ _)
  | none =>
    dsimp only
    have hni : ¬ k ∈ ks := fun q => by
      obtain ⟨e, he, hp⟩ := (mem k).mpr q
      have z := List.findIdx?_eq_none_iff.mp hr e he
      rw [hp] at z
      cases z
    have hperm := layNew_perm t es ((intKind P w).hash k) (Value.int k tk)
    have hfits := layNew_fits t es ((intKind P w).hash k) (Value.int k tk)
    obtain ⟨hok, hled⟩ := layNew_ok D.ok es ((intKind P w).hash k) (Value.int k tk)
    generalize layNew t es ((intKind P w).hash k) (Value.int k tk) = L at hperm hfits hok hled ⊢
    obtain ⟨es1, t1, wasDummy, gave⟩ := L
    dsimp only at hperm hfits hok hled ⊢
    rw [Array.toList_push] at hperm
    have el1 : ElemsOf (intKind P w) es1.toList := (D.el.push hkey hsc).perm hperm
    obtain ⟨ks1, p1, i1⟩ := ints_perm (hperm.map (·.2)) (by
      rw [List.map_append]
      exact ints_snoc k tk D.ints)
    have few1 : es1.size < scanBound := by
      have q := hperm.length_eq
      rw [List.length_append, Array.length_toList, Array.length_toList] at q
      have q2 : [((intKind P w).hash k, Value.int k tk)].length = 1 := rfl
      omega
    have D1 : ∀ t2 : SetTable, t2.fits es1.size = true → TOk t2 → t2.led = t1.led → SetD P w ks1 es1 t2 := fun t2 f o l =>
      ⟨el1, i1, p1.nodup_iff.mpr (nodup_snoc D.nd hni), few1, f, D.led.imp id fun q => by rw [l, hled]; exact q, o⟩
    have fin : ∀ h' ks' b, Heap.SameBut a s.heap h' → SetG P w h' a ks' → ks'.Perm ks1 → Q b { s with heap := h' } := fun h' ks' b sb g p =>
      h h' ks' b sb g (fun x => by rw [p.mem_iff, p1.mem_iff, List.mem_append, List.mem_singleton]) (by rw [p.length_eq, p1.length_eq, List.length_append]; exact Nat.le_refl _)
    have gw : ∀ (b : Bool) {s1 : Shared} {Q' : Unit → Shared → Prop}, Q' () s1 → wpAny (model P w) A (match b with
        | true => rule "set.scan.the-table-gave-way"
        | false => pure ()) Q' E s1 := fun b s1 Q' q => by
      cases b with
      | true => exact wpAny_rule q
      | false => exact wpAny_pure q
    refine wpAny_bind (gw _ ?_)
    have tail : ∀ t2 : SetTable, t2.fits es1.size = true → TOk t2 → t2.led = t1.led → wpAny (model P w) A (do
        storeSet a es1 t2
        if (!wasDummy && t2.tooFull) = true then do
            (match (relayAll t2 es1 (SetTable.grown es1.size)).2.2 with
              | true => rule "set.scan.the-table-gave-way"
              | false => pure ())
            storeSet a (relayAll t2 es1 (SetTable.grown es1.size)).1 (relayAll t2 es1 (SetTable.grown es1.size)).2.1
            pure (some true)
          else pure (some true)) (fun r s' => ∃ b, r = some b ∧ Q b s') E s := fun t2 f o l => by
      refine wpAny_bind (wpAny_storeSet_of ho rfl ?_ (fits_of_scanBound few1))
      have g1 := store_get (es' := es1) (t' := t2) ho
      have sb1 := Heap.SameBut.update s.heap a (Obj.putSet es1 t2)
      split
      · have hp := relayAll_perm t2 es1 (SetTable.grown es1.size)
        have hf := relayAll_fits t2 es1 (SetTable.grown es1.size)
        obtain ⟨o2, l2⟩ := relayAll_ok (t := t2) es1 (SetTable.grown es1.size)
        generalize relayAll t2 es1 (SetTable.grown es1.size) = Rl at hp hf o2 l2 ⊢
        obtain ⟨es2, t3, gave2⟩ := Rl
        dsimp only at hp hf o2 l2 ⊢
        obtain ⟨ks2, p2, i2⟩ := ints_perm (hp.map (·.2)) i1
        have few2 : es2.size < scanBound := by
          have q := hp.length_eq
          rw [Array.length_toList, Array.length_toList] at q
          omega
        refine wpAny_bind (gw _ (wpAny_bind (wpAny_storeSet_of g1 rfl (wpAny_pure ⟨true, rfl, ?_⟩) (fits_of_scanBound few2))))
        exact fin _ ks2 true (sb1.trans (Heap.SameBut.update _ a _)) ⟨es2, ep + 1 + 1, t3, store_get g1, el1.perm hp, i2, p2.nodup_iff.mpr (p1.nodup_iff.mpr (nodup_snoc D.nd hni)), few2, hf, D.led.imp id fun q => by rw [l2, l, hled]; exact q, o2⟩ p2
      · exact wpAny_pure ⟨true, rfl, fin _ ks1 true sb1 ⟨es1, ep + 1, t2, g1, D1 t2 f o l⟩ (.refl _)⟩
    split
    · refine wpAny_bind ?_
      rw [hashByValue_scannable 8 hsc]
      refine wpAny_pure ?_
      have e : (if plainKind (Value.int k tk) = true then t1 else { t1 with plain := false }) = t1 := if_pos rfl
      rw [e]
      refine wpAny_mono (tail t1 hfits hok rfl) (fun r s' q => ?_) fun _ _ q => q
      obtain ⟨b, rfl, q⟩ := q
      exact wpAny_pure q
    · refine wpAny_bind (wpAny_pure ?_)
      simp only [↓reduceIte]
      refine wpAny_mono (tail t1 hfits hok rfl) (fun r s' q => ?_) fun _ _ q => q
      obtain ⟨b, rfl, q⟩ := q
      exact wpAny_pure q
end
end SW
end
section
set_option Elab.async false
set_option linter.all false
set_option maxRecDepth 100000
namespace SW
open PySem PySem.Spec PyProof.Rows
section
variable {P : Program} {w : World} {A : Around} {R : Result → Shared → Prop} {I : Addr} {fp wr : List Addr} {G : Array GenState → Array GenState → Prop} {n : Nat} {Pr : Nat → Value → Prop} {St : Nat → Shared → Prop}
theorem fill_loop (W : WalksS P w A.in1 I fp wr G n Pr St) (a : Addr) (ha : a ∉ fp) (val : Nat → Int) (hval : ∀ i v, Pr i v → ∃ t, v = .int (val i) t) (few : n + 1 < scanBound) :
    ∀ (k i : Nat) (s : Shared) (ks : List Int), n - i = k → i ≤ n → St i s → SetG P w s.heap a ks → ks.length ≤ i → (∀ x, x ∈ ks ↔ ∃ j, j < i ∧ x = val j) →
      (∀ s' ks', Moved (a :: wr) G s s' → SetG P w s'.heap a ks' → ks'.length ≤ n → (∀ x, x ∈ ks' ↔ ∃ j, j < n ∧ x = val j) → R (.ok (.ret .none)) s') →
      codeAny (model P w) A (.builtin "set.update.loop" ⟨[.ref a, .ref I], []⟩) R s := by
  have haw : a ∉ wr := fun h => ha (W.sub _ h)
  have sub : ∀ b ∈ wr, b ∈ a :: wr := fun b hb => List.mem_cons_of_mem _ hb
  intro k
  induction k with
  | zero =>
    intro i s ks hk hi st g len mem hR
    obtain rfl : i = n := by omega
    refine codeAny_builtin F.entry_set_update_loop ?_
    rw [Around.under_plainId F.plain_set_update_loop _]
    show wpAny _ A.in1 (pyNext (.ref I) >>= _) _ _ s
    refine wpAny_bind (W.done s _ _ st fun s' m => ?_)
    exact wpAny_pure (hR s' ks (m.mono sub) (g.keep fun o e => m.heap a o haw e) len mem)
  | succ k ih =>
    intro i s ks hk hi st g len mem hR
    have lt : i < n := by omega
    refine codeAny_builtin F.entry_set_update_loop ?_
    rw [Around.under_plainId F.plain_set_update_loop _]
    show wpAny _ A.in1 (pyNext (.ref I) >>= _) _ _ s
    refine wpAny_bind (W.item i s _ _ lt st fun v s' hP st' m => ?_)
    obtain ⟨t, rfl⟩ := hval i v hP
    have g' := g.keep fun o e => m.heap a o haw e
    show wpAny _ A.in1 (holding [Value.int (val i) t] (setAdd a (.int (val i) t)) >>= _) _ _ s'
    refine wpAny_bind (wpAny_holding ?_)
    unfold setAdd
    refine wpAny_holding (wpAny_bind ((intKind P w).pyHash (k := val i) (intKind_is _ _ _ _) ?_))
    refine add_int (s := { s' with toks := s'.toks + 1 }) g' (by omega) fun h' ks' b sb g2 mem2 len2 => ?_
    refine wpAny_pure ⟨plainId_quiet F.plain_set_update_loop _, ih (i + 1) _ ks' (by omega) lt (W.frame _ s' _ _ st' (Nat.le_succ _) fun b hb o e => ?_) g2 (by omega) (fun x => ?_) fun s2 ks2 m2 g3 len3 mem3 => ?_⟩
    · rw [sb.2 b fun z : b = a => ha (z ▸ hb)]
      exact e
    · rw [mem2, mem]
      constructor
      · rintro (⟨j, hj, e⟩ | e)
        · exact ⟨j, by omega, e⟩
        · exact ⟨i, by omega, e⟩
      · rintro ⟨j, hj, e⟩
        by_cases q : j < i
        · exact .inl ⟨j, q, e⟩
        · obtain rfl : j = i := by omega
          exact .inr e
    · refine hR s2 ks2 (Moved.trans W.gtrans ((m.mono sub).then_heap (Nat.le_succ _) fun b o hb e => ?_) m2) g3 len3 mem3
      rw [sb.2 b fun z : b = a => hb (z ▸ List.mem_cons_self)]
      exact e
end
section
variable {P : Program} {w : World} {A : Around} {E : Value → Shared → Prop} {s : Shared}
noncomputable abbrev newTab (w : World) : SetTable := .fresh 0 0 (!byText w)
theorem set_new (a : Value) {Q : Value → Shared → Prop} (h : Q (.ref s.heap.objs.size) { s with heap := s.heap.push (setObj #[] 0 (newTab w)) }) :
    codeAny (model P w) A (.call (.builtin "set.__new__") ⟨[.type "set", a], []⟩) (wants Q E) s := by
  refine codeAny_of_tree ?_
  show wpAny _ A.in1 (do checkBuiltinCall "set.__new__" ⟨[.type "set", a], []⟩; again (.builtin "set.__new__" ⟨[.type "set", a], []⟩)) _ _ s
  refine wpAny_bind (wpAny_of_eq (F.newCall_set_1 a) (wpAny_pure ⟨plainId_quiet F.plain_set_new _, codeAny_builtin F.entry_set_new ?_⟩))
  rw [Around.under_plainId F.plain_set_new _]
  unfold Builtin.«set.__new__» Builtin.Frozenset.newClass
  have hsub := sub_set_self
  obtain ⟨hp, g, d, tk, os⟩ := s
  dsimp only
  wp_walk
  refine wpAny_askSetting (wpAny_pure ?_)
  dsimp only
  simp only [newObj]
  refine wpAny_bind (wpAny_alloc (wpAny_pure ?_))
  exact wpAny_pure h
theorem newTab_ok : SetD P w [] #[] (newTab w) where
  el := fun e he => by simp at he
  «ints» := .nil
  nd := .nil
  few := by unfold scanBound; decide
  fit := by rfl
  led := by
    show byText w = true ∨ (!byText w) = true
    cases byText w
    · exact .inr rfl
    · exact .inl rfl
  ok := ⟨rise_nil, rfl⟩
theorem getD_any (ns : List Int) (x : Int) : (∃ j, j < ns.length ∧ x = ns.getD j 0) ↔ x ∈ ns := by
  constructor
  · rintro ⟨j, hj, rfl⟩
    rw [List.getD_eq_getElem?_getD, List.getElem?_eq_getElem hj]
    exact List.getElem_mem hj
  · intro h
    obtain ⟨j, hj, e⟩ := List.mem_iff_getElem.mp h
    refine ⟨j, hj, ?_⟩
    rw [List.getD_eq_getElem?_getD, List.getElem?_eq_getElem hj]
    exact e.symm
set_option maxHeartbeats 4000000 in
theorem call_set {l : Addr} {its : Array Value} {ns : List Int} {Q : Value → Shared → Prop} (hh : A.handled = none) (hl : s.heap.IsList l its) (hi : IntsAre its.toList ns) (hb : its.size + 1 < scanBound)
    (h : ∀ (h' : Heap) (tk : Nat) (ks : List Int), SetG P w h' s.heap.objs.size ks → (∀ x, x ∈ ks ↔ x ∈ ns) → ks.length ≤ ns.length → (∀ b o, s.heap.get? b = some o → h'.get? b = some o) → Q (.ref s.heap.objs.size) { s with heap := h', toks := tk }) :
    wpAny (model P w) A (call (.type "set") [.ref l]) Q E s := by
  have hsz : its.size = ns.length := by
    have q := IntsAre.length hi
    rw [Array.length_toList] at q
    exact q
  obtain ⟨c, tl, hmro⟩ := F.called_set.mro
  have hmade := F.called_set.made
  have hsub := F.called_set.sub
  refine wpAny_call (codeAny_of_tree ?_)
  show wpAny _ _ (callAny (.type "set") _) _ _ _
  refine wpAny_pure ⟨Code.quiet_builtin _ (by decide +kernel), codeAny_builtin F.entry_type_call ?_⟩
  rw [Around.under_plain (weight_type_call_type "set" [.ref l] []) rfl]
  have h1 := F.called_set.notType
  have h2 := F.called_set.canCreate
  have hct := F.typeCall_set_1 (.ref l)
  repeat (any_goals (first | assumption | wp_step))
  refine codeAny_mono (set_new (.ref l) (E := E) (Q := fun obj s1 => obj = .ref s.heap.objs.size ∧ s1 = { s with heap := s.heap.push (setObj #[] 0 (newTab w)) }) ⟨rfl, rfl⟩) fun r s1 hr => ?_
  cases r with
  | error e => exact hr
  | ok fl =>
    cases fl with
    | ret obj =>
      obtain ⟨rfl, rfl⟩ := hr
      have hS : (s.heap.push (setObj #[] 0 (newTab w))).get? s.heap.objs.size = some (setObj #[] 0 (newTab w)) := Heap.get?_push_size _ rfl
      have hT : Shared.TypeIs { s with heap := s.heap.push (setObj #[] 0 (newTab w)) } (.ref s.heap.objs.size) "set" := ⟨_, hS, rfl⟩
      have hli := F.called_set.init.lookup
      have hbi := F.called_set.init.bind (.ref s.heap.objs.size)
      repeat (any_goals (first | assumption | wp_step))
      refine codeAny_mono (codeAny_call_builtin (R := wants (fun r s2 => r = .none ∧ ∃ h' tk ks, s2 = { s with heap := h', toks := tk } ∧ SetG P w h' s.heap.objs.size ks ∧ (∀ x, x ∈ ks ↔ x ∈ ns) ∧ ks.length ≤ ns.length ∧ ∀ b o, s.heap.get? b = some o → h'.get? b = some o) E)
        F.called_set.init.plain F.entry_set_init (check_set_init_1 hT ?_)) fun r2 s2 hr2 => ?_
      · obtain ⟨ol, hol, hcl, nl, hdl⟩ := hl
        obtain ⟨ocls, odict, odata, oslots⟩ := ol
        simp only at hcl hdl
        subst hcl; subst hdl
        have hol' : (s.heap.push (setObj #[] 0 (newTab w))).get? l = some { cls := .type "list", dict := odict, data := .seq its nl, slots := oslots } := Heap.get?_push_of_some _ hol
        have hsls := F.sub_list_set
        have hslf := F.sub_list_frozenset
        have hne : (Value.type "list" == Value.type "dict") = false := by decide
        have hl1 : (s.heap.push (setObj #[] 0 (newTab w))).IsList l its := ⟨_, hol', rfl, nl, rfl⟩
        unfold Builtin.«set.__init__» noKeywords Builtin.Frozenset.updateFrom
        generalize hPI : pyIter = PI
        wp_walk
        subst hPI
        refine wpAny_pyIter_list hl1 ?_
        refine wpAny_bind (wpAny_runValue ?_)
        have hlS : l < s.heap.objs.size := Heap.lt_size hol
        have hh3 : A.in1.in1.in1.handled = none := by simp [hh]
        have hneI : l ≠ (s.heap.push (setObj #[] 0 (newTab w))).objs.size := by
          rw [Heap.size_push]
          exact Nat.ne_of_lt (Nat.lt_succ_of_lt hlS)
        have hSf : s.heap.objs.size ∉ [(s.heap.push (setObj #[] 0 (newTab w))).objs.size, l] := by
          rw [Heap.size_push]
          simp only [List.mem_cons, List.mem_singleton, List.not_mem_nil, or_false, not_or]
          exact ⟨Nat.ne_of_lt (Nat.lt_succ_self _), Nat.ne_of_gt hlS⟩
        have hval : ∀ (i : Nat) (v : Value), its[i]? = some v → ∃ t, v = .int ((fun i => ns.getD i 0) i) t := fun i v hv =>
          IntsAre.int_at hi i v (by rw [Array.getElem?_toList]; exact hv)
        refine fill_loop ((Walks.list hh3 _ l hneI its).toS) s.heap.objs.size hSf (fun i => ns.getD i 0) hval hb (its.size - 0) 0 _ [] (by omega) (Nat.zero_le _)
          ⟨⟨_, Heap.get?_push_size _ rfl, rfl, rfl⟩, (hl1.push _)⟩ ?hS0 (Nat.le_refl _) (fun x => ?_) ?hR
        case hS0 => exact ⟨#[], 0, newTab w, Heap.get?_push_of_some _ hS, newTab_ok⟩
        case hR =>
          intro s' ks hm hS' len mem
          obtain ⟨h', g', d', tk', os'⟩ := s'
          have eg : g' = s.gens := hm.gens
          have ed : d' = s.drawn := hm.drawn
          have eo : os' = s.os := hm.os
          subst eg; subst ed; subst eo
          show wpAny _ _ _ _ _ _
          refine wpAny_pure ?_
          show wpAny _ _ (ret Value.none) _ _ _
          refine wpAny_pure ⟨rfl, h', tk', ks, rfl, hS', fun x => ?_, by rw [← hsz]; exact len, fun b o e => ?_⟩
          · rw [mem x, hsz]
            exact getD_any ns x
          · have hb0 : b < s.heap.objs.size := Heap.lt_size e
            have hb1 : b ≠ s.heap.objs.size := Nat.ne_of_lt hb0
            have hb2 : b ≠ (s.heap.push (setObj #[] 0 (newTab w))).objs.size := by
              rw [Heap.size_push]
              exact Nat.ne_of_lt (Nat.lt_succ_of_lt hb0)
            exact hm.heap b o (by simp only [List.mem_cons, List.mem_singleton, List.not_mem_nil, or_false, not_or]; exact ⟨hb1, hb2⟩) (Heap.get?_push_of_some _ (Heap.get?_push_of_some _ e))
        · constructor
          · intro z
            cases z
          · rintro ⟨j, hj, _⟩
            exact absurd hj (Nat.not_lt_zero _)
      · cases r2 with
        | error e => exact hr2
        | ok fl2 =>
          cases fl2 with
          | ret r =>
            obtain ⟨rfl, h', tk, ks, rfl, hS', m1, m2, hk'⟩ := hr2
            repeat (any_goals (first | assumption | wp_step))
            exact h _ _ ks hS' m1 m2 hk'
          | _ => exact hr2.elim
    | _ => exact hr.elim
end
end SW
end
section
set_option Elab.async false
set_option linter.all false
set_option maxRecDepth 100000
namespace SW
open PySem PySem.Spec PyProof.Rows
theorem slot_si_next : Slot "set_iterator" "__next__" "set_iterator.__next__" :=
  .of (owner := "set_iterator") (n := "__next__") (by rw [typeLookup_type, builtinLookup_eq_fast]; kernel_rfl) (by decide +kernel) (by decide +kernel) (by decide +kernel)
    (by first | exact .inl (by decide +kernel) | exact .inr (by decide +kernel)) (by rw [isSubtype_type]; kernel_rfl)
theorem entry_si_next : entryFor table "set_iterator.__next__" = some Builtin.«set_iterator.__next__» := entryFor_of_tree (by kernel_rfl)
theorem slot_si_iter : Slot "set_iterator" "__iter__" "set_iterator.__iter__" :=
  .of (owner := "set_iterator") (n := "__iter__") (by rw [typeLookup_type, builtinLookup_eq_fast]; kernel_rfl) (by decide +kernel) (by decide +kernel) (by decide +kernel)
    (by first | exact .inl (by decide +kernel) | exact .inr (by decide +kernel)) (by rw [isSubtype_type]; kernel_rfl)
theorem entry_set_iter : entryFor table "set.__iter__" = some Builtin.«frozenset.__iter__» :=
  entryFor_alias (id' := "frozenset.__iter__") (by kernel_rfl) rfl (by decide +kernel) (by kernel_rfl)
theorem entry_si_iter : entryFor table "set_iterator.__iter__" = some Builtin.«dict_keyiterator.__iter__» :=
  entryFor_alias (id' := "dict_keyiterator.__iter__") (by kernel_rfl) (by first | rfl | decide +kernel | (unfold String.splitOn; simp +decide [String.splitOnAux])) (by decide +kernel) (by kernel_rfl)
theorem owner_si : Manifest.owners.lookup (String.ofList ['r', 'o', 't', 'a', 'r', 'e', 't', 'i', '_', 't', 'e', 's'].reverse) = some Manifest.sig_set_iterator := by kernel_rfl
theorem args_si_next (a : Value) : argsOk "set_iterator.__next__" ⟨[a], []⟩ := by
  unfold argsOk
  rw [signature?_of (id := "set_iterator.__next__") (n := ['_', '_', 't', 'x', 'e', 'n', '_', '_']) (o := ['r', 'o', 't', 'a', 'r', 'e', 't', 'i', '_', 't', 'e', 's']) (by kernel_rfl) owner_si]
  kernel_rfl
theorem args_si_iter (a : Value) : argsOk "set_iterator.__iter__" ⟨[a], []⟩ := by
  unfold argsOk
  rw [signature?_of (id := "set_iterator.__iter__") (n := ['_', '_', 'r', 'e', 't', 'i', '_', '_']) (o := ['r', 'o', 't', 'a', 'r', 'e', 't', 'i', '_', 't', 'e', 's']) (by kernel_rfl) owner_si]
  kernel_rfl
end SW
end
section
set_option Elab.async false
set_option linter.all false
set_option maxRecDepth 100000
namespace SW
open PySem PySem.Spec PyProof.Rows
theorem eraseIdx_perm {α : Type} : ∀ (l : List α) (i : Nat) (x : α), l[i]? = some x → (x :: l.eraseIdx i).Perm l
  | [], i, x, h => by simp at h
  | a :: l, 0, x, h => by
    have e : a = x := Option.some.inj h
    subst e
    exact .refl _
  | a :: l, i + 1, x, h => by
    have ih := eraseIdx_perm l i x h
    exact (List.Perm.swap a x _).trans (ih.cons a)
section
variable {M : Model} {A : Around} {E : Value → Shared → Prop} {s : Shared}
theorem wpAny_choose {src : Source} {n : Nat} {Q : Nat → Shared → Prop} (hn : n ≠ 0) (h : ∀ i d', i < n → Q i { s with drawn := d' }) : wpAny M A (choose src n) Q E s := fun _ _ _ =>
  ⟨hn, h _ _ (Nat.mod_lt _ (Nat.pos_of_ne_zero hn))⟩
theorem wpAny_drawOrder {α : Type} : ∀ (n : Nat) (xs : List α) {s : Shared} {Q : List α → Shared → Prop}, xs.length ≤ n → (∀ ys d', ys.Perm xs → Q ys { s with drawn := d' }) → wpAny M A (drawOrder n xs) Q E s
  | 0, xs, s, Q, hl, h => by
    have e : xs = [] := List.eq_nil_of_length_eq_zero (by omega)
    subst e
    exact wpAny_pure (h [] s.drawn (.refl _))
  | n + 1, [], s, Q, hl, h => by
    exact wpAny_pure (h [] s.drawn (.refl _))
  | n + 1, x :: xs, s, Q, hl, h => by
    unfold drawOrder
    refine wpAny_bind (wpAny_choose (by simp) fun i d' hi => ?_)
    have e : (x :: xs)[i]? = some (x :: xs)[i] := List.getElem?_eq_getElem hi
    rw [e]
    dsimp only
    have hl' : ((x :: xs).eraseIdx i).length ≤ n := by
      rw [List.length_eraseIdx]
      split <;> omega
    refine wpAny_bind (wpAny_drawOrder n _ hl' fun ys d2 p => wpAny_pure (h _ d2 ?_))
    exact (p.cons _).trans (eraseIdx_perm _ _ _ e)
end
theorem pick_go {α : Type} (next : Nat → Nat) : ∀ (f k : Nat) (left : List α) (out : Array α), left.length ≤ f → (pickOrder.go next f k left out).toList.Perm (out.toList ++ left)
  | 0, k, left, out, h => by
    have e : left = [] := List.eq_nil_of_length_eq_zero (by omega)
    subst e
    simp [pickOrder.go]
  | f + 1, k, left, out, h => by
    unfold pickOrder.go
    cases left with
    | nil => simp
    | cons a r =>
      have hi : next k % (a :: r).length < (a :: r).length := Nat.mod_lt _ (by simp)
      have e : (a :: r)[next k % (a :: r).length]? = some (a :: r)[next k % (a :: r).length] := List.getElem?_eq_getElem hi
      rw [e]
      dsimp only
      have hl : ((a :: r).eraseIdx (next k % (a :: r).length)).length ≤ f := by
        rw [List.length_eraseIdx]
        split <;> omega
      refine (pick_go next f (k + 1) _ _ hl).trans ?_
      rw [Array.toList_push, List.append_assoc]
      exact List.Perm.append_left _ (eraseIdx_perm _ _ _ e)
theorem pick_perm {α : Type} (next : Nat → Nat) (xs : Array α) : (pickOrder next xs).toList.Perm xs.toList := by
  have h := pick_go next xs.size 0 xs.toList #[] (by simp)
  exact h
inductive Mode where
  | text
  | slots
  | places (tp : Addr) (pl : List Nat)
noncomputable abbrev itObj (first : Value) (i : Nat) (a : Addr) (n ep : Nat) : Obj := { cls := .type "set_iterator", data := .fields #[first, .int i 0, .ref a, .int n 0, .int ep 0] }
noncomputable def tupObj (pl : List Nat) : Obj := { cls := .type "tuple", data := .seq (pl.map fun (j : Nat) => rawInt j).toArray }
noncomputable def FirstOk (w : World) (es : Array (Int × Value)) (t : SetTable) (m : Mode) (i : Nat) (first : Value) (h : Heap) : Prop := match m with
  | .text => byText w = true ∧ ∃ z : Nat, first = .int z 0
  | .slots => byText w = false ∧ (!t.plain && decide (es.size > 1)) = false ∧ ∃ z : Nat, first = .int z 0 ∧ SetTable.below t.place z = i
  | .places tp pl => first = .ref tp ∧ h.get? tp = some (tupObj pl) ∧ pl.Perm (List.range es.size)
noncomputable def ordOf (w : World) (a : Addr) (ep : Nat) (es : Array (Int × Value)) : Mode → List (Int × Value)
  | .text => (pickOrder (w.params.setOrder a ep) es).toList
  | .slots => es.toList
  | .places _ pl => pl.filterMap fun j => es[j]?
theorem ord_perm {w : World} {a : Addr} {ep : Nat} {es : Array (Int × Value)} {t : SetTable} {m : Mode} {i : Nat} {first : Value} {h : Heap} (F : FirstOk w es t m i first h) : (ordOf w a ep es m).Perm es.toList := by
  cases m with
  | text => exact pick_perm _ _
  | slots => exact .refl _
  | places tp pl =>
    obtain ⟨_, _, p⟩ := F
    have q := p.filterMap fun j => es[j]?
    rw [filterMap_getElem?_range] at q
    exact q
theorem ord_places {es : Array (Int × Value)} : ∀ {pl : List Nat}, (∀ j ∈ pl, j < es.size) → ∀ (i : Nat), (pl.filterMap fun j => es[j]?)[i]? = (pl[i]?).bind fun j => es[j]?
  | [], _, i => by simp
  | j :: pl, hj, i => by
    have hjs : j < es.size := hj j (by simp)
    have e : es[j]? = some es[j] := Array.getElem?_eq_getElem hjs
    have ih := ord_places (es := es) (pl := pl) fun k hk => hj k (by simp [hk])
    rw [List.filterMap_cons, e]
    dsimp only
    cases i with
    | zero => simp [e]
    | succ i =>
      rw [List.getElem?_cons_succ, List.getElem?_cons_succ]
      exact ih i
structure ItAt (P : Program) (w : World) (it a : Addr) (ks : List Int) (es : Array (Int × Value)) (ep : Nat) (t : SetTable) (m : Mode) (i : Nat) (h : Heap) : Prop where
  set : h.get? a = some (setObj es ep t)
  d : SetD P w ks es t
  itr : ∃ first, h.get? it = some (itObj first i a es.size ep) ∧ FirstOk w es t m i first h
section
variable {P : Program} {w : World} {A : Around} {E : Value → Shared → Prop} {s : Shared} {it a : Addr} {ks : List Int} {es : Array (Int × Value)} {ep : Nat} {t : SetTable} {m : Mode} {i : Nat}
theorem ItAt.typeIs (I : ItAt P w it a ks es ep t m i s.heap) : s.TypeIs (.ref it) "set_iterator" := let ⟨_, e, _⟩ := I.itr; ⟨_, e, rfl⟩
theorem wpAny_byText {Q : Bool → Shared → Prop} (h : Q (byText w) s) : wpAny (model P w) A setsByText Q E s := by
  unfold setsByText
  exact wpAny_bind (wpAny_askSetting (wpAny_pure h))
theorem next_slot {slot : Nat} {Q : Option (Value × Nat) → Shared → Prop} (ho : s.heap.get? a = some (setObj es ep t)) (D : SetD P w ks es t)
    (hm : (byText w = true ∧ Q (((ordOf w a ep es .text)[i]?).map fun e => (e.2, slot)) s) ∨
      (byText w = false ∧ (!t.plain && decide (es.size > 1)) = false ∧ Q (match es[SetTable.below t.place slot]?, t.place[SetTable.below t.place slot]? with
        | some (_, x), some j => some (x, j + 1)
        | _, _ => none) s)) : wpAny (model P w) A (setNext a slot i ep) Q E s := by
  unfold setNext
  refine wpAny_bind (wpAny_setState_of ho rfl D.fit ?_)
  dsimp only
  refine wpAny_bind (wpAny_byText ?_)
  rcases hm with ⟨h1, q⟩ | ⟨h1, h2, q⟩
  · rw [h1]
    simp only [↓reduceIte, bne_self_eq_false, Bool.false_eq_true]
    unfold setWalk
    refine wpAny_bind (wpAny_bind (wpAny_setState_of ho rfl D.fit ?_))
    dsimp only
    refine wpAny_bind (wpAny_byText ?_)
    rw [h1]
    simp only [↓reduceIte]
    refine wpAny_bind (wpAny_askSetting (wpAny_pure (wpAny_pure ?_)))
    rw [← Array.getElem?_toList]
    exact q
  · have hled : t.led = true := D.led.elim (fun z => absurd (z.symm.trans h1) (by decide)) id
    rw [if_neg (by rw [h1]; exact Bool.false_ne_true)]
    split
    · rename_i z
      exact absurd (h2.symm.trans z) Bool.false_ne_true
    · refine wpAny_bind ?_
      show wpAny _ _ (if (!t.led && !es.isEmpty) = true then _ else _) _ _ _
      rw [hled, if_neg (by simp)]
      exact wpAny_pure (wpAny_pure q)
noncomputable def Mode.apart (m : Mode) (it : Addr) : Prop := match m with
  | .places tp _ => tp ≠ it
  | _ => True
theorem next_item {Q : Option Value → Shared → Prop} {x : Int × Value} (I : ItAt P w it a ks es ep t m i s.heap) (hne : a ≠ it) (hm : m.apart it) (e : (ordOf w a ep es m)[i]? = some x)
    (hQ : ∀ h', ItAt P w it a ks es ep t m (i + 1) h' → Heap.SameBut it s.heap h' → Q (some x.2) { s with heap := h' }) : wpAny (model P w) A (pyNext (.ref it)) Q E s := by
  obtain ⟨first, ho, fo⟩ := I.itr
  have D := I.d
  unfold pyNext
  refine wpAny_bind (wpAny_attempt (wpAny_callSpecial?_slot (name := Str.ofString "__next__") I.typeIs slot_si_next (wpAny_call_entry slot_si_next I.typeIs entry_si_next ?_ (args_si_next _))))
  show wpAny _ _ (fieldsOf (.ref it) >>= _) _ _ s
  refine wpAny_bind (wpAny_fieldsOf ho rfl ?_)
  dsimp only
  refine wpAny_bind (wpAny_setEntries_of I.set rfl D.fit ?_)
  rw [if_neg (by simp)]
  have two : ∀ (z z2 : Nat) (h1 : first = .int z 0), (∀ h' : Heap, h'.get? a = some (setObj es ep t) → FirstOk w es t m (i + 1) (.int z2 0) h') →
      wpAny (model P w) A.in1 (do
          setField (Value.ref it) 0 (rawInt (z2 : Nat))
          setField (Value.ref it) 1 (rawInt ((i : Int) + 1))
          ret x.2) (fun fin s' => ∃ v, fin = Fin.done (Flow.ret v) ∧ wpAny (model P w) A (pure (some v)) Q E s') (fun e s' => wpAny (model P w) A (do
          let __do_lift ← isInstance e (Value.type "StopIteration")
          if __do_lift = true then pure none else throw e) Q E s') s := fun z z2 h1 hf => by
    refine wpAny_bind (wpAny_setField_rec ho (by simp) fun h1 e1 sb1 => ?_)
    refine wpAny_bind (wpAny_setField_rec e1 (by simp) fun h2 e2 sb2 => ?_)
    have sb := sb1.trans sb2
    have ea : h2.get? a = some (setObj es ep t) := by
      rw [sb.2 a hne]
      exact I.set
    refine wpAny_pure ⟨_, rfl, wpAny_pure (hQ h2 ⟨ea, D, .int z2 0, ?_, hf h2 ea⟩ sb)⟩
    rw [e2]
    simp [rawInt]
  cases m with
  | text =>
    obtain ⟨bt, z, rfl⟩ := fo
    dsimp only
    refine wpAny_bind ?_
    rw [Int.toNat_natCast, Int.toNat_natCast, Int.toNat_natCast]
    refine next_slot I.set D (.inl ⟨bt, ?_⟩)
    rw [e]
    dsimp only [Option.map_some]
    exact two z z rfl fun h' _ => ⟨bt, z, rfl⟩
  | slots =>
    obtain ⟨bt, hd, z, rfl, hz⟩ := fo
    dsimp only
    refine wpAny_bind ?_
    rw [Int.toNat_natCast, Int.toNat_natCast, Int.toNat_natCast]
    refine next_slot I.set D (.inr ⟨bt, hd, ?_⟩)
    rw [hz]
    have e1 : es[i]? = some x := by
      rw [← Array.getElem?_toList]
      exact e
    have hi : i < t.place.size := by
      have q := D.fit
      unfold SetTable.fits at q
      rw [Bool.and_eq_true] at q
      rw [eq_of_beq q.1]
      exact (Array.getElem?_eq_some_iff.mp e1).1
    have e2 : t.place[i]? = some t.place[i] := Array.getElem?_eq_getElem hi
    rw [e1, e2]
    dsimp only
    exact two z (t.place[i] + 1) rfl fun h' _ => ⟨bt, hd, _, rfl, below_next D.ok.rise e2⟩
  | places tp pl =>
    obtain ⟨rfl, htp, p⟩ := fo
    dsimp only
    refine wpAny_bind (wpAny_seqItems htp rfl ?_)
    have hj : ∀ j ∈ pl, j < es.size := fun j h => List.mem_range.mp (p.mem_iff.mp h)
    have e' := e
    unfold ordOf at e'
    dsimp only at e'
    rw [ord_places hj i] at e'
    cases hp : pl[i]? with
    | none =>
      rw [hp] at e'
      cases e'
    | some j =>
      rw [hp] at e'
      have e3 : es[j]? = some x := e'
      have e4 : (pl.map fun (j : Nat) => rawInt j).toArray[(i : Int).toNat]? = some (rawInt j) := by
        rw [Int.toNat_natCast, List.getElem?_toArray, List.getElem?_map, hp]
        rfl
      dsimp only
      rw [e4]
      dsimp only [rawInt]
      refine wpAny_bind ?_
      unfold setNextDrawn
      refine wpAny_bind (wpAny_setState_of I.set rfl D.fit ?_)
      dsimp only
      rw [Int.toNat_natCast, Int.toNat_natCast, if_neg (by simp), e3]
      dsimp only
      refine wpAny_pure ?_
      refine wpAny_bind (wpAny_setField_rec ho (by simp) fun h1 e1 sb1 => ?_)
      have ea : h1.get? a = some (setObj es ep t) := by
        rw [sb1.2 a hne]
        exact I.set
      refine wpAny_pure ⟨_, rfl, wpAny_pure (hQ h1 ⟨ea, D, .ref tp, ?_, rfl, ?_, p⟩ sb1)⟩
      · rw [e1]
        simp
      · rw [sb1.2 tp hm]
        exact htp
theorem next_end {Q : Option Value → Shared → Prop} (hh : A.handled = none) (I : ItAt P w it a ks es ep t m i s.heap) (e : i = es.size)
    (hQ : ∀ h', Heap.ExtBut it s.heap h' → Q none { s with heap := h' }) : wpAny (model P w) A (pyNext (.ref it)) Q E s := by
  obtain ⟨first, ho, fo⟩ := I.itr
  have D := I.d
  have e0 : (ordOf w a ep es m)[i]? = none := by
    refine List.getElem?_eq_none ?_
    rw [(ord_perm fo).length_eq, Array.length_toList, e]
    exact Nat.le_refl _
  unfold pyNext
  refine wpAny_bind (wpAny_attempt (wpAny_callSpecial?_slot (name := Str.ofString "__next__") I.typeIs slot_si_next (wpAny_call_entry slot_si_next I.typeIs entry_si_next ?_ (args_si_next _))))
  show wpAny _ _ (fieldsOf (.ref it) >>= _) _ _ s
  refine wpAny_bind (wpAny_fieldsOf ho rfl ?_)
  dsimp only
  refine wpAny_bind (wpAny_setEntries_of I.set rfl D.fit ?_)
  rw [if_neg (by simp)]
  have fin : ∀ h1, Heap.SameBut it s.heap h1 → wpAny (model P w) A.in1 (newExc (Value.type "StopIteration") [] >>= fun z => raiseNew z) (fun fin s' => ∃ v, fin = Fin.done (Flow.ret v) ∧ wpAny (model P w) A (pure (some v)) Q E s') (fun e s' => wpAny (model P w) A (do
          let __do_lift ← isInstance e (Value.type "StopIteration")
          if __do_lift = true then pure none else throw e) Q E s') { s with heap := h1 } := fun h1 sb => by
    refine wpAny_bind ?_
    simp only [newExc, newTuple]
    refine wpAny_bind (wpAny_newObj_type ?_ (by size_fits))
    refine wpAny_bind (m := firstArgMember _ _) (wpAny_of_eq (a := Value.none) (by first | rfl | (simp only [firstArgMember]; rfl)) ?_)
    refine wpAny_newObj_type ?_ (by size_fits)
    simp only [raiseNew]
    refine wpAny_bind (wpAny_handled ?_)
    rw [show A.in1.handled = none from hh]
    refine wpAny_bind (wpAny_pure (wpAny_throw ?_))
    refine wpAny_bind (wpAny_isInstance (T := "StopIteration") (b := true) ⟨_, Heap.get?_push_size _ rfl, rfl⟩ isSubtype_stop ?_)
    exact wpAny_pure (hQ _ ((sb.extBut.push _).push _))
  cases m with
  | text =>
    obtain ⟨bt, z, rfl⟩ := fo
    dsimp only
    refine wpAny_bind ?_
    rw [Int.toNat_natCast, Int.toNat_natCast, Int.toNat_natCast]
    refine next_slot I.set D (.inl ⟨bt, ?_⟩)
    rw [e0]
    dsimp only [Option.map_none]
    exact wpAny_bind (wpAny_setField_rec ho (by simp) fun h1 e1 sb1 => fin h1 sb1)
  | slots =>
    obtain ⟨bt, hd, z, rfl, hz⟩ := fo
    dsimp only
    refine wpAny_bind ?_
    rw [Int.toNat_natCast, Int.toNat_natCast, Int.toNat_natCast]
    refine next_slot I.set D (.inr ⟨bt, hd, ?_⟩)
    rw [hz]
    have e1 : es[i]? = none := by
      rw [← Array.getElem?_toList]
      exact e0
    rw [e1]
    dsimp only
    exact wpAny_bind (wpAny_setField_rec ho (by simp) fun h1 e1 sb1 => fin h1 sb1)
  | places tp pl =>
    obtain ⟨rfl, htp, p⟩ := fo
    dsimp only
    refine wpAny_bind (wpAny_seqItems htp rfl ?_)
    have e4 : (pl.map fun (j : Nat) => rawInt j).toArray[(i : Int).toNat]? = none := by
      rw [Int.toNat_natCast, List.getElem?_toArray]
      refine List.getElem?_eq_none ?_
      rw [List.length_map, p.length_eq, List.length_range, e]
      exact Nat.le_refl _
    dsimp only
    rw [e4]
    dsimp only
    refine wpAny_bind (wpAny_setField_rec ho (by simp) fun h1 e1 sb1 => ?_)
    exact wpAny_bind (wpAny_setField_rec e1 (by simp) fun h2 e2 sb2 => fin h2 (sb1.trans sb2))
end
end SW
end
section
set_option Elab.async false
set_option linter.all false
set_option maxRecDepth 100000
namespace SW
open PySem PySem.Spec PyProof.Rows
section
variable {P : Program} {w : World} {A : Around} {E : Value → Shared → Prop} {s : Shared} {it a : Addr} {ks : List Int} {es : Array (Int × Value)} {ep : Nat} {t : SetTable} {m : Mode} {i : Nat}
noncomputable def Mode.adr : Mode → List Addr
  | .places tp _ => [tp]
  | _ => []
theorem FirstOk.keep {first : Value} {h h' : Heap} (f : FirstOk w es t m i first h) (k : ∀ b ∈ m.adr, ∀ o, h.get? b = some o → h'.get? b = some o) : FirstOk w es t m i first h' := by
  cases m with
  | text => exact f
  | slots => exact f
  | places tp pl =>
    obtain ⟨e1, e2, e3⟩ := f
    exact ⟨e1, k tp (by simp [Mode.adr]) _ e2, e3⟩
theorem walks (hh : A.handled = none) (hne : a ≠ it) (hm : m.apart it) : Walks P w A it (it :: a :: m.adr) [it] es.size (fun i v => ((ordOf w a ep es m).map (·.2))[i]? = some v) (fun i h => ItAt P w it a ks es ep t m i h) where
  sub := fun b hb => by
    simp at hb
    simp [hb]
  frame := fun i h h' st hk => by
    obtain ⟨first, e, f⟩ := st.itr
    exact ⟨hk a (by simp) _ st.set, st.d, first, hk it (by simp) _ e, f.keep fun b hb o q => hk b (by simp [hb]) o q⟩
  item := fun i s Q E hi st hQ => by
    obtain ⟨first, e, f⟩ := st.itr
    have hl : i < (ordOf w a ep es m).length := by
      rw [(ord_perm f).length_eq, Array.length_toList]
      exact hi
    refine next_item st hne hm (List.getElem?_eq_getElem hl) fun h' st' sb => ?_
    refine hQ _ h' s.toks ?_ st' fun b o hb q => sb.extBut b o (fun z => hb (by simp [z])) q
    rw [List.getElem?_map, List.getElem?_eq_getElem hl]
    rfl
  done := fun s Q E st hQ => next_end hh st rfl fun h' he => hQ h' s.toks fun b o hb q => he b o (fun z => hb (by simp [z])) q
  self := fun i s Q E st hQ => by
    refine wpAny_pyIter_slot st.typeIs slot_si_iter (wpAny_call_entry slot_si_iter st.typeIs entry_si_iter ?_ (args_si_iter _))
    show wpAny _ _ (ret (.ref it)) _ _ s
    exact wpAny_pure ⟨_, rfl, "set_iterator", _, st.typeIs, slot_si_next.lookup, hQ⟩
theorem iter_set {Q : Value → Shared → Prop} (ho : s.heap.get? a = some (setObj es ep t)) (D : SetD P w ks es t)
    (hQ : ∀ (m : Mode) (it : Addr) (h' : Heap) (d' : Drawn), ItAt P w it a ks es ep t m 0 h' → a ≠ it → m.apart it → (∀ b ∈ it :: a :: m.adr, b < h'.objs.size) → s.heap.objs.size ≤ it → (∀ b ∈ m.adr, s.heap.objs.size ≤ b) →
      (∀ b o, s.heap.get? b = some o → h'.get? b = some o) → Q (.ref it) { s with heap := h', drawn := d' }) : wpAny (model P w) A (pyIter (.ref a)) Q E s := by
  have hT : s.TypeIs (.ref a) "set" := ⟨_, ho, rfl⟩
  have ha : a < s.heap.objs.size := Heap.lt_size ho
  have hle : es.size ≤ sizeLine := fits_of_scanBound D.few
  refine wpAny_pyIter_slot hT F.slot_set_iter (wpAny_call_entry F.slot_set_iter hT entry_set_iter ?_ (F.args_set_iter_1 _))
  unfold Builtin.«frozenset.__iter__» Builtin.Frozenset.slot0 slotArgs
  simp only [List.isEmpty_nil, Bool.not_true, Bool.false_eq_true, ↓reduceIte, bind_assoc, List.length_nil, bne_self_eq_false]
  unfold Builtin.Frozenset.addrOf Builtin.Frozenset.sizeOf
  refine wpAny_bind (wpAny_pure ?_)
  try dsimp only
  refine wpAny_bind (wpAny_pure ?_)
  refine wpAny_bind (wpAny_bind (wpAny_setEntries_of ho rfl D.fit (wpAny_pure ?_)))
  refine wpAny_bind ?_
  unfold setDrawn
  refine wpAny_bind (wpAny_setState_of ho rfl D.fit ?_)
  dsimp only
  refine wpAny_bind (wpAny_byText (wpAny_pure ?_))
  have plainIt : ∀ (m : Mode), m.adr = [] → (∀ x, m.apart x) → (∀ h', FirstOk w es t m 0 (.int 0 0) h') → wpAny (model P w) A.in1 (do
      let first ← pure (rawInt 0)
      let e ← setEpoch a
      let r ← newFields "set_iterator" [first, rawInt 0, Value.ref a, rawInt (es.size : Nat), rawInt (e : Nat)]
      ret r) (fun fin s' => ∃ v, fin = Fin.done (Flow.ret v) ∧ ∃ T' r, s'.TypeIs v T' ∧ typeLookup (Value.type T') (Str.ofString "__next__") = pure (some r) ∧ Q v s') E s := fun m e1 e2 e3 => by
    refine wpAny_bind (wpAny_pure (wpAny_bind (wpAny_setEpoch_of ho rfl D.fit ?_)))
    refine wpAny_bind (wpAny_newObj_type (wpAny_pure ⟨_, rfl, "set_iterator", _, ⟨_, Heap.get?_push_size _ rfl, rfl⟩, slot_si_next.lookup, ?_⟩))
    have e4 : s = { s with drawn := s.drawn } := by cases s; rfl
    refine hQ m s.heap.objs.size _ s.drawn ⟨Heap.get?_push_of_some _ ho, D, .int 0 0, Heap.get?_push_size _ rfl, e3 _⟩ (Nat.ne_of_lt ha) (e2 _) (fun b hb => ?_) (Nat.le_refl _) (fun b hb => ?_) fun b o q => Heap.get?_push_of_some _ q
    · rw [Heap.size_push]
      rw [e1] at hb
      simp at hb
      rcases hb with rfl | rfl
      · exact Nat.lt_succ_self _
      · exact Nat.lt_succ_of_lt ha
    · rw [e1] at hb
      cases hb
  split
  · refine wpAny_bind (wpAny_drawOrder _ _ (by simp) fun pl d' p => ?_)
    have hpl : pl.length = es.size := by rw [p.length_eq, List.length_range]
    refine wpAny_bind (wpAny_newObj_type ?_ (by
      show (List.map (fun i => rawInt (i : Nat)) pl).toArray.size ≤ _
      rw [List.size_toArray, List.length_map, hpl]
      exact hle))
    refine wpAny_bind (wpAny_setEpoch_of (Heap.get?_push_of_some _ ho) rfl D.fit ?_)
    refine wpAny_bind (wpAny_newObj_type (wpAny_pure ⟨_, rfl, "set_iterator", _, ⟨_, Heap.get?_push_size _ rfl, rfl⟩, slot_si_next.lookup, ?_⟩))
    refine hQ (.places s.heap.objs.size pl) _ _ d' ⟨Heap.get?_push_of_some _ (Heap.get?_push_of_some _ ho), D, .ref s.heap.objs.size, Heap.get?_push_size _ rfl, rfl, Heap.get?_push_of_some _ (Heap.get?_push_size _ rfl), p⟩ ?_ ?_ (fun b hb => ?_) ?_ (fun b hb => ?_) fun b o q => Heap.get?_push_of_some _ (Heap.get?_push_of_some _ q)
    · rw [Heap.size_push]
      exact Nat.ne_of_lt (Nat.lt_succ_of_lt ha)
    · show s.heap.objs.size ≠ _
      rw [Heap.size_push]
      exact Nat.ne_of_lt (Nat.lt_succ_self _)
    · rw [Heap.size_push, Heap.size_push]
      rw [Heap.size_push] at hb
      simp [Mode.adr] at hb
      rcases hb with rfl | rfl | rfl
      · exact Nat.lt_succ_self _
      · exact Nat.lt_succ_of_lt (Nat.lt_succ_of_lt ha)
      · exact Nat.lt_succ_of_lt (Nat.lt_succ_self _)
    · rw [Heap.size_push]
      exact Nat.le_succ _
    · simp [Mode.adr] at hb
      subst hb
      exact Nat.le_refl _
  · rename_i z
    cases bt : byText w with
    | true => exact plainIt .text rfl (fun _ => trivial) fun h' => ⟨bt, 0, rfl⟩
    | false =>
      refine plainIt .slots rfl (fun _ => trivial) fun h' => ⟨bt, ?_, 0, rfl, below_zero D.ok.rise⟩
      rw [bt] at z
      exact Bool.eq_false_iff.mpr z
theorem wp_pos {α : Type} {M : Model} {c : Prop} [Decidable c] {x y : Sem α} {Q : α → Shared → Prop} (hc : c) (h : wpAny M A x Q E s) : wpAny M A (if c then x else y) Q E s := by
  rw [if_pos hc]
  exact h
theorem sub_set_set : isSubtype (.type "set") (.type "set") = pure true := sub_set_self
theorem collect_set {Q : List Value → Shared → Prop} (hh : A.handled = none) (ho : s.heap.get? a = some (setObj es ep t)) (D : SetD P w ks es t)
    (hQ : ∀ (vs : List Value) (h' : Heap) (d' : Drawn) (tk : Nat), vs.Perm (es.toList.map (·.2)) → s.heap.objs.size ≤ h'.objs.size → (∀ b o, s.heap.get? b = some o → h'.get? b = some o) → Q vs { s with heap := h', drawn := d', toks := tk }) : wpAny (model P w) A (collect (.ref a)) Q E s := by
  have hle : es.size ≤ sizeLine := fits_of_scanBound D.few
  have ha : a < s.heap.objs.size := Heap.lt_size ho
  unfold collect
  refine wpAny_bind (wpAny_runValue (codeAny_builtin F.entry_proto_collect ?_))
  rw [Around.under_plainId F.plain_proto_collect _]
  show wpAny _ A.in1 (newList [] >>= fun l => again (.builtin "list.__iadd__" ⟨[l, .ref a], []⟩)) _ _ s
  refine wpAny_bind (wpAny_newObj_type ?_)
  refine wpAny_pure ⟨plainId_quiet F.plain_list_iadd _, codeAny_builtin F.entry_list_iadd ?_⟩
  rw [Around.under_plainId F.plain_list_iadd _]
  show wpAny _ A.in1 (Builtin.List.listExtendWith (.ref s.heap.objs.size) (.ref a) (.ref s.heap.objs.size)) _ _ _
  unfold Builtin.List.listExtendWith
  have ho1 := Heap.get?_push_of_some { cls := .type "list", data := .seq ([] : List Value).toArray } ho
  have hT1 : Shared.TypeIs { s with heap := s.heap.push { cls := .type "list", data := .seq ([] : List Value).toArray } } (.ref a) "set" := ⟨_, ho1, rfl⟩
  refine wpAny_bind (wpAny_typeOf hT1 ?_)
  have h1 : Builtin.List.listSameRef (.ref s.heap.objs.size) (.ref a) = false := by simp [Builtin.List.listSameRef, Nat.ne_of_gt ha]
  have h2 : (Value.type "set" == Value.type "list") = false := by decide
  have h3 : (Value.type "set" == Value.type "tuple") = false := by decide
  simp only [h1, h2, h3, Bool.or_false, Bool.false_eq_true, if_false]
  refine wpAny_bind (iter_set ho1 D fun m it h2 d2 I hne hm lt ge gem k2 => ?_)
  refine wpAny_bind (wpAny_holding ?_)
  unfold Builtin.List.listLengthHint
  have hT2 : Shared.TypeIs { s with heap := h2, drawn := d2 } (.ref a) "set" := ⟨_, I.set, rfl⟩
  refine wpAny_bind (wpAny_specialOf hT2 F.slot_set_len.lookup ?_)
  have hs : splitId "set.__len__" = some ("set", "__len__") := by decide +kernel
  dsimp only
  rw [hs]
  dsimp only
  refine wpAny_bind (wpAny_isInstance hT2 sub_set_set ?_)
  rw [if_neg (show ¬ ((!true) = true) from by decide)]
  refine wp_pos (by decide +kernel) ?_
  refine wpAny_bind (wpAny_typeOf hT2 (wpAny_pure ?_))
  refine wp_pos (by decide +kernel) ?_
  refine wpAny_bind (wpAny_rule ?_)
  have hS1 : (s.heap.push { cls := .type "list", data := .seq ([] : List Value).toArray }).get? s.heap.objs.size = some { cls := .type "list", data := .seq ([] : List Value).toArray } := Heap.get?_push_size _ rfl
  have hS2 := k2 _ _ hS1
  refine wpAny_bind ?_
  show wpAny _ A.in1 (updateSeq s.heap.objs.size (·.push .none) >>= fun _ => updateSeq s.heap.objs.size (·.pop)) _ _ _
  refine wpAny_bind (wpAny_updateSeq hS2 rfl ?_)
  have hS3 := Heap.get?_update_self (Obj.mapSeq (·.push Value.none)) hS2 rfl
  refine wpAny_updateSeq hS3 rfl ?_
  have hS4 := Heap.get?_update_self (Obj.mapSeq (·.pop)) hS3 rfl
  have hsz : (s.heap.push { cls := .type "list", data := .seq ([] : List Value).toArray }).objs.size = s.heap.objs.size + 1 := Heap.size_push ..
  have hf : s.heap.objs.size ∉ it :: a :: m.adr := fun z => by
    simp only [List.mem_cons] at z
    rcases z with z | z | z
    · rw [← z] at ge
      exact absurd ge (by rw [hsz]; omega)
    · rw [z] at ha
      exact absurd ha (Nat.lt_irrefl _)
    · exact absurd (gem _ z) (by rw [hsz]; omega)
  have oth : ∀ b o, b ≠ s.heap.objs.size → h2.get? b = some o → ((h2.update s.heap.objs.size (Obj.mapSeq (·.push Value.none))).update s.heap.objs.size (Obj.mapSeq (·.pop))).get? b = some o := fun b o hb e =>
    (Heap.get?_update_other _ _ (Ne.symm hb)).trans ((Heap.get?_update_other _ _ (Ne.symm hb)).trans e)
  have W := walks (P := P) (w := w) (ks := ks) (ep := ep) (t := t) (es := es) (A := A.in1) (by simp [hh]) hne hm
  have I4 := W.frame 0 _ _ I fun b hb o e => oth b o (fun z => hf (z ▸ hb)) e
  refine wpAny_pure ⟨plainId_quiet F.plain_extend_loop _, codeAny_extend_loopS (A := A) W.toS hle _ hf _ es.size 0 _ _ _ rfl (Nat.zero_le _) I4 hS4 (ItemsOf.nil _) fun s' acc c hmv hS' hacc => ?_⟩
  obtain ⟨first, _, fo⟩ := I.itr
  have op := ord_perm (a := a) (ep := ep) fo
  have el : acc.toList = (ordOf w a ep es m).map (·.2) := by
    refine List.ext_getElem? fun j => ?_
    rw [Array.getElem?_toList]
    by_cases hj : j < acc.size
    · have e1 : acc[j]? = some acc[j] := Array.getElem?_eq_getElem hj
      rw [hacc.2 j _ e1, e1]
    · rw [Array.getElem?_eq_none (Nat.le_of_not_lt hj), List.getElem?_eq_none]
      rw [List.length_map, op.length_eq, Array.length_toList, ← hacc.1]
      exact Nat.le_of_not_lt hj
  have pm : acc.toList.Perm (es.toList.map (·.2)) := by
    rw [el]
    exact op.map _
  obtain ⟨h', g', d', tk', os'⟩ := s'
  have eg : g' = s.gens := hmv.gens
  have ed : d' = d2 := hmv.drawn
  have eo : os' = s.os := hmv.os
  subst eg ed eo
  show wpAny _ A (load s.heap.objs.size >>= _) _ _ _
  refine wpAny_bind (wpAny_load hS' (wpAny_pure (hQ _ h' d' tk' pm (Nat.le_of_lt (Heap.lt_size hS')) fun b o e => ?_)))
  have hb : b < s.heap.objs.size := Heap.lt_size e
  refine hmv.heap b o (fun z => ?_) (oth b o (Nat.ne_of_lt hb) (k2 b o (Heap.get?_push_of_some _ e)))
  simp only [List.mem_cons, List.not_mem_nil, or_false] at z
  rcases z with z | z
  · exact absurd hb (by rw [z]; exact Nat.lt_irrefl _)
  · have ge' : s.heap.objs.size + 1 ≤ it := by
      rw [← hsz]
      exact ge
    rw [z] at hb
    exact absurd (Nat.lt_of_lt_of_le hb (Nat.le_of_succ_le ge')) (Nat.lt_irrefl _)
theorem sorted_set {Q : Value → Shared → Prop} (hh : A.handled = none) (g : SetG P w s.heap a ks) (h64 : ks.length < 64)
    (hQ : ∀ (ns : List Int) (vs : List Value) (D : Addr) (ep : Nat) (h' : Heap) (d' : Drawn) (tk : Nat), ns.Perm ks → ns.Pairwise (· ≤ ·) → IntsAre vs ns → s.heap.objs.size ≤ D → h'.get? D = some (seqObj "list" vs.toArray ep) → (∀ b o, s.heap.get? b = some o → h'.get? b = some o) →
      Q (.ref D) { s with heap := h', drawn := d', toks := tk }) : wpAny (model P w) A (call (.builtin "sorted") [.ref a]) Q E s := by
  obtain ⟨es, ep, t, ho, D⟩ := g
  refine Calls.call_function_entry kind_sorted plain_sorted entry_sorted (args_sorted1 _) ?_
  unfold Builtin.«sorted»
  refine wpAny_bind (m := checkCount "sorted" 1 1 _) (wpAny_pure ?_)
  refine wpAny_bind (collect_set (by simp [hh]) ho D fun vs h' d' tk pm hle kp => ?_)
  obtain ⟨ns0, p0, i0⟩ := ints_perm pm D.ints
  have hl : vs.length < 64 := by
    rw [IntsAre.length i0, p0.length_eq]
    exact h64
  refine wpAny_bind (wpAny_newList ?_ (by rw [sizeLine_eq]; omega))
  have hoL : (h'.push (seqObj "list" vs.toArray 0)).get? h'.objs.size = some (seqObj "list" vs.toArray 0) := Heap.get?_push_size _ rfl
  refine wpAny_bind (wpAny_holding (wpAny_call_entry slot_list_sort ⟨_, hoL, rfl⟩ entry_list_sort (list_sort_tree hoL i0 hl fun out ns a1 a2 a3 => ⟨_, rfl, ?_⟩) (args_list_sort _)))
  obtain ⟨ep2, e2⟩ := sortedHeap_at (out := out) hoL
  refine wpAny_pure ⟨_, rfl, hQ ns out.toList _ ep2 _ d' tk (a2.trans p0) a3 a1 hle (by simpa using e2) fun b o e => ?_⟩
  have hb : b < h'.objs.size := Heap.lt_size (kp b o e)
  rw [sortedHeap_old (Nat.ne_of_lt hb) (by rw [size_push']; exact Nat.lt_succ_of_lt hb)]
  exact Heap.get?_push_of_some _ (kp b o e)
end
end SW
end
section
set_option Elab.async false
set_option linter.all false
set_option maxRecDepth 100000
namespace L2
open PySem PySem.Spec PyProof.Rows
noncomputable def setO (P : Program) (w : World) (a : Addr) (ks : List Int) : HO := .ext fun h => SW.SetG P w h a ks
theorem setO_ok {P : Program} {w : World} {H : Hp} {h : Heap} {a : Addr} {ks : List Int} (g : SW.SetG P w h a ks) : ObjOk P w H h a (setO P w a ks) :=
  ⟨g, let ⟨_, _, _, e, _⟩ := g; ⟨_, e⟩, fun _ _ g k => g.keep k⟩
section
variable {X : Cx} {pins : List (Addr × Obj)} {σ : St} {H : Hp} {s : Shared} {h' : Heap}
theorem Inv.laidD {a : Addr} {o : HO} {t' : Nat} {d' : Drawn} (I : Inv X pins σ H s) (k : ∀ b u, s.heap.get? b = some u → h'.get? b = some u) (hp : s.heap.objs.size ≤ a) (new : ObjOk X.prog X.w (upd H a o) h' a o) :
    Inv X pins σ (upd H a o) { s with heap := h', drawn := d', toks := t' } :=
  I.call (g' := s.gens) (d' := d') (ch := []) (Un.laid k hp (I.hok.fresh hp)) (I.hok.laid k hp new) I.bare fun b z => nomatch z
end
section
variable {X : Cx}
noncomputable def rSet (X : Cx) : List V → Hp → VK → Prop := fun vs H Q => ∃ (a : Addr) (ns : List Int), vs = [V.ref a] ∧ SqL X.K H a (ns.map V.int) ∧ ns.length < 4000 ∧
  ∀ (p : Addr) (ks : List Int), H p = none → ks.Nodup → (∀ x, x ∈ ks ↔ x ∈ ns) → Q (.ref p) (upd H p (setO X.prog X.w p ks))
theorem cr_set (hc : X.calm = true) : CallR X (.type "set") (rSet X) := by
  intro pins s σ H vs us Q I r h
  obtain ⟨a, ns, rfl, hs, hlen, q⟩ := h
  obtain ⟨its, rv, hl, _⟩ := I.list hs
  rw [Vals.ref1 r]
  have hi := rv.ints
  have hsz : its.toArray.size + 1 < scanBound := by
    rw [List.size_toArray, hi.length]
    show _ < 4096
    omega
  refine SW.call_set (I.ok.hd hc) hl.isList (by simpa using hi) hsz fun h' tk ks g m1 m2 kp => ?_
  have nd : ks.Nodup := let ⟨_, _, _, _, d⟩ := g; d.nd
  exact ⟨.ref _, upd H s.heap.objs.size (setO X.prog X.w s.heap.objs.size ks), I.laid kp (Nat.le_refl _) (setO_ok g), rfl, q _ ks (I.hok.fresh (Nat.le_refl _)) nd m1⟩
theorem Inv.setG {pins : List (Addr × Obj)} {s : Shared} {σ : St} {H : Hp} {a : Addr} {ks : List Int} (I : Inv X pins σ H s) (e : H a = some (setO X.prog X.w a ks)) : SW.SetG X.prog X.w s.heap a ks := (I.hok a _ e).1
noncomputable def rLenSet (X : Cx) : List V → Hp → VK → Prop := fun vs H Q => ∃ (a : Addr) (ks : List Int), vs = [V.ref a] ∧ H a = some (setO X.prog X.w a ks) ∧ Q (.int ks.length) H
noncomputable def rSortedSet (X : Cx) : List V → Hp → VK → Prop := fun vs H Q => ∃ (a : Addr) (ks : List Int), vs = [V.ref a] ∧ H a = some (setO X.prog X.w a ks) ∧ ks.length < 64 ∧
  ∀ (ns : List Int) (p : Addr), ns.Perm ks → ns.Pairwise (· ≤ ·) → H p = none → Q (.ref p) (upd H p (.lst (ns.map V.int)))
theorem cr_sortedSet (hc : X.calm = true) : CallR X (.builtin "sorted") (rSortedSet X) := by
  intro pins s σ H vs us Q I r h
  obtain ⟨a, ks, rfl, hs, h64, q⟩ := h
  rw [Vals.ref1 r]
  refine SW.sorted_set (I.ok.hd hc) (I.setG hs) h64 fun ns vs D ep h' d' tk p1 p2 i1 hD e kp => ?_
  have hlen : (ns.map V.int).length ≤ sizeLine := by
    rw [List.length_map, p1.length_eq]
    exact small64 h64
  exact ⟨.ref _, upd H D (.lst (ns.map V.int)), I.laidD kp hD ⟨hlen, vs, ep, vals_of_ints i1, e⟩, rfl, q ns D p1 p2 (I.hok.fresh hD)⟩
theorem cr_lenSet : CallR X (.builtin "len") (rLenSet X) := by
  intro pins s σ H vs us Q I r h
  obtain ⟨a, ks, rfl, hs, q⟩ := h
  rw [Vals.ref1 r]
  obtain ⟨es, ep, t, ho, D⟩ := I.setG hs
  have hlen : es.size = ks.length := by
    have z := IntsAre.length D.ints
    rw [List.length_map, Array.length_toList] at z
    exact z
  have few : es.size < 4096 := D.few
  refine PySem.call_len_set ho ⟨rfl, rfl, rfl⟩ rfl D.fit (by omega) ?_
  exact ⟨.int ks.length, H, I.tok _, ⟨_, by rw [hlen]⟩, q⟩
end
end L2
end
section
set_option Elab.async false
set_option linter.all false
set_option maxRecDepth 100000
namespace ZT
open PySem PySem.Spec PyProof.Rows
structure Src (P : Program) (w : World) (it : Addr) (fp : List Addr) (St : Nat → Heap → Prop) (vs : List Value) : Prop where
  keep : ∀ i h h', St i h → (∀ b ∈ fp, ∀ o, h.get? b = some o → h'.get? b = some o) → St i h'
  item : ∀ (A : Around) (s : Shared) (E : Value → Shared → Prop) (Q : Value → Shared → Prop) (i : Nat) (v : Value), St i s.heap → vs[i]? = some v →
    (∀ h', St (i + 1) h' → Heap.SameBut it s.heap h' → Q v { s with heap := h' }) → wpAny (model P w) A (Builtin.SmallTypes.nextOf (.ref it)) Q E s
  done : ∀ (A : Around) (s : Shared) (E : Value → Shared → Prop) (Q : Value → Shared → Prop) (i : Nat), A.handled = none → St i s.heap → vs[i]? = none →
    (∀ h' e, Heap.ExtBut it s.heap h' → (∃ o, h'.get? e = some o ∧ o.cls = .type "StopIteration") → E (.ref e) { s with heap := h' }) → wpAny (model P w) A (Builtin.SmallTypes.nextOf (.ref it)) Q E s
theorem Src.but {P : Program} {w : World} {it : Addr} {fp : List Addr} {St : Nat → Heap → Prop} {vs : List Value} (S : Src P w it fp St vs) {i : Nat} {h h' : Heap} {b : Addr} (st : St i h) (sb : Heap.SameBut b h h') (hb : b ∉ fp) : St i h' :=
  S.keep i h h' st fun c hc o e => sb.extBut c o (fun z => hb (z ▸ hc)) e
noncomputable abbrev itO (t : Addr) (i : Nat) : Obj := { cls := .type "tuple_iterator", data := .fields #[.ref t, .int i 0] }
theorem tuple_src {P : Program} {w : World} {it t : Addr} (hne : t ≠ it) (xs : List Value) : Src P w it [it, t] (fun i h => h.get? it = some (itO t i) ∧ h.IsTuple t xs.toArray) xs where
  keep := fun i h h' st k => ⟨k it (by simp) _ st.1, st.2.at fun o e => k t (by simp) o e⟩
  item := fun A s E Q i v st hv hQ => by
    obtain ⟨ho, ht⟩ := st
    have hT : s.TypeIs (.ref it) "tuple_iterator" := ⟨_, ho, rfl⟩
    obtain ⟨ot, hot, hct, nt, hdt⟩ := id ht
    unfold Builtin.SmallTypes.nextOf
    refine wpAny_bind (wpAny_callSpecial?_slot (name := Str.ofString "__next__") hT F.slot_tuple_iterator_next (wpAny_call_entry F.slot_tuple_iterator_next hT F.entry_tuple_iterator_next ?_ (F.args_tuple_iterator_next_1 _)))
    show wpAny _ _ (field (.ref it) 0 >>= _) _ _ s
    refine wpAny_bind (wpAny_field ho rfl (x := .ref t) rfl ?_)
    show wpAny _ _ (if (Value.ref t == Value.none) = true then _ else _) _ _ s
    rw [if_neg (show ¬ ((Value.ref t == Value.none) = true) from Bool.false_ne_true)]
    show wpAny _ _ (field (.ref it) 1 >>= _) _ _ s
    refine wpAny_bind (wpAny_field ho rfl (x := .int i 0) rfl ?_)
    show wpAny _ _ (seqItems? (.ref t) >>= _) _ _ s
    refine wpAny_bind (wpAny_seqItems hot hdt ?_)
    have e : xs.toArray[(i : Int).toNat]? = some v := by simpa using hv
    simp only [e]
    refine wpAny_bind (wpAny_setField_rec ho (by simp) fun h1 e1 sb1 => wpAny_pure ⟨v, rfl, wpAny_pure (hQ h1 ⟨?_, ht.extBut sb1.extBut hne⟩ sb1)⟩)
    rw [e1]
    simp [rawInt]
  done := fun A s E Q i hh st hv hE => by
    obtain ⟨ho, ht⟩ := st
    have hT : s.TypeIs (.ref it) "tuple_iterator" := ⟨_, ho, rfl⟩
    obtain ⟨ot, hot, hct, nt, hdt⟩ := id ht
    unfold Builtin.SmallTypes.nextOf
    refine wpAny_bind (wpAny_callSpecial?_slot (name := Str.ofString "__next__") hT F.slot_tuple_iterator_next (wpAny_call_entry F.slot_tuple_iterator_next hT F.entry_tuple_iterator_next ?_ (F.args_tuple_iterator_next_1 _)))
    show wpAny _ _ (field (.ref it) 0 >>= _) _ _ s
    refine wpAny_bind (wpAny_field ho rfl (x := .ref t) rfl ?_)
    show wpAny _ _ (if (Value.ref t == Value.none) = true then _ else _) _ _ s
    rw [if_neg (show ¬ ((Value.ref t == Value.none) = true) from Bool.false_ne_true)]
    show wpAny _ _ (field (.ref it) 1 >>= _) _ _ s
    refine wpAny_bind (wpAny_field ho rfl (x := .int i 0) rfl ?_)
    show wpAny _ _ (seqItems? (.ref t) >>= _) _ _ s
    refine wpAny_bind (wpAny_seqItems hot hdt ?_)
    have e : xs.toArray[(i : Int).toNat]? = none := by simpa using hv
    simp only [e]
    refine wpAny_bind (wpAny_rule (wpAny_bind (wpAny_setField_rec ho (by simp) fun h1 e1 sb1 => ?_)))
    show wpAny _ _ (newExc (.type "StopIteration") [] >>= _) _ _ _
    refine wpAny_bind ?_
    simp only [newExc, newTuple]
    refine wpAny_bind (wpAny_newObj_type ?_ (by size_fits))
    refine wpAny_bind (m := firstArgMember _ _) (wpAny_of_eq (a := Value.none) (by first | rfl | (simp only [firstArgMember]; rfl)) ?_)
    refine wpAny_newObj_type ?_ (by size_fits)
    simp only [raiseNew]
    refine wpAny_bind (wpAny_handled ?_)
    rw [show A.in1.handled = none from hh]
    exact wpAny_bind (wpAny_pure (wpAny_throw (hE _ _ ((sb1.extBut.push _).push _) ⟨_, Heap.get?_push_size _ rfl, rfl⟩)))
structure Apart (z TI TO i1 i2 : Addr) (fp1 fp2 : List Addr) : Prop where
  a1 : TI ≠ z
  a2 : TO ≠ z
  a3 : TI ≠ TO
  a4 : TI ≠ i1
  a5 : TI ≠ i2
  a6 : TO ≠ i1
  a7 : TO ≠ i2
  a8 : z ≠ i1
  a9 : z ≠ i2
  b1 : z ∉ fp1
  b2 : z ∉ fp2
  b3 : TO ∉ fp1
  b4 : TO ∉ fp2
  b5 : i1 ∉ fp2
  b6 : i2 ∉ fp1
section
variable {P : Program} {w : World} {A : Around} {E : Value → Shared → Prop} {s : Shared} {z TI TO i1 i2 : Addr} {fp1 fp2 : List Addr} {S1 S2 : Nat → Heap → Prop} {xs ys : List Value}
theorem zip_item (D : Apart z TI TO i1 i2 fp1 fp2) (W1 : Src P w i1 fp1 S1 xs) (W2 : Src P w i2 fp2 S2 ys) {i : Nat} {x y a b : Value} {Q : Value → Shared → Prop}
    (hz : IsZip s.heap z TI TO .none) (hTI : IsPair s.heap TI (.ref i1) (.ref i2)) (hTO : IsPair s.heap TO a b) (st1 : S1 i s.heap) (st2 : S2 i s.heap) (hx : xs[i]? = some x) (hy : ys[i]? = some y)
    (hQ : ∀ h', IsZip h' z TI TO (rawInt s.heap.objs.size) → IsPair h' TO x y → S1 (i + 1) h' → S2 (i + 1) h' → IsPair h' s.heap.objs.size x y → (∀ c o, c ≠ z → c ≠ TO → c ≠ i1 → c ≠ i2 → s.heap.get? c = some o → h'.get? c = some o) →
      Q (.ref s.heap.objs.size) { s with heap := h' }) : wpAny (model P w) A (Builtin.«zip.__next__» ⟨[.ref z], []⟩) (fun fin s' => ∃ v, fin = .done (.ret v) ∧ Q v s') E s := by
  show wpAny _ _ (field (.ref z) 2 >>= _) _ _ _
  refine wpAny_bind (wpAny_field hz rfl (x := .bool false) rfl ?_)
  show wpAny _ _ (field (.ref z) 3 >>= _) _ _ _
  refine wpAny_bind (wpAny_field hz rfl (x := .ref TI) rfl (wpAny_bind (wpAny_seqItems hTI rfl ?_)))
  show wpAny _ _ (Builtin.SmallTypes.ownedTupleIsFree (.ref z) >>= _) _ _ _
  refine wpAny_bind ?_
  unfold Builtin.SmallTypes.ownedTupleIsFree
  refine wpAny_bind (wpAny_field hz rfl (x := .none) rfl (wpAny_pure ?_))
  simp only [if_true]
  refine wpAny_bind (wpAny_rule (wpAny_bind (wpAny_field hz rfl (x := .ref TO) rfl (wpAny_bind (wpAny_setField_rec hz (by simp) fun h1 z1 sb1 => ?_)))))
  replace z1 : IsZip h1 z TI TO .ellipsis := z1
  refine wpAny_bind ?_
  simp only [List.zipIdx_cons, List.zipIdx_nil, List.forIn_cons, List.forIn_nil]
  refine wpAny_bind (wpAny_bind (wpAny_onRaise ?_))
  show wpAny _ _ (Builtin.SmallTypes.nextOf (.ref i1) >>= _) _ _ _
  refine wpAny_bind (W1.item _ _ _ _ i x (W1.but st1 sb1 D.b1) hx fun h2 t1 sb2 => wpAny_pure ?_)
  have p2 : IsPair h2 TO a b := sb2.extBut _ _ D.a6 (sb1.extBut _ _ D.a2 hTO)
  refine wpAny_bind (wpAny_seqItems p2 rfl (wpAny_bind (wpAny_updateSeq_pair p2 fun h3 p3 sb3 => ?_)))
  replace p3 : IsPair h3 TO x b := p3
  refine wpAny_bind (wpAny_letGo (wpAny_pure ?_))
  refine wpAny_bind (wpAny_bind (wpAny_onRaise ?_))
  show wpAny _ _ (Builtin.SmallTypes.nextOf (.ref i2) >>= _) _ _ _
  refine wpAny_bind (W2.item _ _ _ _ i y (W2.but (W2.but (W2.but st2 sb1 D.b2) sb2 D.b5) sb3 D.b4) hy fun h4 t2 sb4 => wpAny_pure ?_)
  have p4 : IsPair h4 TO x b := sb4.extBut _ _ D.a7 p3
  refine wpAny_bind (wpAny_seqItems p4 rfl (wpAny_bind (wpAny_updateSeq_pair p4 fun h5 p5 sb5 => ?_)))
  replace p5 : IsPair h5 TO x y := p5
  refine wpAny_bind (wpAny_letGo (wpAny_pure (wpAny_pure ?_)))
  refine wpAny_bind (wpAny_seqItems p5 rfl (wpAny_bind (wpAny_newTuple ?_)))
  have hsz : h5.objs.size = s.heap.objs.size := by rw [sb5.1, sb4.1, sb3.1, sb2.1, sb1.1]
  have z5 : IsZip h5 z TI TO .ellipsis := sb5.extBut _ _ D.a2.symm (sb4.extBut _ _ D.a9 (sb3.extBut _ _ D.a2.symm (sb2.extBut _ _ D.a8 z1)))
  have u1 : S1 (i + 1) h5 := W1.but (W1.but (W1.but t1 sb3 D.b3) sb4 D.b6) sb5 D.b3
  have u2 : S2 (i + 1) h5 := W2.but t2 sb5 D.b4
  have k5 : ∀ c o, c ≠ z → c ≠ TO → c ≠ i1 → c ≠ i2 → s.heap.get? c = some o → h5.get? c = some o := fun c o c1 c2 c3 c4 e =>
    sb5.extBut _ _ c2 (sb4.extBut _ _ c4 (sb3.extBut _ _ c2 (sb2.extBut _ _ c3 (sb1.extBut _ _ c1 e))))
  have hzlt : z < h5.objs.size := Heap.lt_size z5
  show wpAny _ _ (Builtin.SmallTypes.ownedTupleHandOut (.ref z) (.ref h5.objs.size) >>= _) _ _ _
  refine wpAny_bind ?_
  unfold Builtin.SmallTypes.ownedTupleHandOut
  have z6 : IsZip (h5.push { cls := .type "tuple", data := .seq #[x, y] }) z TI TO .ellipsis := Heap.get?_push_of_some _ z5
  refine wpAny_bind (wpAny_setField_rec z6 (by simp) fun h7 z7 sb7 => ?_)
  replace z7 : IsZip h7 z TI TO (rawInt h5.objs.size) := z7
  refine wpAny_setField_rec z7 (by simp) fun h8 z8 sb8 => ?_
  replace z8 : IsZip h8 z TI TO (rawInt h5.objs.size) := z8
  have up : ∀ c o, c ≠ z → h5.get? c = some o → h8.get? c = some o := fun c o c1 e => sb8.extBut _ _ c1 (sb7.extBut _ _ c1 (Heap.get?_push_of_some _ e))
  have t8 : IsPair h8 h5.objs.size x y := sb8.extBut _ _ (Nat.ne_of_gt hzlt) (sb7.extBut _ _ (Nat.ne_of_gt hzlt) (Heap.get?_push_size _ rfl))
  rw [hsz] at z8 t8
  refine wpAny_pure ⟨_, rfl, ?_⟩
  show Q (.ref h5.objs.size) _
  rw [hsz]
  exact hQ h8 z8 (up _ _ D.a2 p5) (W1.keep _ _ _ u1 fun c hc o e => up c o (fun q => D.b1 (q ▸ hc)) e) (W2.keep _ _ _ u2 fun c hc o e => up c o (fun q => D.b2 (q ▸ hc)) e) t8 fun c o c1 c2 c3 c4 e => up c o c1 (k5 c o c1 c2 c3 c4 e)
theorem zip_end (D : Apart z TI TO i1 i2 fp1 fp2) (W1 : Src P w i1 fp1 S1 xs) (W2 : Src P w i2 fp2 S2 ys) {i : Nat} {a b : Value} {Q : Fin → Shared → Prop} (hh : A.handled = none)
    (hz : IsZip s.heap z TI TO .none) (hTI : IsPair s.heap TI (.ref i1) (.ref i2)) (hTO : IsPair s.heap TO a b) (st1 : S1 i s.heap) (st2 : S2 i s.heap) (hend : xs[i]? = none ∨ ys[i]? = none)
    (hE : ∀ h' e, (∀ c o, c ≠ z → c ≠ TO → c ≠ i1 → c ≠ i2 → s.heap.get? c = some o → h'.get? c = some o) → (∃ o, h'.get? e = some o ∧ o.cls = .type "StopIteration") → E (.ref e) { s with heap := h' }) :
    wpAny (model P w) A (Builtin.«zip.__next__» ⟨[.ref z], []⟩) Q E s := by
  show wpAny _ _ (field (.ref z) 2 >>= _) _ _ _
  refine wpAny_bind (wpAny_field hz rfl (x := .bool false) rfl ?_)
  show wpAny _ _ (field (.ref z) 3 >>= _) _ _ _
  refine wpAny_bind (wpAny_field hz rfl (x := .ref TI) rfl (wpAny_bind (wpAny_seqItems hTI rfl ?_)))
  show wpAny _ _ (Builtin.SmallTypes.ownedTupleIsFree (.ref z) >>= _) _ _ _
  refine wpAny_bind ?_
  unfold Builtin.SmallTypes.ownedTupleIsFree
  refine wpAny_bind (wpAny_field hz rfl (x := .none) rfl (wpAny_pure ?_))
  simp only [if_true]
  refine wpAny_bind (wpAny_rule (wpAny_bind (wpAny_field hz rfl (x := .ref TO) rfl (wpAny_bind (wpAny_setField_rec hz (by simp) fun h1 z1 sb1 => ?_)))))
  replace z1 : IsZip h1 z TI TO .ellipsis := z1
  refine wpAny_bind ?_
  simp only [List.zipIdx_cons, List.zipIdx_nil, List.forIn_cons, List.forIn_nil]
  refine wpAny_bind (wpAny_bind (wpAny_onRaise ?_))
  show wpAny _ _ (Builtin.SmallTypes.nextOf (.ref i1) >>= _) _ _ _
  have other : ∀ {h' : Heap} {e : Addr} {o : Obj}, IsZip h' z TI TO .ellipsis → h'.get? e = some o → o.cls = .type "StopIteration" → e ≠ z := fun q1 q2 q3 q4 => by
    subst q4
    rw [q1] at q2
    cases q2
    simp at q3
  cases hx : xs[i]? with
  | none =>
    refine wpAny_bind (W1.done _ _ _ _ i hh (W1.but st1 sb1 D.b1) hx fun h2 e sb2 he => ?_)
    obtain ⟨oe, hoe, hce⟩ := he
    have z2 : IsZip h2 z TI TO .ellipsis := sb2 _ _ D.a8 z1
    exact wpAny_setField_rec z2 (by simp) fun h3 _ sb3 => hE h3 e (fun c o c1 _ c3 _ q => sb3.extBut _ _ c1 (sb2 _ _ c3 (sb1.extBut _ _ c1 q))) ⟨oe, sb3.extBut _ _ (other z2 hoe hce) hoe, hce⟩
  | some x =>
    have hy : ys[i]? = none := by
      rcases hend with q | q
      · rw [hx] at q
        cases q
      · exact q
    refine wpAny_bind (W1.item _ _ _ _ i x (W1.but st1 sb1 D.b1) hx fun h2 t1 sb2 => wpAny_pure ?_)
    have p2 : IsPair h2 TO a b := sb2.extBut _ _ D.a6 (sb1.extBut _ _ D.a2 hTO)
    refine wpAny_bind (wpAny_seqItems p2 rfl (wpAny_bind (wpAny_updateSeq_pair p2 fun h3 p3 sb3 => ?_)))
    refine wpAny_bind (wpAny_letGo (wpAny_pure ?_))
    refine wpAny_bind (wpAny_bind (wpAny_onRaise ?_))
    show wpAny _ _ (Builtin.SmallTypes.nextOf (.ref i2) >>= _) _ _ _
    refine wpAny_bind (W2.done _ _ _ _ i hh (W2.but (W2.but (W2.but st2 sb1 D.b2) sb2 D.b5) sb3 D.b4) hy fun h4 e sb4 he => ?_)
    obtain ⟨oe, hoe, hce⟩ := he
    have z4 : IsZip h4 z TI TO .ellipsis := sb4 _ _ D.a9 (sb3.extBut _ _ D.a2.symm (sb2.extBut _ _ D.a8 z1))
    exact wpAny_setField_rec z4 (by simp) fun h5 _ sb5 => hE h5 e (fun c o c1 c2 c3 c4 q => sb5.extBut _ _ c1 (sb4 _ _ c4 (sb3.extBut _ _ c2 (sb2.extBut _ _ c3 (sb1.extBut _ _ c1 q))))) ⟨oe, sb5.extBut _ _ (other z4 hoe hce) hoe, hce⟩
theorem next_zip (D : Apart z TI TO i1 i2 fp1 fp2) (W1 : Src P w i1 fp1 S1 xs) (W2 : Src P w i2 fp2 S2 ys) {i : Nat} {x y a b : Value} {Q : Option Value → Shared → Prop}
    (hz : IsZip s.heap z TI TO .none) (hTI : IsPair s.heap TI (.ref i1) (.ref i2)) (hTO : IsPair s.heap TO a b) (st1 : S1 i s.heap) (st2 : S2 i s.heap) (hx : xs[i]? = some x) (hy : ys[i]? = some y)
    (hQ : ∀ h', IsZip h' z TI TO (rawInt s.heap.objs.size) → IsPair h' TO x y → S1 (i + 1) h' → S2 (i + 1) h' → IsPair h' s.heap.objs.size x y → (∀ c o, c ≠ z → c ≠ TO → c ≠ i1 → c ≠ i2 → s.heap.get? c = some o → h'.get? c = some o) →
      Q (some (.ref s.heap.objs.size)) { s with heap := h' }) : wpAny (model P w) A (pyNext (.ref z)) Q E s := by
  have hT : s.TypeIs (.ref z) "zip" := ⟨_, hz, rfl⟩
  unfold pyNext
  exact wpAny_bind (wpAny_attempt (wpAny_callSpecial?_slot (name := Str.ofString "__next__") hT F.slot_zip_next
    (wpAny_call_entry F.slot_zip_next hT F.entry_zip_next (zip_item D W1 W2 hz hTI hTO st1 st2 hx hy fun h' q1 q2 q3 q4 q5 q6 => wpAny_pure (hQ h' q1 q2 q3 q4 q5 q6)) (F.args_zip_next_1 _))))
theorem next_zip_end (D : Apart z TI TO i1 i2 fp1 fp2) (W1 : Src P w i1 fp1 S1 xs) (W2 : Src P w i2 fp2 S2 ys) {i : Nat} {a b : Value} {Q : Option Value → Shared → Prop} (hh : A.handled = none)
    (hz : IsZip s.heap z TI TO .none) (hTI : IsPair s.heap TI (.ref i1) (.ref i2)) (hTO : IsPair s.heap TO a b) (st1 : S1 i s.heap) (st2 : S2 i s.heap) (hend : xs[i]? = none ∨ ys[i]? = none)
    (hQ : ∀ h', (∀ c o, c ≠ z → c ≠ TO → c ≠ i1 → c ≠ i2 → s.heap.get? c = some o → h'.get? c = some o) → Q none { s with heap := h' }) : wpAny (model P w) A (pyNext (.ref z)) Q E s := by
  have hT : s.TypeIs (.ref z) "zip" := ⟨_, hz, rfl⟩
  unfold pyNext
  refine wpAny_bind (wpAny_attempt (wpAny_callSpecial?_slot (name := Str.ofString "__next__") hT F.slot_zip_next
    (wpAny_call_entry F.slot_zip_next hT F.entry_zip_next (zip_end D W1 W2 hh hz hTI hTO st1 st2 hend fun h' e hk he => ?_) (F.args_zip_next_1 _))))
  obtain ⟨o, ho, hc⟩ := he
  exact wpAny_bind (wpAny_isInstance (T := "StopIteration") (b := true) ⟨o, ho, hc⟩ isSubtype_stop (wpAny_pure (hQ _ hk)))
end
noncomputable abbrev h1 (h : Heap) (a : Addr) : Heap := h.push (itO a 0)
noncomputable abbrev h2 (h : Heap) (a b : Addr) : Heap := (h1 h a).push (itO b 0)
noncomputable abbrev h3 (h : Heap) (a b : Addr) : Heap := (h2 h a b).push { cls := .type "tuple", data := .seq #[.ref h.objs.size, .ref (h1 h a).objs.size] }
noncomputable abbrev h4 (h : Heap) (a b : Addr) : Heap := (h3 h a b).push { cls := .type "tuple", data := .seq #[.none, .none] }
noncomputable abbrev h5 (h : Heap) (a b : Addr) : Heap := (h4 h a b).push { cls := .type "zip", data := .fields #[.none, .bool false, .bool false, .ref (h2 h a b).objs.size, .ref (h3 h a b).objs.size] }
theorem new_zip (a b : Addr) (xs ys : Array Value) : Meets (Builtin.«zip.__new__» ⟨[.type "zip", .ref a, .ref b], []⟩) (fun _ R s => s.heap.IsTuple a xs ∧ s.heap.IsTuple b ys ∧
    R (.ok (.ret (.ref (h4 s.heap a b).objs.size))) { s with heap := h5 s.heap a b }) :=
  .of_wp fun prog w A R s h => by
    obtain ⟨hp, g, d, tk, os⟩ := s
    obtain ⟨ha, hb, h⟩ := h
    have hsub := sub_zip
    have hA : Heap.IsTuple (Shared.heap ⟨hp, g, d, tk, os⟩) a xs := ha
    have hB : Heap.IsTuple (Shared.heap ⟨hp.push { cls := .type "tuple_iterator", data := .fields #[.ref a, .int 0 0] }, g, d, tk, os⟩) b ys := Heap.IsTuple.push hb _
    wp_walk using wpAny_pyIter_tuple hA, wpAny_pyIter_tuple hB
    exact ⟨_, rfl, h⟩
theorem call_zip {P : Program} {w : World} {A : Around} {E : Value → Shared → Prop} {s : Shared} {a b : Addr} {xs ys : Array Value} {Q : Value → Shared → Prop} (ha : s.heap.IsTuple a xs) (hb : s.heap.IsTuple b ys)
    (h : ∀ h', IsZip h' (s.heap.objs.size + 4) (s.heap.objs.size + 2) (s.heap.objs.size + 3) .none → IsPair h' (s.heap.objs.size + 2) (.ref s.heap.objs.size) (.ref (s.heap.objs.size + 1)) → IsPair h' (s.heap.objs.size + 3) .none .none →
      h'.get? s.heap.objs.size = some (itO a 0) → h'.get? (s.heap.objs.size + 1) = some (itO b 0) → (∀ c o, s.heap.get? c = some o → h'.get? c = some o) → Q (.ref (s.heap.objs.size + 4)) { s with heap := h' }) :
    wpAny (model P w) A (call (.type "zip") [.ref a, .ref b]) Q E s := by
  refine callType_new F.called_zip (by decide) (F.typeCall_zip_2 _ _) (F.newCall_zip_2 _ _) (fun obj => F.args_object_init_3 obj _ _) F.entry_zip_new (new_zip a b xs ys) ⟨ha, hb, ?_⟩
  have z1 : (h1 s.heap a).objs.size = s.heap.objs.size + 1 := Heap.size_push ..
  have z2 : (h2 s.heap a b).objs.size = s.heap.objs.size + 2 := by rw [Heap.size_push, z1]
  have z3 : (h3 s.heap a b).objs.size = s.heap.objs.size + 3 := by rw [Heap.size_push, z2]
  have z4 : (h4 s.heap a b).objs.size = s.heap.objs.size + 4 := by rw [Heap.size_push, z3]
  have on : ∀ {g : Heap} {o : Obj} {c : Addr} {u : Obj}, g.get? c = some u → (g.push o).get? c = some u := fun e => Heap.get?_push_of_some _ e
  have g5 : (h5 s.heap a b).get? (h4 s.heap a b).objs.size = some _ := Heap.get?_push_size _ rfl
  have g4 : (h5 s.heap a b).get? (h3 s.heap a b).objs.size = some _ := on (Heap.get?_push_size _ rfl)
  have g3 : (h5 s.heap a b).get? (h2 s.heap a b).objs.size = some _ := on (on (Heap.get?_push_size _ rfl))
  have g2 : (h5 s.heap a b).get? (h1 s.heap a).objs.size = some _ := on (on (on (Heap.get?_push_size _ rfl)))
  have g1 : (h5 s.heap a b).get? s.heap.objs.size = some _ := on (on (on (on (Heap.get?_push_size _ rfl))))
  show _ ∧ _
  rw [z2, z3, z4] at g5
  rw [z1, z2] at g3
  rw [z3] at g4
  rw [z1] at g2
  rw [z4]
  exact ⟨⟨_, g5, rfl⟩, h _ g5 g3 g4 g1 g2 fun c o q => on (on (on (on (on q))))⟩
end ZT
end
section
set_option Elab.async false
set_option linter.all false
set_option maxRecDepth 100000
namespace L2
open PySem PySem.Spec PyProof.Rows
noncomputable def Izt (K : PySem.W.Frag) (a b : Addr) : It :=
  ⟨fun i H => ∃ (xs ys : List V) (x y : V), SqT K H a xs ∧ SqT K H b ys ∧ xs[i]? = some x ∧ ys[i]? = some y,
    fun i H v H' => ∃ T x y, v = .ref T ∧ H T = none ∧ H' = upd H T (.tup [x, y]) ∧ (∀ xs, SqT K H a xs → xs[i]? = some x) ∧ ∀ ys, SqT K H b ys → ys[i]? = some y,
    fun i H => ∃ xs ys : List V, SqT K H a xs ∧ SqT K H b ys ∧ (xs.length ≤ i ∨ ys.length ≤ i)⟩
structure ZipAt (z TI TO i1 i2 a b : Addr) : Prop where
  zs : ZT.Apart z TI TO i1 i2 [i1, a] [i2, b]
  n1 : a ≠ i1
  n2 : b ≠ i2
theorem turn_zipT {P : Program} {w : World} {K : PySem.W.Frag} {elts : List Expr} {kk : Nat} {tpos : Pos} {a b z TI TO i1 i2 : Addr} (D : ZipAt z TI TO i1 i2 a b) :
    Turn P w K (.Tuple elts kk tpos) (Izt K a b) [z, TI, TO, i1, i2] z (fun i h => IsZip h z TI TO .none ∧ IsPair h TI (.ref i1) (.ref i2) ∧ (∃ x y, IsPair h TO x y) ∧ h.get? i1 = some (ZT.itO a i) ∧ h.get? i2 = some (ZT.itO b i)) where
  mem := by simp
  obj := fun i h st c hc => by
    obtain ⟨hz, hTI, ⟨x, y, hTO⟩, e1, e2⟩ := st
    have e' : c = z ∨ c = TI ∨ c = TO ∨ c = i1 ∨ c = i2 := by simpa using hc
    rcases e' with q | q | q | q | q
    · rw [q]; exact ⟨_, hz, fun v q => nomatch q⟩
    · rw [q]; exact ⟨_, hTI, fun v q => nomatch q⟩
    · rw [q]; exact ⟨_, hTO, fun v q => nomatch q⟩
    · rw [q]; exact ⟨_, e1, fun v q => nomatch q⟩
    · rw [q]; exact ⟨_, e2, fun v q => nomatch q⟩
  keep := fun i h h' st k => by
    obtain ⟨hz, hTI, ⟨x, y, hTO⟩, e1, e2⟩ := st
    exact ⟨k z (by simp) _ hz, k TI (by simp) _ hTI, ⟨x, y, k TO (by simp) _ hTO⟩, k i1 (by simp) _ e1, k i2 (by simp) _ e2⟩
  item := by
    intro X hP hw hK hc i pins s σ H E I hf st hg
    subst hP hw hK
    obtain ⟨hz, hTI, ⟨x0, y0, hTO⟩, e1, e2⟩ := st
    obtain ⟨xs, ys, x, y, hqx, hqy, hx, hy⟩ := hg
    obtain ⟨its, rv, p, _⟩ := I.tuple hqx
    obtain ⟨its2, rv2, p2, _⟩ := I.tuple hqy
    obtain ⟨u, hu, ru⟩ := rv.get hx
    obtain ⟨u2, hu2, ru2⟩ := rv2.get hy
    have hzl : z < s.heap.objs.size := Heap.lt_size hz
    refine ZT.next_zip D.zs (ZT.tuple_src D.n1 its) (ZT.tuple_src D.n2 its2) hz hTI hTO ⟨e1, p⟩ ⟨e2, p2⟩ hu hu2 fun h' z' TO' t1 t2 hT hk => ?_
    refine ⟨_, rfl, wpAny_letOwnedTupleGo_zip (s := { s with heap := h' }) z' fun h'' z'' sb => ?_⟩
    have hT2 : h''.get? s.heap.objs.size = some { cls := .type "tuple", data := .seq #[u, u2] } := (sb.2 _ (Nat.ne_of_gt hzl)).trans hT
    have new : ObjOk X.prog X.w (upd H s.heap.objs.size (.tup [x, y])) h'' s.heap.objs.size (.tup [x, y]) :=
      ⟨by show 2 ≤ sizeLine; decide, [u, u2], .cons ru (.cons ru2 .nil), ⟨_, hT2, rfl, _, rfl⟩⟩
    have I1 : Inv X pins σ (upd H s.heap.objs.size (.tup [x, y])) { s with heap := h'' } :=
      I.turnedNew (t' := s.toks) (ch := [z, TI, TO, i1, i2]) (fun c o hb q => (sb.2 c (fun q' => hb (by simp [q']))).trans (hk c o (fun q' => hb (by simp [q'])) (fun q' => hb (by simp [q'])) (fun q' => hb (by simp [q'])) (fun q' => hb (by simp [q'])) q)) hf (Nat.le_refl _) new
    refine ⟨.ref s.heap.objs.size, _, I1, rfl, ⟨_, x, y, rfl, I.hok.fresh (Nat.le_refl _), rfl, fun l hl => by rw [I.tuple_inj hl hqx]; exact hx, fun l hl => by rw [I.tuple_inj hl hqy]; exact hy⟩, ⟨z'', ?_, ⟨u, u2, ?_⟩, ?_, ?_⟩, fun c hcm => ?_⟩
    · exact (sb.2 _ D.zs.a1).trans (hk _ _ D.zs.a1 D.zs.a3 D.zs.a4 D.zs.a5 hTI)
    · exact (sb.2 _ D.zs.a2).trans TO'
    · exact (sb.2 _ D.zs.a8.symm).trans t1.1
    · exact (sb.2 _ D.zs.a9.symm).trans t2.1
    · have hlt : c < s.heap.objs.size := by
        have e' : c = z ∨ c = TI ∨ c = TO ∨ c = i1 ∨ c = i2 := by simpa using hcm
        rcases e' with q | q | q | q | q
        · rw [q]; exact hzl
        · rw [q]; exact Heap.lt_size hTI
        · rw [q]; exact Heap.lt_size hTO
        · rw [q]; exact Heap.lt_size e1
        · rw [q]; exact Heap.lt_size e2
      rw [upd_ne (Nat.ne_of_lt hlt)]
      exact (hf c hcm).1
  done := by
    intro X hP hw hK hc i pins s σ H E I hf st hg
    subst hP hw hK
    obtain ⟨hz, hTI, ⟨x0, y0, hTO⟩, e1, e2⟩ := st
    obtain ⟨xs, ys, hqx, hqy, hend⟩ := hg
    obtain ⟨its, rv, p, _⟩ := I.tuple hqx
    obtain ⟨its2, rv2, p2, _⟩ := I.tuple hqy
    have l1 := rv.length
    have l2 := rv2.length
    have he : its[i]? = none ∨ its2[i]? = none := by
      rcases hend with q | q
      · exact .inl (List.getElem?_eq_none (by omega))
      · exact .inr (List.getElem?_eq_none (by omega))
    exact ZT.next_zip_end D.zs (ZT.tuple_src D.n1 its) (ZT.tuple_src D.n2 its2) (I.ok.hd hc) hz hTI hTO ⟨e1, p⟩ ⟨e2, p2⟩ he fun h' hk => ⟨rfl, I.turnedL (t' := s.toks) (ch := [z, TI, TO, i1, i2]) (fun c o hb q =>
      hk c o (fun q' => hb (by simp [q'])) (fun q' => hb (by simp [q'])) (fun q' => hb (by simp [q'])) (fun q' => hb (by simp [q'])) q) hf⟩
  self := fun A i s Q E st h => wpAny_pyIter_zip st.1 h
theorem adr_ne {x y : Nat} (h : x < y ∨ y < x) : @Ne Addr x y := by
  rcases h with h | h
  · exact Nat.ne_of_lt h
  · exact Nat.ne_of_gt h
theorem adr_out {x y z : Nat} (h : x < y ∨ y < x) (h2 : x < z ∨ z < x) : @Not (@Membership.mem Addr (List Addr) _ [y, z] x) := fun m => by
  rcases List.mem_cons.mp m with e | e
  · exact adr_ne h e
  · exact adr_ne h2 (List.mem_singleton.mp e)
theorem zip_at {n a b : Nat} (ha : a < n) (hb : b < n) : ZipAt (n + 4) (n + 2) (n + 3) n (n + 1) a b :=
  ⟨⟨adr_ne (by omega), adr_ne (by omega), adr_ne (by omega), adr_ne (by omega), adr_ne (by omega), adr_ne (by omega), adr_ne (by omega), adr_ne (by omega), adr_ne (by omega), adr_out (by omega) (by omega), adr_out (by omega) (by omega), adr_out (by omega) (by omega),
    adr_out (by omega) (by omega), adr_out (by omega) (by omega), adr_out (by omega) (by omega)⟩, adr_ne (by omega), adr_ne (by omega)⟩
noncomputable def iZipT (K : PySem.W.Frag) (ta : TA) : TI := fun σ H R => ta σ H fun vs H1 => ∃ a b xs ys, vs = [.ref a, .ref b] ∧ SqT K H1 a xs ∧ SqT K H1 b ys ∧ R (Izt K a b) H1
theorem pi_zipT {X : Cx} {e e2 : Expr} {ta : TA} {p pos tpos : Pos} {elts : List Expr} {kk : Nat} (hg : Gl X "zip") (hm : X.mg "zip" = none) (ha : PA X [e, e2] ta)
    (hs : starEach [e, e2] X.env = (false, eval e X.env) :: starEach [e2] X.env := by rfl) (hpl : (backTo pos (starEach [e2] X.env)).any (·.1) = false := by rfl) :
    PI X (.Tuple elts kk tpos) (.Call (.Name "zip" p) [e, e2] [] pos) (iZipT X.K ta) := by
  intro pins s σ H R I h
  refine Call_ (ld_blt I hg hm boot_zip5 (PyProof.Rows.callWith_type1 (thn (ha pos pins s σ H _ I h) fun us s1 ⟨vs, H1, I1, r1, q1⟩ => ?_) hs hpl))
  obtain ⟨a, b, xs, ys, ex, hqx, hqy, q⟩ := q1
  subst ex
  cases r1 with
  | cons r rr =>
    cases rr with
    | cons r' rr =>
      cases rr
      cases r
      cases r'
      obtain ⟨its, rv, p1, _⟩ := I1.tuple hqx
      obtain ⟨its2, rv2, p2, _⟩ := I1.tuple hqy
      have la : a < s1.heap.objs.size := p1.lt
      have lb : b < s1.heap.objs.size := p2.lt
      refine ZT.call_zip p1 p2 fun h' hz hTI hTO h1 h2 hk => wpAny_pyIter_zip hz ?_
      have I2 : Inv X pins σ H1 { s1 with heap := h' } := I1.kept (t' := s1.toks) hk
      refine ⟨s1.heap.objs.size + 4, [s1.heap.objs.size + 4, s1.heap.objs.size + 2, s1.heap.objs.size + 3, s1.heap.objs.size, s1.heap.objs.size + 1], _, _, H1, rfl, I2, turn_zipT (zip_at la lb), ⟨hz, hTI, ⟨_, _, hTO⟩, h1, h2⟩, fun c hcm => ?_, q⟩
      have hle : s1.heap.objs.size ≤ c := by
        have e' : c = s1.heap.objs.size + 4 ∨ c = s1.heap.objs.size + 2 ∨ c = s1.heap.objs.size + 3 ∨ c = s1.heap.objs.size ∨ c = s1.heap.objs.size + 1 := by simpa using hcm
        rcases e' with z | z | z | z | z <;> rw [z] <;> omega
      exact I1.fpOk hle (I1.hok.fresh hle)
theorem for_zipT {K : PySem.W.Frag} {a b : Addr} {xs ys : List V} {g : TG} {tb : TS} {D : Ends} {σ : St} {H : Hp} (Pv : Nat → St → Hp → Prop) (h0 : Pv 0 σ H) (len : xs.length = ys.length) (hl : ∀ i σ H, i ≤ xs.length → Pv i σ H → SqT K H a xs ∧ SqT K H b ys)
    (hs : ∀ i x y T σ H, xs[i]? = some x → ys[i]? = some y → H T = none → Pv i σ H → g (.ref T) σ (upd H T (.tup [x, y])) fun σ2 H2 => tb { D with nx := Pv (i + 1), ct := Pv (i + 1), bk := D.nx } σ2 H2) (hd : ∀ σ H, Pv xs.length σ H → D.nx σ H) :
    ∃ W : Nat → Nat → St → Hp → Prop, (∃ m, W 0 m σ H) ∧ ∀ i m σ H, W i m σ H →
      ((Izt K a b).stop i H ∧ D.nx σ H) ∨ ((Izt K a b).go i H ∧ ∃ N : St → Hp → Prop, (∀ σ' H', N σ' H' → ∃ m', m' < m ∧ W (i + 1) m' σ' H') ∧ ∀ x H', (Izt K a b).yld i H x H' → g x σ H' fun σ2 H2 => tb { D with nx := N, ct := N, bk := D.nx } σ2 H2) := by
  refine ⟨fun i m σ H => m = xs.length - i ∧ i ≤ xs.length ∧ Pv i σ H, ⟨xs.length, by simp, Nat.zero_le _, h0⟩, ?_⟩
  rintro i m σ H ⟨rfl, hi, p⟩
  obtain ⟨q1, q2⟩ := hl i σ H hi p
  by_cases hlt : i < xs.length
  · have hlt2 : i < ys.length := by omega
    refine .inr ⟨⟨xs, ys, xs[i], ys[i], q1, q2, List.getElem?_eq_getElem hlt, List.getElem?_eq_getElem hlt2⟩, Pv (i + 1), fun σ' H' p' => ⟨xs.length - (i + 1), by omega, rfl, hlt, p'⟩, fun v H' y => ?_⟩
    obtain ⟨T, x, y, rfl, hT, rfl, e1, e2⟩ := y
    exact hs i x y T σ H (e1 xs q1) (e2 ys q2) hT p
  · have e : i = xs.length := by omega
    subst e
    exact .inl ⟨⟨xs, ys, q1, q2, .inl (Nat.le_refl _)⟩, hd σ H p⟩
noncomputable def tVals (td : TE) : TE := fun σ H Q => td σ H fun x H1 => ∃ (d : Addr) (kvs : List (Key × V)), x = .ref d ∧ Rd H1 d (.dK kvs) ∧ ∀ p, H1 p = none → Q (.ref p) (upd H1 p (.lst (kvs.map (·.2))))
theorem vals_kv {κ : Type} : ∀ {kvs : List (κ × V)} {vs : List (κ × Value)}, KV kvs vs → Vals (kvs.map (·.2)) (vs.map (·.2))
  | _, _, .nil => .nil
  | _, _, .cons r t => .cons r.2 (vals_kv t)
theorem boot_list5 : bootBuiltins "list" = some (.type "list") := by decide +kernel
theorem pe_vals {X : Cx} {e : Expr} {td : TE} {p apos cpos pos : Pos} (hc : X.calm = true) (hg : Gl X "list") (hm : X.mg "list" = none) (he : PE X e td)
    (hbase : attributeBase e "values" X.env (eval e X.env) = eval e X.env := by rfl) (hline : (apos.endLine == cpos.line) = true := by rfl)
    (hs : starEach [Expr.Call (.Attribute e "values" apos) [] [] cpos] X.env = [(false, eval (.Call (.Attribute e "values" apos) [] [] cpos) X.env)] := by rfl) :
    PE X (.Call (.Name "list" p) [.Call (.Attribute e "values" apos) [] [] cpos] [] pos) (tVals td) := by
  intro pins s σ H Q I h
  refine wpAny_Call_Name_kw (ld_blt I hg hm boot_list5 (PyProof.Rows.callWith_type1 ?_ hs rfl))
  rw [hs]
  show wpAny _ _ (spliced [(false, eval (.Call (.Attribute e "values" apos) [] [] cpos) X.env)]) _ _ s
  refine Calls.spliced_cons (wpAny_Call_method (T := "dict") (id := "dict.values") hbase rfl hline F.plainAttrs_dict F.slot_dict_values F.type_dict_values (thn (he pins s σ H _ I h) fun u s1 ⟨x, H1, I1, rx, d, kvs, ex, hd, q⟩ => ?_))
  subst ex
  obtain rfl : u = Value.ref d := rx
  obtain ⟨hlen, hsm, vs, rel, dd⟩ := dk_rd I1.hok hd
  obtain ⟨ep, da⟩ := dd.dictAt
  refine ⟨dd.typeIs, dd.mapOf.noDict, ?_⟩
  show wpAny _ _ (callWith cpos (.builtin "dict.values") [.ref d] [] []) _ X.xe s1
  refine method_meetsIn F.slot_dict_values F.entry_dict_values rfl (PySem.evalArgs_none ⟨rfl, dd.typeIs, F.args_dict_values_1 _, _, meets_dict_values (mixKind X.prog X.w) d hsm, ⟨vs, dd⟩, ?_⟩)
  refine Calls.spliced_nil ?_
  have hl : kvs.length = vs.length := Paired.length rel
  refine PySem.W.kdl_call (PySem.W.kdl_values (knd := mixKind X.prog X.w) (d := d) (r := s1.heap.objs.size) (kvs := vs) (ep := ep)) (I1.ok.hd hc) ⟨⟨_, Heap.get?_push_size _ rfl, rfl, rfl⟩, da.push _⟩ (by rw [← hl]; exact hlen) fun h' tk acc c kp hL hacc => ?_
  have e1 : acc.toList = vs.map (·.2) := PySem.W.kdl_vals_eq acc.toList (by rw [Array.length_toList]; exact hacc.1) fun j v e => hacc.2 j v (by rw [← Array.getElem?_toList]; exact e)
  have hk : ∀ b o, s1.heap.get? b = some o → h'.get? b = some o := fun b o e => kp b o (Heap.get?_push_of_some _ e)
  have hge : s1.heap.objs.size ≤ (s1.heap.push { cls := .type "dict_values", data := .fields #[.ref d] }).objs.size := by
    rw [Heap.size_push]
    exact Nat.le_succ _
  exact ⟨.ref _, upd H1 _ (.lst (kvs.map (·.2))), I1.laid (t' := tk) hk hge ⟨by rw [List.length_map]; exact hlen, vs.map (·.2), c, vals_kv rel, by rw [← e1]; simpa using hL⟩, rfl, q _ (I1.hok.fresh hge)⟩
noncomputable def Rows (K : PySem.W.Frag) (H : Hp) : List Addr → List (List Int) → Prop := Paired fun a ns => SqT K H a (ns.map V.int)
theorem map_int_inj : ∀ {a b : List Int}, a.map V.int = b.map V.int → a = b
  | [], [], _ => rfl
  | [], _ :: _, h => by cases h
  | _ :: _, [], h => by cases h
  | x :: a, y :: b, h => by
    rw [List.map_cons, List.map_cons] at h
    injection h with h1 h2
    injection h1 with h1
    rw [h1, map_int_inj h2]
theorem ints_get {its : List Value} {ns : List Int} (h : IntsAre its ns) {j : Nat} {v : Value} (e : its[j]? = some v) : ∃ n t, ns[j]? = some n ∧ v = .int n t := by
  induction h generalizing j with
  | nil => simp at e
  | cons n t r ih =>
    cases j with
    | zero =>
      simp at e
      exact ⟨n, t, rfl, e.symm⟩
    | succ j => exact ih e
theorem eqAt_rows {X : Cx} {pins : List (Addr × Obj)} {σ : St} {H : Hp} {s : Shared} {a b : Addr} {ns ms : List Int} {A : Around} (I : Inv X pins σ H s) (ha : SqT X.K H a (ns.map V.int)) (hb : SqT X.K H b (ms.map V.int)) (hu : A.units < cLine) :
    SeqAt.EqAt A s (.ref a) (.ref b) (decide (ns = ms)) := by
  by_cases hab : a = b
  · subst hab
    rw [map_int_inj (I.tuple_inj ha hb), decide_eq_true rfl]
    exact SeqAt.EqAt.same _
  · obtain ⟨its, rv, p, _⟩ := I.tuple ha
    obtain ⟨its2, rv2, p2, _⟩ := I.tuple hb
    have i1 := rv.ints
    have i2 := rv2.ints
    have l1 := i1.length
    have l2 := i2.length
    have key := SeqAt.RcAt.tuples (e := fun j => decide (ns[j]? = ms[j]?)) p p2 hu (fun j h1 h2 => by
      have e1 : its.toArray[j] = its[j]'(by simpa using h1) := by simp
      have e2 : its2.toArray[j] = its2[j]'(by simpa using h2) := by simp
      rw [e1, e2]
      obtain ⟨n, t, q1, q2⟩ := ints_get i1 (List.getElem?_eq_getElem (by simpa using h1))
      obtain ⟨m, u, q3, q4⟩ := ints_get i2 (List.getElem?_eq_getElem (by simpa using h2))
      rw [q2, q4, q1, q3]
      have e3 : decide (some n = some m) = (n == m) := by
        by_cases z : n = m
        · subst z
          simp
        · simp [z]
      rw [e3]
      exact SeqAt.EqAt.int_int n t m u)
    have e : ((List.range (min its.toArray.size its2.toArray.size)).all (fun j => decide (ns[j]? = ms[j]?)) && its.toArray.size == its2.toArray.size) = decide (ns = ms) := by
      rw [Bool.eq_iff_iff]
      simp only [Bool.and_eq_true, List.all_eq_true, List.mem_range, decide_eq_true_eq, beq_iff_eq, List.size_toArray, l1, l2]
      constructor
      · rintro ⟨h1, h2⟩
        refine List.ext_getElem? fun j => ?_
        by_cases hj : j < ns.length
        · exact h1 j (by omega)
        · rw [List.getElem?_eq_none (by omega), List.getElem?_eq_none (by omega)]
      · rintro rfl
        exact ⟨fun _ _ => rfl, rfl⟩
    rw [e] at key
    exact .of_refs hab key
noncomputable def rInRows (K : PySem.W.Frag) (neg : Bool) : R2 := fun x y H Q => ∃ (a p : Addr) (as : List Addr) (ms : List Int) (nss : List (List Int)), x = .ref a ∧ SqT K H a (ms.map V.int) ∧ y = .ref p ∧ SqL K H p (as.map V.ref) ∧ Rows K H as nss ∧
  Q (.bl (if neg then !decide (ms ∈ nss) else decide (ms ∈ nss))) H
open Classical in
theorem op_in_rows {X : Cx} (hu : X.A.units + 1 < cLine) : OpR X (compareOp .In) (rInRows X.K false) := by
  intro pins s σ H x y v u Q I rx ry h
  obtain ⟨a, p, as, ms, nss, rfl, hx, rfl, hl, hr, q⟩ := h
  cases rx
  cases ry
  obtain ⟨its, rv, pl, hz⟩ := I.list hl
  have ei : its = as.map Value.ref := by
    clear hr hl pl hz
    induction as generalizing its with
    | nil =>
      cases rv
      rfl
    | cons b as ih =>
      cases rv with
      | cons r t =>
        cases r
        rw [List.map_cons, ih _ t]
  subst ei
  let f : Value → Bool := fun y => decide (∃ b, y = .ref b ∧ SqT X.K H b (ms.map V.int))
  have hf : ∀ (b : Addr) (ns : List Int), SqT X.K H b (ns.map V.int) → f (.ref b) = decide (ns = ms) := fun b ns hb => by
    show decide _ = decide _
    rw [Bool.eq_iff_iff, decide_eq_true_eq, decide_eq_true_eq]
    constructor
    · rintro ⟨b', e, h'⟩
      injection e with e
      subst e
      exact map_int_inj (I.tuple_inj hb h')
    · rintro rfl
      exact ⟨b, rfl, hb⟩
  refine SeqAt.in_listAt f pl.isList (fun y hy => ?_) ⟨.bl _, H, I, rfl, ?_⟩
  · have hm : y ∈ as.map Value.ref := by simpa using hy
    obtain ⟨b, hb, rfl⟩ := List.mem_map.mp hm
    obtain ⟨ns, hns⟩ : ∃ ns : List Int, SqT X.K H b (ns.map V.int) := by
      clear q hl hf rv pl hz hy hm
      induction hr with
      | nil => cases hb
      | cons r t ih =>
        rcases List.mem_cons.mp hb with e | e
        · subst e
          exact ⟨_, r⟩
        · exact ih e
    rw [hf b ns hns]
    exact eqAt_rows I hns hx (Nat.lt_of_le_of_lt (by first | exact Nat.le_refl _ | (simp [Around.in1])) hu)
  · have e : ((as.map Value.ref).toArray.any f) = decide (ms ∈ nss) := by
      rw [List.any_toArray]
      clear q hl rv pl hz
      induction hr with
      | nil => simp
      | cons r t ih =>
        rw [List.map_cons, List.any_cons, ih, hf _ _ r, Bool.eq_iff_iff]
        simp only [Bool.or_eq_true, decide_eq_true_eq, List.mem_cons]
        constructor
        · rintro (z | z)
          · exact .inl z.symm
          · exact .inr z
        · rintro (z | z)
          · exact .inl z.symm
          · exact .inr z
    rw [e]
    exact q
end L2
end
section
set_option Elab.async false
set_option linter.all false
set_option maxRecDepth 100000
namespace L2
open PySem PySem.Spec PyProof.Rows
theorem extend_tup (l : Addr) (xs : Array Value) (n : Nat) (b : Addr) (ys : Array Value) (n2 : Nat) (dd : Option Addr) (sl : Array (Option Value)) (few : xs.size + ys.size ≤ sizeLine) :
    Meets (Builtin.«list.extend» ⟨[.ref l, .ref b], []⟩) (fun _ R s => s.heap.get? l = some { cls := .type "list", dict := none, data := .seq xs n, slots := #[] } ∧
      s.heap.get? b = some { cls := .type "tuple", dict := dd, data := .seq ys n2, slots := sl } ∧ R (.ok (.ret Value.none)) { s with heap := s.heap.update l (Obj.mapSeq fun x => x ++ ys), toks := s.toks }) :=
  .of_wp fun prog w A R s h => by
    obtain ⟨hp, g, d, tk, os⟩ := s
    obtain ⟨hl, hb, h⟩ := h
    have f2 := sub_tuple_tuple
    have f3 := sub_list_list
    have f4 := sub_tuple_list
    have f5 := sub_list_tuple
    have short : ¬ (!xs.isEmpty && Builtin.List.listTooLong (xs.size + ys.size)) = true := by
      rw [notLongL few, Bool.and_false]
      exact Bool.false_ne_true
    have s1 : xs.size ≤ sizeLine := by omega
    have s2 : (xs ++ ys).size ≤ sizeLine + 1 := by
      rw [Array.size_append]
      omega
    wp_walk using (wpAny_updateSeq hl rfl (hz := s1) (_hz' := s2)), wpAny_loadPart' hl, wpAny_loadPart' hb
    exact ⟨_, rfl, h⟩
section
variable {X : Cx}
noncomputable def rExtendT : V → List V → Hp → VK → Prop := fun x vs H Q => ∃ l b xs zs, x = .ref l ∧ vs = [.ref b] ∧ H l = some (.lst xs) ∧ H b = some (.tup zs) ∧ xs.length + zs.length ≤ sizeLine ∧ Q .non (upd H l (.lst (xs ++ zs)))
theorem mt_extendT : MtM X "list.extend" rExtendT := by
  intro pins s σ H x vs v us Q I rx rv h
  obtain ⟨l, b, xs, zs, rfl, rfl, hH, hB, hz, q⟩ := h
  cases rx
  obtain ⟨u, rfl, ru⟩ := rv.one
  cases ru
  obtain ⟨z, its, n, r, hl, e⟩ := I.lstM hH
  obtain ⟨its2, r2, ⟨⟨c2, d2, dt2, sl2⟩, ho2, hc2, n2, hd2⟩, _⟩ := I.tuple (xs := zs) (a := b) (SqT.of hB)
  dsimp only at hc2 hd2
  subst hc2 hd2
  have hl2 := r2.length
  have few : its.toArray.size + its2.toArray.size ≤ sizeLine := by
    rw [List.size_toArray, List.size_toArray]
    omega
  refine call_meets F.slot_list_extend ⟨_, e, rfl⟩ F.entry_list_extend (F.args_list_extend_2 _ _) (extend_tup l its.toArray n b its2.toArray n2 d2 sl2 few) ⟨e, ho2, ?_⟩
  refine ⟨.non, _, I.lset (its' := its ++ its2) hH e (by simp) (r.append r2) ?_, rfl, q⟩
  rw [List.length_append]
  omega
end
end L2
end
section
set_option Elab.async false
set_option linter.all false
namespace LM1
open Uw63
noncomputable def wOk (n : Nat) (l : List Nat) : Bool := decide (1 ≤ l.length) && decide (l.length ≤ 8) && l.all fun c => decide (c < n)
theorem wordsIn_fuel : ∀ (f g : Nat) (l : List Nat), l.length ≤ f → l.length ≤ g → wordsIn f l = wordsIn g l
  | 0, 0, [], _, _ => rfl
  | 0, _ + 1, [], _, _ => rfl
  | _ + 1, 0, [], _, _ => rfl
  | _ + 1, _ + 1, [], _, _ => rfl
  | 0, _, k :: r, h, _ => by simp at h
  | _ + 1, 0, k :: r, _, h => by simp at h
  | f + 1, g + 1, k :: r, h1, h2 => by
    unfold wordsIn
    by_cases c : k < 1 ∨ 8 < k ∨ r.length < k
    · rw [if_pos c, if_pos c]
    · rw [if_neg c, if_neg c]
      have e : (r.drop k).length ≤ r.length := by
        rw [List.length_drop]
        omega
      simp only [List.length_cons] at h1 h2
      rw [wordsIn_fuel f g (r.drop k) (by omega) (by omega)]
noncomputable def bad (n : Nat) (ws : List Word) : Bool := ws.any fun w => w.any fun c => decide (n ≤ c)
noncomputable def told (n : Nat) (l : List Nat) : Option (List Word) := match wordsIn l.length l with
  | none => none
  | some ws => if bad n ws = true then none else some ws
theorem told_nil (n : Nat) : told n [] = some [] := rfl
theorem all_lt (n : Nat) (l : List Nat) : (l.any fun c => decide (n ≤ c)) = !(l.all fun c => decide (c < n)) := by
  induction l with
  | nil => rfl
  | cons a l ih =>
    rw [List.any_cons, List.all_cons, ih]
    by_cases h : a < n
    · rw [decide_eq_true h, decide_eq_false (by omega)]
      simp
    · rw [decide_eq_false h, decide_eq_true (by omega)]
      simp
theorem told_cons (n k : Nat) (r : List Nat) : told n (k :: r) = if k ≤ r.length ∧ wOk n (r.take k) = true then (told n (r.drop k)).map (r.take k :: ·) else none := by
  unfold told
  rw [show wordsIn (k :: r).length (k :: r) = if k < 1 ∨ 8 < k ∨ r.length < k then none else (wordsIn r.length (r.drop k)).map fun l => r.take k :: l from rfl]
  rw [wordsIn_fuel r.length (r.drop k).length (r.drop k) (by rw [List.length_drop]; omega) (Nat.le_refl _)]
  by_cases h1 : k ≤ r.length
  · have hl : (r.take k).length = k := by
      rw [List.length_take]
      omega
    by_cases h2 : 1 ≤ k ∧ k ≤ 8
    · rw [if_neg (by omega)]
      by_cases h3 : ((r.take k).all fun c => decide (c < n)) = true
      · rw [if_pos ⟨h1, by unfold wOk; rw [hl, decide_eq_true h2.1, decide_eq_true h2.2, h3]; rfl⟩]
        cases wordsIn (r.drop k).length (r.drop k) with
        | none => rfl
        | some ws =>
          have e : bad n (r.take k :: ws) = bad n ws := by
            unfold bad
            rw [List.any_cons, all_lt, h3]
            rfl
          show (if bad n (r.take k :: ws) = true then none else some (r.take k :: ws)) = Option.map _ (if bad n ws = true then none else some ws)
          rw [e]
          by_cases h4 : bad n ws = true
          · rw [if_pos h4, if_pos h4]
            rfl
          · rw [if_neg h4, if_neg h4]
            rfl
      · rw [if_neg (fun z => h3 (by
          have q := z.2
          unfold wOk at q
          rw [Bool.and_eq_true] at q
          exact q.2))]
        cases wordsIn (r.drop k).length (r.drop k) with
        | none => rfl
        | some ws =>
          have e : bad n (r.take k :: ws) = true := by
            unfold bad
            rw [List.any_cons, all_lt, Bool.eq_false_iff.mpr h3]
            rfl
          show (if bad n (r.take k :: ws) = true then none else some (r.take k :: ws)) = none
          rw [if_pos e]
    · rw [if_pos (by omega), if_neg]
      rintro ⟨_, q⟩
      unfold wOk at q
      rw [hl, Bool.and_eq_true, Bool.and_eq_true] at q
      exact h2 ⟨of_decide_eq_true q.1.1, of_decide_eq_true q.1.2⟩
  · rw [if_pos (by omega), if_neg fun z => h1 z.1]
noncomputable def textOf (n : Nat) (l : List Nat) : Option (List Word) := match told n l with
  | none => none
  | some ws => if 1 ≤ ws.length ∧ ws.length ≤ 8 then some ws else none
theorem textOf_step (d : Desk) (l : List Nat) : step d (.text l) = match textOf d.n l with
    | none => (d, [-1])
    | some ws => ({ d with text := ws, hints := [] }, [((letters { d with text := ws, hints := [] }).length : Int)]) := by
  unfold textOf told
  show (match wordsIn l.length l with
    | none => (d, [-1])
    | some ws => if ws.isEmpty = true ∨ 8 < ws.length ∨ (ws.any fun w => w.any fun c => decide (d.n ≤ c)) = true then (d, [-1]) else ({ d with text := ws, hints := [] }, [((letters { d with text := ws, hints := [] }).length : Int)])) = _
  cases wordsIn l.length l with
  | none => rfl
  | some ws =>
    have h0 : ws.isEmpty = true ↔ ¬ 1 ≤ ws.length := by
      cases ws <;> simp
    dsimp only
    by_cases h1 : bad d.n ws = true
    · rw [if_pos (.inr (.inr h1)), if_pos h1]
    · rw [if_neg h1]
      dsimp only
      by_cases h2 : 1 ≤ ws.length ∧ ws.length ≤ 8
      · rw [if_pos h2, if_neg]
        rintro (z | z | z)
        · exact h0.mp z h2.1
        · omega
        · exact h1 z
      · rw [if_neg h2, if_pos]
        by_cases h3 : 1 ≤ ws.length
        · exact .inr (.inl (by omega))
        · exact .inl (h0.mpr h3)
end LM1
end
section
set_option Elab.async false
set_option linter.all false
namespace LM1
open Uw63
theorem rising_one : ∀ {a b : List Int}, a.Pairwise (· < ·) → b.Pairwise (· < ·) → (∀ x, x ∈ a ↔ x ∈ b) → a = b
  | [], [], _, _, _ => rfl
  | [], y :: b, _, _, h => by
    have := (h y).mpr (by simp)
    cases this
  | x :: a, [], _, _, h => by
    have := (h x).mp (by simp)
    cases this
  | x :: a, y :: b, ha, hb, h => by
    rw [List.pairwise_cons] at ha hb
    have e : x = y := by
      have h1 := (h x).mp (by simp)
      have h2 := (h y).mpr (by simp)
      rcases List.mem_cons.mp h1 with z | z
      · exact z
      · rcases List.mem_cons.mp h2 with u | u
        · exact u.symm
        · have := hb.1 x z
          have := ha.1 y u
          omega
    subst e
    congr 1
    refine rising_one ha.2 hb.2 fun z => ?_
    have hz := h z
    simp only [List.mem_cons] at hz
    constructor
    · intro m
      rcases hz.mp (.inr m) with q | q
      · have := ha.1 z m
        omega
      · exact q
    · intro m
      rcases hz.mpr (.inr m) with q | q
      · have := hb.1 z m
        omega
      · exact q
theorem strict_of {a : List Int} (h : a.Pairwise (· ≤ ·)) (nd : a.Nodup) : a.Pairwise (· < ·) := by
  have := h.and nd
  exact this.imp fun {x y} z => by
    have h1 := z.1
    have h2 := z.2
    omega
noncomputable def lets (n : Nat) (ws : List Word) : List Nat := (List.range n).filter fun c => ws.any fun w => w.contains c
theorem letters_lets (d : Desk) : letters d = lets d.n d.text := rfl
theorem lets_rise (n : Nat) (ws : List Word) : ((lets n ws).map fun (m : Nat) => (m : Int)).Pairwise (· < ·) := by
  rw [List.pairwise_map]
  refine List.Pairwise.imp (R := (· < ·)) (fun {a b} h => by omega) ?_
  exact List.Pairwise.sublist List.filter_sublist List.pairwise_lt_range
theorem mem_lets {n : Nat} {ws : List Word} (h : bad n ws = false) (c : Nat) : c ∈ lets n ws ↔ ∃ w ∈ ws, c ∈ w := by
  unfold lets
  rw [List.mem_filter, List.mem_range, List.any_eq_true]
  constructor
  · rintro ⟨_, w, hw, hc⟩
    exact ⟨w, hw, by simpa using hc⟩
  · rintro ⟨w, hw, hc⟩
    refine ⟨?_, w, hw, by simpa using hc⟩
    unfold bad at h
    have h1 := List.any_eq_false.mp h w hw
    have h2 : (w.any fun c => decide (n ≤ c)) = false := Bool.eq_false_iff.mpr h1
    have h3 := List.any_eq_false.mp h2 c hc
    simp at h3
    exact h3
theorem lets_of {n : Nat} {ws : List Word} {ns ks : List Int} (h : bad n ws = false) (p : ns.Perm ks) (hp : ns.Pairwise (· ≤ ·)) (nd : ks.Nodup) (mem : ∀ x, x ∈ ks ↔ x ∈ (ws.flatten.map fun (m : Nat) => (m : Int))) : ns = (lets n ws).map fun (m : Nat) => (m : Int) := by
  refine rising_one (strict_of hp (p.nodup_iff.mpr nd)) (lets_rise n ws) fun x => ?_
  rw [p.mem_iff, mem, List.mem_map, List.mem_map]
  constructor
  · rintro ⟨c, hc, rfl⟩
    obtain ⟨w, hw, hcw⟩ := List.mem_flatten.mp hc
    exact ⟨c, (mem_lets h c).mpr ⟨w, hw, hcw⟩, rfl⟩
  · rintro ⟨c, hc, rfl⟩
    obtain ⟨w, hw, hcw⟩ := (mem_lets h c).mp hc
    exact ⟨c, List.mem_flatten.mpr ⟨w, hw, hcw⟩, rfl⟩
theorem lets_len (n : Nat) (ws : List Word) : (lets n ws).length ≤ n := by
  have := List.length_filter_le (fun c => ws.any fun w => w.contains c) (List.range n)
  rw [List.length_range] at this
  exact this
theorem ks_len {n : Nat} {ws : List Word} {ks : List Int} (h : bad n ws = false) (nd : ks.Nodup) (mem : ∀ x, x ∈ ks ↔ x ∈ (ws.flatten.map fun (m : Nat) => (m : Int))) : ks.length ≤ n := by
  have p : (ks.mergeSort fun a b => decide (a ≤ b)).Perm ks := List.mergeSort_perm ..
  have q : (ks.mergeSort fun a b => decide (a ≤ b)).Pairwise (· ≤ ·) := by
    have z := List.pairwise_mergeSort (le := fun (a b : Int) => decide (a ≤ b)) (fun a b c h1 h2 => by simp at *; omega) (fun a b => by simp; omega) ks
    exact z.imp fun {a b} w => by simpa using w
  have e := lets_of h p q nd mem
  rw [← p.length_eq, e, List.length_map]
  exact lets_len n ws
end LM1
end
section
set_option Elab.async false
set_option linter.all false
namespace LM1
open Uw63
noncomputable def keysND (k : Key) : Prop := (k.map (·.1)).Nodup
noncomputable def valsND (k : Key) : Prop := (k.map (·.2)).Nodup
instance (k : Key) : Decidable (valsND k) := inferInstanceAs (Decidable (List.Nodup _))
theorem stands_nil (c : Nat) : standsFor [] c = none := rfl
theorem stands_cons (a p : Nat) (k : Key) (c : Nat) : standsFor ((a, p) :: k) c = if a = c then some p else standsFor k c := by
  unfold standsFor
  rw [List.find?_cons]
  by_cases h : a = c
  · subst h
    simp
  · have : (a == c) = false := by simpa using h
    simp [this, h]
theorem stands_none : ∀ {k : Key} {c : Nat}, standsFor k c = none ↔ ¬ c ∈ k.map (·.1)
  | [], c => by simp [stands_nil]
  | (a, p) :: k, c => by
    rw [stands_cons]
    by_cases h : a = c
    · subst h
      simp
    · rw [if_neg h, stands_none (k := k) (c := c)]
      simp [Ne.symm h]
theorem stands_mem : ∀ {k : Key} {c p : Nat}, standsFor k c = some p → (c, p) ∈ k
  | [], c, p, h => by cases h
  | (a, q) :: k, c, p, h => by
    rw [stands_cons] at h
    by_cases e : a = c
    · subst e
      rw [if_pos rfl] at h
      cases h
      simp
    · rw [if_neg e] at h
      exact List.mem_cons_of_mem _ (stands_mem h)
noncomputable def add1 (k : Key) (c p : Nat) : Option Key := match standsFor k c with
  | some q => if q = p then some k else none
  | none => some (k ++ [(c, p)])
noncomputable def addW : Key → Word → Word → Option Key
  | k, c :: cs, p :: ps => match add1 k c p with
    | none => none
    | some x => addW x cs ps
  | k, _, _ => some k
theorem add1_pre {k x : Key} {c p : Nat} (h : add1 k c p = some x) : ∃ r, x = k ++ r := by
  unfold add1 at h
  cases e : standsFor k c with
  | none =>
    rw [e] at h
    exact ⟨_, (Option.some.inj h).symm⟩
  | some q =>
    rw [e] at h
    dsimp only at h
    by_cases z : q = p
    · rw [if_pos z] at h
      exact ⟨[], by rw [List.append_nil]; exact (Option.some.inj h).symm⟩
    · rw [if_neg z] at h
      cases h
theorem addW_pre : ∀ {k x : Key} {cs ps : Word}, addW k cs ps = some x → ∃ r, x = k ++ r
  | k, x, [], _, h => by
    unfold addW at h
    exact ⟨[], by rw [List.append_nil]; exact (Option.some.inj h).symm⟩
  | k, x, _ :: _, [], h => by
    unfold addW at h
    exact ⟨[], by rw [List.append_nil]; exact (Option.some.inj h).symm⟩
  | k, x, c :: cs, p :: ps, h => by
    unfold addW at h
    cases e : add1 k c p with
    | none =>
      rw [e] at h
      cases h
    | some y =>
      rw [e] at h
      obtain ⟨r1, rfl⟩ := add1_pre e
      obtain ⟨r2, rfl⟩ := addW_pre h
      exact ⟨r1 ++ r2, by rw [List.append_assoc]⟩
theorem valsND_pre {k r : Key} (h : valsND (k ++ r)) : valsND k := by
  unfold valsND at h ⊢
  rw [List.map_append] at h
  exact (List.nodup_append.mp h).1
theorem putWord_eq : ∀ {cs ps : Word} {k : Key}, valsND k → cs.length = ps.length → putWord k cs ps = (addW k cs ps).bind fun x => if valsND x then some x else none
  | [], [], k, hk, _ => by
    show some k = _
    show _ = if valsND k then some k else none
    rw [if_pos hk]
  | [], _ :: _, _, _, h => by cases h
  | _ :: _, [], _, _, h => by cases h
  | c :: cs, p :: ps, k, hk, hl => by
    have hl' : cs.length = ps.length := by simpa using hl
    show (put k c p).bind _ = _
    unfold addW put add1
    cases e : standsFor k c with
    | some q =>
      dsimp only
      by_cases z : q = p
      · rw [if_pos z]
        exact putWord_eq hk hl'
      · rw [if_neg z]
        rfl
    | none =>
      dsimp only
      by_cases z : (k.any fun x => x.2 == p) = true
      · rw [if_pos z]
        have nn : ¬ valsND (k ++ [(c, p)]) := by
          intro q
          unfold valsND at q
          rw [List.map_append, List.nodup_append] at q
          obtain ⟨x, hx, hxp⟩ := List.any_eq_true.mp z
          have hxp' : x.2 = p := by simpa using hxp
          exact q.2.2 x.2 (List.mem_map.mpr ⟨x, hx, rfl⟩) p (by simp) hxp'
        show none = _
        cases e2 : addW (k ++ [(c, p)]) cs ps with
        | none => rfl
        | some y =>
          obtain ⟨r, rfl⟩ := addW_pre e2
          show none = if valsND (k ++ [(c, p)] ++ r) then _ else none
          rw [if_neg fun w => nn (valsND_pre w)]
      · rw [if_neg z]
        show putWord (k ++ [(c, p)]) cs ps = _
        refine putWord_eq ?_ hl'
        unfold valsND
        rw [List.map_append, List.nodup_append]
        refine ⟨hk, by simp, fun a ha b hb => ?_⟩
        have hb' : b = p := by simpa using hb
        subst hb'
        intro e3
        subst e3
        obtain ⟨x, hx, hxa⟩ := List.mem_map.mp ha
        exact z (List.any_eq_true.mpr ⟨x, hx, by simp [hxa]⟩)
theorem putWord_len : ∀ {cs ps : Word} {k : Key}, cs.length ≠ ps.length → putWord k cs ps = none
  | [], [], k, h => absurd rfl h
  | [], _ :: _, _, _ => rfl
  | _ :: _, [], _, _ => rfl
  | c :: cs, p :: ps, k, h => by
    show (put k c p).bind _ = none
    cases put k c p with
    | none => rfl
    | some x => exact putWord_len (k := x) (cs := cs) (ps := ps) (by simpa using h)
theorem add1_keys {k x : Key} {c p : Nat} (hk : keysND k) (h : add1 k c p = some x) : keysND x := by
  unfold add1 at h
  cases e : standsFor k c with
  | some q =>
    rw [e] at h
    dsimp only at h
    by_cases z : q = p
    · rw [if_pos z] at h
      cases h
      exact hk
    · rw [if_neg z] at h
      cases h
  | none =>
    rw [e] at h
    cases h
    unfold keysND
    rw [List.map_append, List.nodup_append]
    refine ⟨hk, by simp, fun a ha b hb => ?_⟩
    have hb' : b = c := by simpa using hb
    subst hb'
    intro e3
    subst e3
    exact stands_none.mp e ha
theorem addW_keys : ∀ {cs ps : Word} {k x : Key}, keysND k → addW k cs ps = some x → keysND x
  | [], _, k, x, hk, h => by
    unfold addW at h
    cases h
    exact hk
  | _ :: _, [], k, x, hk, h => by
    unfold addW at h
    cases h
    exact hk
  | c :: cs, p :: ps, k, x, hk, h => by
    unfold addW at h
    cases e : add1 k c p with
    | none =>
      rw [e] at h
      cases h
    | some y =>
      rw [e] at h
      exact addW_keys (add1_keys hk e) h
theorem add1_len {k x : Key} {c p : Nat} (h : add1 k c p = some x) : x.length ≤ k.length + 1 := by
  unfold add1 at h
  cases e : standsFor k c with
  | some q =>
    rw [e] at h
    dsimp only at h
    by_cases z : q = p
    · rw [if_pos z] at h
      cases h
      exact Nat.le_succ _
    · rw [if_neg z] at h
      cases h
  | none =>
    rw [e] at h
    cases h
    simp
theorem putWord_ok {cs ps : Word} {k x : Key} (hk : keysND k) (hv : valsND k) (h : putWord k cs ps = some x) : keysND x ∧ valsND x := by
  by_cases hl : cs.length = ps.length
  · rw [putWord_eq hv hl] at h
    cases e : addW k cs ps with
    | none =>
      rw [e] at h
      cases h
    | some y =>
      rw [e] at h
      by_cases z : valsND y
      · have h' : (if valsND y then some y else none) = some x := h
        rw [if_pos z] at h'
        cases h'
        exact ⟨addW_keys hk e, z⟩
      · have h' : (if valsND y then some y else none) = some x := h
        rw [if_neg z] at h'
        cases h'
  · rw [putWord_len hl] at h
    cases h
theorem addW_snoc : ∀ {cs ps : Word} {k : Key} {c p : Nat}, cs.length = ps.length → addW k (cs ++ [c]) (ps ++ [p]) = (addW k cs ps).bind fun x => add1 x c p
  | [], [], k, c, p, _ => by
    show (match add1 k c p with
      | none => none
      | some x => addW x [] []) = add1 k c p
    cases add1 k c p <;> rfl
  | [], _ :: _, _, _, _, h => by cases h
  | _ :: _, [], _, _, _, h => by cases h
  | a :: cs, b :: ps, k, c, p, h => by
    show (match add1 k a b with
      | none => none
      | some x => addW x (cs ++ [c]) (ps ++ [p])) = (match add1 k a b with
      | none => none
      | some x => addW x cs ps).bind _
    cases add1 k a b with
    | none => rfl
    | some x => exact addW_snoc (k := x) (by simpa using h)
theorem addW_none_pre : ∀ {cs ps cs2 ps2 : Word} {k : Key}, cs.length = ps.length → addW k cs ps = none → addW k (cs ++ cs2) (ps ++ ps2) = none
  | [], [], _, _, k, _, h => by cases h
  | [], _ :: _, _, _, _, h, _ => by cases h
  | _ :: _, [], _, _, _, h, _ => by cases h
  | a :: cs, b :: ps, cs2, ps2, k, hl, h => by
    have h' : (match add1 k a b with
      | none => none
      | some x => addW x cs ps) = none := h
    show (match add1 k a b with
      | none => none
      | some x => addW x (cs ++ cs2) (ps ++ ps2)) = none
    cases e : add1 k a b with
    | none => rfl
    | some x =>
      rw [e] at h'
      exact addW_none_pre (k := x) (by simpa using hl) h'
theorem nodup_len : ∀ {ks vs : List Int}, ks.Nodup → (∀ x ∈ ks, x ∈ vs) → ks.length ≤ vs.length
  | [], _, _, _ => Nat.zero_le _
  | x :: ks, vs, nd, sub => by
    rw [List.nodup_cons] at nd
    have hx : x ∈ vs := sub x (by simp)
    have ih := nodup_len (ks := ks) (vs := vs.erase x) nd.2 fun y hy => (List.mem_erase_of_ne (show y ≠ x from fun e => nd.1 (by rw [← e]; exact hy))).mpr (sub y (by simp [hy]))
    rw [List.length_erase_of_mem hx] at ih
    have : 0 < vs.length := List.length_pos_of_mem hx
    simp only [List.length_cons]
    omega
theorem dup_len : ∀ {vs ks : List Int}, ks.Nodup → (∀ x ∈ ks, x ∈ vs) → ¬ vs.Nodup → ks.length < vs.length
  | [], _, _, _, h => absurd List.nodup_nil h
  | v :: r, ks, nd, sub, h => by
    by_cases hv : v ∈ r
    · have := nodup_len (ks := ks) (vs := r) nd fun x hx => by
        rcases List.mem_cons.mp (sub x hx) with e | e
        · rw [e]
          exact hv
        · exact e
      simp only [List.length_cons]
      omega
    · have hr : ¬ r.Nodup := fun z => h (List.nodup_cons.mpr ⟨hv, z⟩)
      have ih := dup_len (vs := r) (ks := ks.erase v) (nd.erase v) (fun x hx => by
        have hx2 := (List.Nodup.mem_erase_iff nd).mp hx
        rcases List.mem_cons.mp (sub x hx2.2) with e | e
        · exact absurd e hx2.1
        · exact e) hr
      have : ks.length ≤ (ks.erase v).length + 1 := by
        rw [List.length_erase]
        split <;> omega
      simp only [List.length_cons]
      omega
theorem len_eq_iff {ks vs : List Int} (nd : ks.Nodup) (mem : ∀ x, x ∈ ks ↔ x ∈ vs) : ks.length = vs.length ↔ vs.Nodup := by
  constructor
  · intro e
    by_cases h : vs.Nodup
    · exact h
    · have := dup_len nd (fun x hx => (mem x).mp hx) h
      omega
  · intro h
    have h1 := nodup_len nd fun x hx => (mem x).mp hx
    have h2 := nodup_len h fun x hx => (mem x).mpr hx
    omega
theorem nodup_int {l : List Nat} : (l.map fun (m : Nat) => (m : Int)).Nodup ↔ l.Nodup := by
  constructor
  · intro h
    exact (List.pairwise_map.mp h).imp fun {a b} z e => z (by rw [e])
  · intro h
    exact List.pairwise_map.mpr (h.imp fun {a b} z e => z (by omega))
end LM1
end
section
set_option Elab.async false
set_option linter.all false
namespace LM1
open Uw63
noncomputable def PI (k : Key) : Prop := ∀ x ∈ k, ∀ y ∈ k, x.1 = y.1 ↔ x.2 = y.2
theorem PI.sub {a b : Key} (h : PI b) (s : ∀ x ∈ a, x ∈ b) : PI a := fun x hx y hy => h x (s x hx) y (s y hy)
theorem nd_eq {α β : Type} {f : α → β} : ∀ {l : List α}, (l.map f).Nodup → ∀ x ∈ l, ∀ y ∈ l, f x = f y → x = y
  | [], _, x, hx, _, _, _ => by cases hx
  | a :: l, nd, x, hx, y, hy, e => by
    rw [List.map_cons, List.nodup_cons] at nd
    rcases List.mem_cons.mp hx with ex | hx'
    · rcases List.mem_cons.mp hy with ey | hy'
      · rw [ex, ey]
      · exact absurd (List.mem_map.mpr ⟨y, hy', by rw [← e, ex]⟩) nd.1
    · rcases List.mem_cons.mp hy with ey | hy'
      · exact absurd (List.mem_map.mpr ⟨x, hx', by rw [e, ey]⟩) nd.1
      · exact nd_eq nd.2 x hx' y hy' e
theorem PI.of {k : Key} (hk : keysND k) (hv : valsND k) : PI k := fun x hx y hy => ⟨fun e => by rw [nd_eq hk x hx y hy e], fun e => by rw [nd_eq hv x hx y hy e]⟩
theorem put_mem {k x : Key} {c p : Nat} (h : put k c p = some x) (y : Nat × Nat) : y ∈ x ↔ y ∈ k ∨ y = (c, p) := by
  unfold put at h
  cases e : standsFor k c with
  | some q =>
    rw [e] at h
    dsimp only at h
    by_cases z : q = p
    · rw [if_pos z] at h
      cases h
      subst z
      exact ⟨.inl, fun u => u.elim id fun u => by rw [u]; exact stands_mem e⟩
    · rw [if_neg z] at h
      cases h
  | none =>
    rw [e] at h
    dsimp only at h
    by_cases z : (k.any fun x => x.2 == p) = true
    · rw [if_pos z] at h
      cases h
    · rw [if_neg z] at h
      cases h
      rw [List.mem_append, List.mem_singleton]
theorem put_some {k : Key} {c p : Nat} (hk : PI k) : (put k c p).isSome = true ↔ PI ((c, p) :: k) := by
  unfold put
  cases e : standsFor k c with
  | some q =>
    dsimp only
    have m := stands_mem e
    by_cases z : q = p
    · rw [if_pos z]
      subst z
      exact ⟨fun _ => hk.sub fun x hx => by
        rcases List.mem_cons.mp hx with rfl | hx
        · exact m
        · exact hx, fun _ => rfl⟩
    · rw [if_neg z]
      constructor
      · intro h
        cases h
      · intro h
        exact absurd ((h (c, q) (List.mem_cons_of_mem _ m) (c, p) (by simp)).mp rfl) z
  | none =>
    dsimp only
    have nk := stands_none.mp e
    by_cases z : (k.any fun x => x.2 == p) = true
    · rw [if_pos z]
      constructor
      · intro h
        cases h
      · intro h
        obtain ⟨x, hx, hxp⟩ := List.any_eq_true.mp z
        have hxp' : x.2 = p := by simpa using hxp
        have := (h x (List.mem_cons_of_mem _ hx) (c, p) (by simp)).mpr hxp'
        exact absurd (List.mem_map.mpr ⟨x, hx, this⟩) nk
    · rw [if_neg z]
      refine ⟨fun _ => ?_, fun _ => rfl⟩
      have n1 : ∀ x ∈ k, x.1 ≠ c := fun x hx u => nk (List.mem_map.mpr ⟨x, hx, u⟩)
      have n2 : ∀ x ∈ k, x.2 ≠ p := fun x hx u => z (List.any_eq_true.mpr ⟨x, hx, by simp [u]⟩)
      intro x hx y hy
      rcases List.mem_cons.mp hx with rfl | hx
      · rcases List.mem_cons.mp hy with rfl | hy
        · exact ⟨fun _ => rfl, fun _ => rfl⟩
        · exact ⟨fun u => absurd u.symm (n1 y hy), fun u => absurd u.symm (n2 y hy)⟩
      · rcases List.mem_cons.mp hy with rfl | hy
        · exact ⟨fun u => absurd u (n1 x hx), fun u => absurd u (n2 x hx)⟩
        · exact hk x hx y hy
theorem putWord_mem : ∀ {cs ps : Word} {k x : Key}, putWord k cs ps = some x → ∀ y, y ∈ x ↔ y ∈ k ∨ y ∈ cs.zip ps
  | [], [], k, x, h, y => by
    cases h
    simp
  | [], _ :: _, _, _, h, _ => by cases h
  | _ :: _, [], _, _, h, _ => by cases h
  | c :: cs, p :: ps, k, x, h, y => by
    have h : (put k c p).bind (fun x => putWord x cs ps) = some x := h
    cases e : put k c p with
    | none =>
      rw [e] at h
      cases h
    | some z =>
      rw [e] at h
      rw [putWord_mem (k := z) h y, put_mem e y, List.zip_cons_cons, List.mem_cons, or_assoc]
theorem putWord_some : ∀ {cs ps : Word} {k : Key}, PI k → ((putWord k cs ps).isSome = true ↔ cs.length = ps.length ∧ PI (cs.zip ps ++ k))
  | [], [], k, hk => ⟨fun _ => ⟨rfl, hk⟩, fun _ => rfl⟩
  | [], _ :: _, _, _ => ⟨fun h => (by cases h), fun h => absurd h.1 (by simp)⟩
  | _ :: _, [], _, _ => ⟨fun h => (by cases h), fun h => absurd h.1 (by simp)⟩
  | c :: cs, p :: ps, k, hk => by
    show ((put k c p).bind (fun x => putWord x cs ps)).isSome = true ↔ _
    have hs := put_some (c := c) (p := p) hk
    cases e : put k c p with
    | none =>
      rw [e] at hs
      constructor
      · intro h
        cases h
      · rintro ⟨_, h⟩
        have := hs.mpr (h.sub fun x hx => by
          rcases List.mem_cons.mp hx with rfl | hx
          · simp
          · simp [hx])
        cases this
    | some z =>
      rw [e] at hs
      have hz0 := hs.mp rfl
      have hz : PI z := hz0.sub fun x hx => by
        rcases (put_mem e x).mp hx with u | u
        · exact List.mem_cons_of_mem _ u
        · rw [u]
          simp
      show (putWord z cs ps).isSome = true ↔ _
      rw [putWord_some hz, List.length_cons, List.length_cons, Nat.add_right_cancel_iff]
      refine and_congr_right fun _ => ⟨fun h => h.sub fun x hx => ?_, fun h => h.sub fun x hx => ?_⟩
      · rw [List.zip_cons_cons, List.cons_append, List.mem_cons, List.mem_append] at hx
        rw [List.mem_append, put_mem e x]
        rcases hx with u | u | u
        · exact .inr (.inr u)
        · exact .inl u
        · exact .inr (.inl u)
      · rw [List.zip_cons_cons, List.cons_append, List.mem_cons, List.mem_append]
        rw [List.mem_append, put_mem e x] at hx
        rcases hx with u | u | u
        · exact .inr (.inl u)
        · exact .inr (.inr u)
        · exact .inl u
theorem fits_sub {k h : Key} {cs ps : Word} (hk : PI k) (s : ∀ x ∈ h, x ∈ k) (f : (putWord k cs ps).isSome = true) : (putWord h cs ps).isSome = true := by
  have q := (putWord_some hk).mp f
  refine (putWord_some (hk.sub s)).mpr ⟨q.1, q.2.sub fun x hx => ?_⟩
  rcases List.mem_append.mp hx with u | u
  · exact List.mem_append.mpr (.inl u)
  · exact List.mem_append.mpr (.inr (s x u))
theorem putWord_PI {cs ps : Word} {k x : Key} (hk : PI k) (h : putWord k cs ps = some x) : PI x := by
  have q := (putWord_some hk).mp (by rw [h]; rfl)
  exact q.2.sub fun y hy => by
    rcases (putWord_mem h y).mp hy with u | u
    · exact List.mem_append.mpr (.inr u)
    · exact List.mem_append.mpr (.inl u)
noncomputable def fits (list : List Word) (k : Key) (c : Word) : List Nat := (list.zipIdx.filter fun x => (putWord k c x.1).isSome).map fun x => x.2
theorem mem_fits {list : List Word} {k : Key} {c : Word} {u : Nat} : u ∈ fits list k c ↔ ∃ w, list[u]? = some w ∧ (putWord k c w).isSome = true := by
  unfold fits
  rw [List.mem_map]
  constructor
  · rintro ⟨⟨w, v⟩, h, rfl⟩
    rw [List.mem_filter] at h
    exact ⟨w, List.mem_zipIdx_iff_getElem?.mp h.1, h.2⟩
  · rintro ⟨w, h1, h2⟩
    exact ⟨(w, u), List.mem_filter.mpr ⟨List.mem_zipIdx_iff_getElem?.mpr h1, h2⟩, rfl⟩
noncomputable def bitsOf (l : List Nat) : Nat := l.foldl (fun b n => b ||| 2 ^ n) 0
theorem bits_foldl : ∀ (l : List Nat) (b v : Nat), (l.foldl (fun b n => b ||| 2 ^ n) b).testBit v = true ↔ b.testBit v = true ∨ v ∈ l
  | [], b, v => by simp
  | n :: l, b, v => by
    rw [List.foldl_cons, bits_foldl l, Nat.testBit_or, Nat.testBit_two_pow, List.mem_cons, Bool.or_eq_true, decide_eq_true_eq, or_assoc, eq_comm (a := n)]
theorem mem_bits {l : List Nat} {v : Nat} : (bitsOf l).testBit v = true ↔ v ∈ l := by
  unfold bitsOf
  rw [bits_foldl]
  simp
theorem bits_ne {b v : Nat} (h : b.testBit v = true) : b ≠ 0 := fun e => by
  rw [e, Nat.zero_testBit] at h
  cases h
theorem bits_lt {b : Nat} {m : Nat} (h : ∀ v, b.testBit v = true → v < m) : b < 2 ^ m := by
  refine Nat.lt_of_not_le fun hle => ?_
  obtain ⟨i, hi, hb⟩ := Nat.exists_ge_and_testBit_of_ge_two_pow hle
  have := h i hb
  omega
noncomputable def besideOf (list text : List Word) (hints : Key) : List (List (Nat × List Nat)) :=
  text.map fun c => (fits list hints c).map fun u => (u, text.map fun o => bitsOf (fits list ((putWord hints c (list.getD u [])).getD []) o))
noncomputable def freeOf (list text : List Word) (hints : Key) : List Nat := text.map fun c => bitsOf (fits list hints c)
noncomputable def readable (bes : List (List (Nat × List Nat))) : List Nat → List Nat → Bool
  | [], _ => true
  | p :: rest, free => (bes.getD p []).any fun x => (free.getD p 0).testBit x.1 && (rest.all (fun q => (List.zipWith (· &&& ·) free x.2).getD q 0 != 0) && readable bes rest (List.zipWith (· &&& ·) free x.2))
structure Free (list text : List Word) (sel : List Key) (free : List Nat) : Prop where
  len : free.length = text.length
  bit : ∀ q c, text[q]? = some c → ∀ v, (free.getD q 0).testBit v = true ↔ ∃ w, list[v]? = some w ∧ ∀ L ∈ sel, (putWord L c w).isSome = true
structure Cover (sel : List Key) (K : Key) : Prop where
  pi : PI K
  ne : ∃ L, L ∈ sel
  sub : ∀ L ∈ sel, ∀ x ∈ L, x ∈ K
  cov : ∀ x ∈ K, ∃ L ∈ sel, x ∈ L
theorem Cover.fits {sel : List Key} {K : Key} (C : Cover sel K) {c w : Word} : (∀ L ∈ sel, (putWord L c w).isSome = true) ↔ (putWord K c w).isSome = true := by
  constructor
  · intro h
    have hL : ∀ L ∈ sel, c.length = w.length ∧ PI (c.zip w ++ L) := fun L hL => (putWord_some (C.pi.sub (C.sub L hL))).mp (h L hL)
    obtain ⟨L0, hL0⟩ := C.ne
    refine (putWord_some C.pi).mpr ⟨(hL L0 hL0).1, fun x hx y hy => ?_⟩
    rcases List.mem_append.mp hx with ux | ux
    · rcases List.mem_append.mp hy with uy | uy
      · exact (hL L0 hL0).2 x (List.mem_append.mpr (.inl ux)) y (List.mem_append.mpr (.inl uy))
      · obtain ⟨L, h1, h2⟩ := C.cov y uy
        exact (hL L h1).2 x (List.mem_append.mpr (.inl ux)) y (List.mem_append.mpr (.inr h2))
    · rcases List.mem_append.mp hy with uy | uy
      · obtain ⟨L, h1, h2⟩ := C.cov x ux
        exact (hL L h1).2 x (List.mem_append.mpr (.inr h2)) y (List.mem_append.mpr (.inl uy))
      · exact C.pi x ux y uy
  · intro h L hL
    exact fits_sub C.pi (C.sub L hL) h
theorem can_one : ∀ {list cs : List Word} {k : Key}, PI k → can list k cs = true → ∀ c ∈ cs, ∃ w ∈ list, (putWord k c w).isSome = true
  | _, [], _, _, _, c, hc => by cases hc
  | list, a :: cs, k, hk, h, c, hc => by
    unfold can at h
    obtain ⟨w, hw, h⟩ := List.any_eq_true.mp h
    cases e : putWord k a w with
    | none =>
      rw [e] at h
      cases h
    | some x =>
      rw [e] at h
      rcases List.mem_cons.mp hc with rfl | hc
      · exact ⟨w, hw, by rw [e]; rfl⟩
      · obtain ⟨w', hw', h'⟩ := can_one (putWord_PI hk e) h c hc
        exact ⟨w', hw', fits_sub (putWord_PI hk e) (fun y hy => (putWord_mem e y).mpr (.inl hy)) h'⟩
theorem zipAnd_getD (a b : List Nat) (q : Nat) : (List.zipWith (· &&& ·) a b).getD q 0 = a.getD q 0 &&& b.getD q 0 := by
  rw [List.getD_eq_getElem?_getD, List.getD_eq_getElem?_getD, List.getD_eq_getElem?_getD, List.getElem?_zipWith]
  cases a[q]? <;> cases b[q]? <;> simp
theorem getD_some {α : Type} {l : List α} {i : Nat} {x y : α} (h : l[i]? = some x) : l.getD i y = x := by
  rw [List.getD_eq_getElem?_getD, h]
  rfl
theorem readable_can {list text : List Word} {hints : Key} (hh : PI hints) : ∀ {places : List Nat} {sel : List Key} {free : List Nat} {K : Key}, (∀ p ∈ places, p < text.length) → Free list text sel free → Cover sel K → (∀ x ∈ hints, x ∈ K) →
    readable (besideOf list text hints) places free = can list K (places.map fun p => text.getD p [])
  | [], _, _, _, _, _, _, _ => rfl
  | p :: rest, sel, free, K, hp, F, C, hK => by
    have hpl : p < text.length := hp p (by simp)
    obtain ⟨c, hc⟩ : ∃ c, text[p]? = some c := ⟨_, List.getElem?_eq_getElem hpl⟩
    have eb : (besideOf list text hints).getD p [] = (fits list hints c).map fun u => (u, text.map fun o => bitsOf (fits list ((putWord hints c (list.getD u [])).getD []) o)) := by
      refine getD_some ?_
      unfold besideOf
      rw [List.getElem?_map, hc]
      rfl
    have step : ∀ (u : Nat) (w : Word) (x y : Key), list[u]? = some w → putWord K c w = some x → putWord hints c w = some y →
        Free list text (y :: sel) (List.zipWith (· &&& ·) free (text.map fun o => bitsOf (fits list ((putWord hints c (list.getD u [])).getD []) o))) ∧ Cover (y :: sel) x ∧ ∀ z ∈ hints, z ∈ x := by
      intro u w x y hu hx hy
      have ew : (putWord hints c (list.getD u [])).getD [] = y := by
        rw [getD_some hu, hy]
        rfl
      rw [ew]
      refine ⟨⟨by rw [List.length_zipWith, List.length_map, F.len, Nat.min_self], fun q o hq v => ?_⟩, ⟨putWord_PI C.pi hx, ⟨y, by simp⟩, fun L hL z hz => ?_, fun z hz => ?_⟩, fun z hz => (putWord_mem hx z).mpr (.inl (hK z hz))⟩
      · have e2 : (text.map fun o => bitsOf (fits list y o)).getD q 0 = bitsOf (fits list y o) := getD_some (by rw [List.getElem?_map, hq]; rfl)
        rw [zipAnd_getD, Nat.testBit_and, Bool.and_eq_true, F.bit q o hq v, e2, mem_bits, mem_fits]
        constructor
        · rintro ⟨⟨w1, h1, h2⟩, w2, h3, h4⟩
          rw [h1] at h3
          cases h3
          exact ⟨w1, h1, fun L hL => by
            rcases List.mem_cons.mp hL with rfl | hL
            · exact h4
            · exact h2 L hL⟩
        · rintro ⟨w1, h1, h2⟩
          exact ⟨⟨w1, h1, fun L hL => h2 L (by simp [hL])⟩, w1, h1, h2 y (by simp)⟩
      · rw [putWord_mem hx]
        rcases List.mem_cons.mp hL with rfl | hL
        · rcases (putWord_mem hy z).mp hz with u | u
          · exact .inl (hK z u)
          · exact .inr u
        · exact .inl (C.sub L hL z hz)
      · rcases (putWord_mem hx z).mp hz with u | u
        · obtain ⟨L, h1, h2⟩ := C.cov z u
          exact ⟨L, by simp [h1], h2⟩
        · exact ⟨y, by simp, (putWord_mem hy z).mpr (.inr u)⟩
    have hrest : ∀ q ∈ rest, q < text.length := fun q hq => hp q (by simp [hq])
    rw [Bool.eq_iff_iff, List.map_cons, getD_some hc]
    unfold readable can
    rw [eb, List.any_eq_true, List.any_eq_true]
    constructor
    · rintro ⟨⟨u, oth⟩, hm, ht⟩
      obtain ⟨u', hu', e⟩ := List.mem_map.mp hm
      cases e
      dsimp only at ht
      rw [Bool.and_eq_true, Bool.and_eq_true] at ht
      obtain ⟨h1, _, h3⟩ := ht
      obtain ⟨w, hw, hf⟩ := (F.bit p c hc u).mp h1
      have hx' := C.fits.mp hf
      have hy' := fits_sub C.pi hK hx'
      obtain ⟨x, hx⟩ := Option.isSome_iff_exists.mp hx'
      obtain ⟨y, hy⟩ := Option.isSome_iff_exists.mp hy'
      obtain ⟨F', C', hK'⟩ := step u w x y hw hx hy
      refine ⟨w, List.mem_of_getElem? hw, ?_⟩
      rw [hx]
      show can list x _ = true
      rw [← readable_can hh hrest F' C' hK']
      exact h3
    · rintro ⟨w, hw, h⟩
      obtain ⟨u, hu⟩ := List.mem_iff_getElem?.mp hw
      cases hx : putWord K c w with
      | none =>
        rw [hx] at h
        cases h
      | some x =>
        rw [hx] at h
        have h : can list x (rest.map fun p => text.getD p []) = true := h
        have hx' : (putWord K c w).isSome = true := by rw [hx]; rfl
        have hy' := fits_sub C.pi hK hx'
        obtain ⟨y, hy⟩ := Option.isSome_iff_exists.mp hy'
        obtain ⟨F', C', hK'⟩ := step u w x y hu hx hy
        refine ⟨(u, text.map fun o => bitsOf (fits list ((putWord hints c (list.getD u [])).getD []) o)), List.mem_map.mpr ⟨u, mem_fits.mpr ⟨w, hu, hy'⟩, rfl⟩, ?_⟩
        dsimp only
        rw [Bool.and_eq_true, Bool.and_eq_true]
        refine ⟨(F.bit p c hc u).mpr ⟨w, hu, C.fits.mpr hx'⟩, List.all_eq_true.mpr fun q hq => ?_, ?_⟩
        · have hql := hrest q hq
          obtain ⟨o, ho⟩ : ∃ o, text[q]? = some o := ⟨_, List.getElem?_eq_getElem hql⟩
          obtain ⟨w', hw', h'⟩ := can_one C'.pi h o (List.mem_map.mpr ⟨q, hq, getD_some ho⟩)
          obtain ⟨v, hv⟩ := List.mem_iff_getElem?.mp hw'
          have hb := (F'.bit q o ho v).mpr ⟨w', hv, C'.fits.mpr h'⟩
          simpa using bits_ne hb
        · rw [readable_can hh hrest F' C' hK']
          exact h
theorem free0 {list text : List Word} {hints : Key} : Free list text [hints] (freeOf list text hints) := by
  refine ⟨List.length_map _, fun q c hq v => ?_⟩
  have e : (freeOf list text hints).getD q 0 = bitsOf (fits list hints c) := getD_some (by unfold freeOf; rw [List.getElem?_map, hq]; rfl)
  rw [e, mem_bits, mem_fits]
  constructor
  · rintro ⟨w, h1, h2⟩
    exact ⟨w, h1, fun L hL => by rw [List.mem_singleton.mp hL]; exact h2⟩
  · rintro ⟨w, h1, h2⟩
    exact ⟨w, h1, h2 hints (by simp)⟩
theorem cover0 {hints : Key} (h : PI hints) : Cover [hints] hints := ⟨h, ⟨hints, by simp⟩, fun L hL x hx => by rw [← List.mem_singleton.mp hL]; exact hx, fun x hx => ⟨hints, by simp, hx⟩⟩
theorem readable_eq {list text : List Word} {hints : Key} (h : PI hints) {places : List Nat} (hp : ∀ p ∈ places, p < text.length) :
    readable (besideOf list text hints) places (freeOf list text hints) = can list hints (places.map fun p => text.getD p []) := readable_can h hp free0 (cover0 h) fun _ z => z
end LM1
end
section
set_option Elab.async false
set_option linter.all false
namespace LM1
open Uw63
noncomputable def nextK (list : List Word) (ks : List Key) (c : Word) : List Key := ks.flatMap fun k => list.filterMap (putWord k c)
theorem zipIdx_fm {α β : Type} (f : α → Option β) : ∀ (l : List α) (i : Nat), (l.zipIdx i).filterMap (fun x => f x.1) = l.filterMap f
  | [], _ => rfl
  | a :: l, i => by
    rw [List.zipIdx_cons, List.filterMap_cons, List.filterMap_cons, zipIdx_fm f l (i + 1)]
theorem further_key (list : List Word) (l : List Way) (c : Word) : (further list l c).map (·.key) = nextK list (l.map (·.key)) c := by
  unfold further nextK
  rw [List.map_flatMap, List.flatMap_map]
  congr 1
  funext w
  rw [List.map_filterMap, ← zipIdx_fm (putWord w.key c) list 0]
  congr 1
  funext x
  cases putWord w.key c x.1 <;> rfl
theorem further_len (list : List Word) (l : List Way) (c : Word) : (further list l c).length = (nextK list (l.map (·.key)) c).length := by
  rw [← further_key, List.length_map]
noncomputable def fitW (list : List Word) (h : Key) (c : Word) : List Word := list.filter fun w => (putWord h c w).isSome
theorem fits_cons (list : List Word) (h : Key) (c : Word) : (fits list h c).map (fun u => list.getD u []) = fitW list h c := by
  have key : ∀ (l : List Word) (i : Nat), (∀ j w, l[j]? = some w → list[i + j]? = some w) → ((l.zipIdx i).filter fun x => (putWord h c x.1).isSome).map (fun x => list.getD x.2 []) = l.filter fun w => (putWord h c w).isSome := by
    intro l
    induction l with
    | nil => intro i _; rfl
    | cons a l ih =>
      intro i hl
      rw [List.zipIdx_cons, List.filter_cons, List.filter_cons]
      have e := ih (i + 1) fun j w hj => by
        have := hl (j + 1) w (by simpa using hj)
        rw [← this]
        congr 1
        omega
      have e0 : list.getD i [] = a := getD_some (by simpa using hl 0 a rfl)
      dsimp only
      by_cases z : (putWord h c a).isSome = true
      · rw [if_pos z, if_pos z, List.map_cons, e]
        dsimp only
        rw [e0]
      · rw [if_neg z, if_neg z, e]
  unfold fits fitW
  rw [List.map_map]
  exact key list 0 fun j w hj => by rw [Nat.zero_add]; exact hj
theorem fitW_fm {list : List Word} {h k : Key} {c : Word} (hk : PI k) (s : ∀ x ∈ h, x ∈ k) : (fitW list h c).filterMap (putWord k c) = list.filterMap (putWord k c) := by
  unfold fitW
  induction list with
  | nil => rfl
  | cons a l ih =>
    rw [List.filter_cons]
    by_cases z : (putWord h c a).isSome = true
    · rw [if_pos z, List.filterMap_cons, List.filterMap_cons, ih]
    · rw [if_neg z, ih, List.filterMap_cons]
      cases e : putWord k c a with
      | none => rfl
      | some x => exact absurd (fits_sub hk s (by rw [e]; rfl)) z
structure KOk (h k : Key) : Prop where
  kn : keysND k
  vn : valsND k
  sub : ∀ x ∈ h, x ∈ k
theorem KOk.pi {h k : Key} (q : KOk h k) : PI k := PI.of q.kn q.vn
theorem KOk.put {h k x : Key} {c w : Word} (q : KOk h k) (e : putWord k c w = some x) : KOk h x := ⟨(putWord_ok q.kn q.vn e).1, (putWord_ok q.kn q.vn e).2, fun y hy => (putWord_mem e y).mpr (.inl (q.sub y hy))⟩
theorem nextK_fit {list : List Word} {h : Key} {c : Word} {ks : List Key} (hk : ∀ k ∈ ks, KOk h k) : nextK (fitW list h c) ks c = nextK list ks c := by
  unfold nextK
  induction ks with
  | nil => rfl
  | cons k ks ih => rw [List.flatMap_cons, List.flatMap_cons, ih fun k' h' => hk k' (by simp [h']), fitW_fm (hk k (by simp)).pi (hk k (by simp)).sub]
theorem mem_nextK {list : List Word} {ks : List Key} {c : Word} {x : Key} : x ∈ nextK list ks c ↔ ∃ k ∈ ks, ∃ w ∈ list, putWord k c w = some x := by
  unfold nextK
  rw [List.mem_flatMap]
  constructor
  · rintro ⟨k, hk, h⟩
    obtain ⟨w, hw, e⟩ := List.mem_filterMap.mp h
    exact ⟨k, hk, w, hw, e⟩
  · rintro ⟨k, hk, w, hw, e⟩
    exact ⟨k, hk, List.mem_filterMap.mpr ⟨w, hw, e⟩⟩
theorem nextK_ok {list : List Word} {h : Key} {c : Word} {ks : List Key} (hk : ∀ k ∈ ks, KOk h k) : ∀ x ∈ nextK list ks c, KOk h x := fun x hx => by
  obtain ⟨k, h1, w, _, e⟩ := mem_nextK.mp hx
  exact (hk k h1).put e
theorem put_len {k x : Key} {c p : Nat} (h : put k c p = some x) : x.length ≤ k.length + 1 := by
  unfold put at h
  cases e : standsFor k c with
  | some q =>
    rw [e] at h
    dsimp only at h
    by_cases z : q = p
    · rw [if_pos z] at h
      cases h
      omega
    · rw [if_neg z] at h
      cases h
  | none =>
    rw [e] at h
    dsimp only at h
    by_cases z : (k.any fun x => x.2 == p) = true
    · rw [if_pos z] at h
      cases h
    · rw [if_neg z] at h
      cases h
      simp
theorem putWord_len2 : ∀ {cs ps : Word} {k x : Key}, putWord k cs ps = some x → x.length ≤ k.length + cs.length
  | [], [], k, x, h => by
    cases h
    simp
  | [], _ :: _, _, _, h => by cases h
  | _ :: _, [], _, _, h => by cases h
  | c :: cs, p :: ps, k, x, h => by
    have h : (put k c p).bind (fun x => putWord x cs ps) = some x := h
    cases e : put k c p with
    | none =>
      rw [e] at h
      cases h
    | some z =>
      rw [e] at h
      have h1 := putWord_len2 (k := z) h
      have h2 := put_len e
      rw [List.length_cons]
      omega
theorem nextK_len {list : List Word} {c : Word} {ks : List Key} {m : Nat} (hk : ∀ k ∈ ks, k.length ≤ m) (hc : c.length ≤ 8) : ∀ x ∈ nextK list ks c, x.length ≤ m + 8 := fun x hx => by
  obtain ⟨k, h1, w, _, e⟩ := mem_nextK.mp hx
  have := putWord_len2 e
  have := hk k h1
  omega
noncomputable def readK (list : List Word) : List Key → List Word → Option (List Key)
  | ks, [] => some ks
  | ks, c :: r => if 2000 < (nextK list ks c).length then none else readK list (nextK list ks c) r
theorem readFrom_key (list : List Word) : ∀ (cs : List Word) (l : List Way), (readFrom list l cs).map (fun l => l.map (·.key)) = readK list (l.map (·.key)) cs
  | [], l => rfl
  | c :: r, l => by
    unfold readFrom readK
    dsimp only
    rw [further_len]
    by_cases z : MANY < (nextK list (l.map (·.key)) c).length
    · rw [if_pos z, if_pos (show 2000 < _ from z)]
      rfl
    · rw [if_neg z, if_neg (show ¬ 2000 < _ from z), readFrom_key list r, further_key]
theorem stands_of {k : Key} (hk : keysND k) {c p : Nat} (h : (c, p) ∈ k) : standsFor k c = some p := by
  cases e : standsFor k c with
  | none => exact absurd (List.mem_map.mpr ⟨_, h, rfl⟩) (stands_none.mp e)
  | some q =>
    have := nd_eq hk (c, q) (stands_mem e) (c, p) h rfl
    cases this
    rfl
theorem putWord_reads {c w : Word} {k x : Key} (kn : keysND k) (vn : valsND k) (h : putWord k c w = some x) : c.map (standsFor x) = w.map some := by
  have hx := (putWord_ok kn vn h).1
  have hl : c.length = w.length := by
    by_cases z : c.length = w.length
    · exact z
    · rw [putWord_len z] at h
      cases h
  refine List.ext_getElem? fun i => ?_
  rw [List.getElem?_map, List.getElem?_map]
  cases e : c[i]? with
  | none =>
    rw [List.getElem?_eq_none_iff] at e
    rw [List.getElem?_eq_none_iff.mpr (by omega)]
    rfl
  | some a =>
    have hi : i < c.length := (List.getElem?_eq_some_iff.mp e).1
    have e2 : w[i]? = some w[i] := List.getElem?_eq_getElem (by omega)
    rw [e2]
    show some (standsFor x a) = some (some w[i])
    have hm : (a, w[i]) ∈ c.zip w := by
      refine List.mem_iff_getElem?.mpr ⟨i, ?_⟩
      rw [List.getElem?_zip_eq_some]
      exact ⟨e, e2⟩
    rw [stands_of hx ((putWord_mem h _).mpr (.inr hm))]
theorem reads_mono {c w : Word} {k x : Key} (hx : keysND x) (s : ∀ y ∈ k, y ∈ x) (h : c.map (standsFor k) = w.map some) : c.map (standsFor x) = w.map some := by
  rw [← h]
  refine List.map_congr_left fun a ha => ?_
  have : standsFor k a ∈ w.map some := by
    rw [← h]
    exact List.mem_map.mpr ⟨a, ha, rfl⟩
  obtain ⟨p, _, e⟩ := List.mem_map.mp this
  rw [← e]
  exact stands_of hx (s _ (stands_mem e.symm))
structure WOk (list : List Word) (h : Key) (cs : List Word) (w : Way) : Prop where
  ok : KOk h w.key
  len : w.words.length = cs.length
  rd : ∀ (i : Nat) (c : Word), cs[i]? = some c → ∃ (u : Nat) (t : Word), w.words[i]? = some u ∧ list[u]? = some t ∧ c.map (standsFor w.key) = t.map some
  src : ∀ x ∈ w.key, x ∈ h ∨ ∃ t ∈ list, x.2 ∈ t
theorem WOk.init {list : List Word} {h : Key} (kn : keysND h) (vn : valsND h) : WOk list h [] ⟨h, []⟩ := ⟨⟨kn, vn, fun _ z => z⟩, rfl, fun i c e => by simp at e, fun x hx => .inl hx⟩
theorem mem_further {list : List Word} {l : List Way} {c : Word} {y : Way} : y ∈ further list l c ↔ ∃ w ∈ l, ∃ u t, list[u]? = some t ∧ putWord w.key c t = some y.key ∧ y.words = w.words ++ [u] := by
  unfold further
  rw [List.mem_flatMap]
  constructor
  · rintro ⟨w, hw, h⟩
    obtain ⟨⟨t, u⟩, hm, e⟩ := List.mem_filterMap.mp h
    dsimp only at e
    cases e2 : putWord w.key c t with
    | none =>
      rw [e2] at e
      cases e
    | some k =>
      rw [e2] at e
      cases e
      exact ⟨w, hw, u, t, List.mem_zipIdx_iff_getElem?.mp hm, e2, rfl⟩
  · rintro ⟨w, hw, u, t, hu, e, e2⟩
    refine ⟨w, hw, List.mem_filterMap.mpr ⟨(t, u), List.mem_zipIdx_iff_getElem?.mpr hu, ?_⟩⟩
    dsimp only
    rw [e]
    cases y
    simp only at e2
    rw [e2]
    rfl
theorem WOk.step {list : List Word} {h : Key} {cs : List Word} {w y : Way} {c t : Word} {u : Nat} (q : WOk list h cs w) (hu : list[u]? = some t) (e : putWord w.key c t = some y.key) (e2 : y.words = w.words ++ [u]) : WOk list h (cs ++ [c]) y := by
  have hy := q.ok.put e
  refine ⟨hy, by rw [e2, List.length_append, List.length_append, q.len]; rfl, fun i o ho => ?_, fun x hx => ?_⟩
  · by_cases hi : i < cs.length
    · rw [List.getElem?_append_left hi] at ho
      obtain ⟨v, s, h1, h2, h3⟩ := q.rd i o ho
      refine ⟨v, s, ?_, h2, reads_mono hy.kn (fun x hx => (putWord_mem e x).mpr (.inl hx)) h3⟩
      rw [e2, List.getElem?_append_left (by rw [q.len]; exact hi)]
      exact h1
    · have hi2 : i = cs.length := by
        have := (List.getElem?_eq_some_iff.mp ho).1
        rw [List.length_append] at this
        simp at this
        omega
      subst hi2
      rw [List.getElem?_append_right (Nat.le_refl _), Nat.sub_self] at ho
      cases ho
      refine ⟨u, t, ?_, hu, putWord_reads q.ok.kn q.ok.vn e⟩
      rw [e2, List.getElem?_append_right (by rw [q.len]; exact Nat.le_refl _), q.len, Nat.sub_self]
      rfl
  · rcases (putWord_mem e x).mp hx with z | z
    · exact q.src x z
    · exact .inr ⟨t, List.mem_of_getElem? hu, (List.of_mem_zip z).2⟩
theorem further_ok {list : List Word} {h : Key} {cs : List Word} {l : List Way} {c : Word} (q : ∀ w ∈ l, WOk list h cs w) : ∀ y ∈ further list l c, WOk list h (cs ++ [c]) y := fun y hy => by
  obtain ⟨w, hw, u, t, hu, e, e2⟩ := mem_further.mp hy
  exact (q w hw).step hu e e2
noncomputable def Apart (l : List Way) : Prop := l.Pairwise fun a b => a.words ≠ b.words
theorem zipIdx_lt (l : List Word) : l.zipIdx.Pairwise fun a b => a.2 < b.2 := by
  have : (l.zipIdx.map Prod.snd).Pairwise (· < ·) := by
    rw [List.zipIdx_map_snd]
    exact List.pairwise_lt_range'
  exact List.pairwise_map.mp this
theorem further_apart {list : List Word} {l : List Way} {c : Word} (q : Apart l) : Apart (further list l c) := by
  unfold Apart further
  rw [List.pairwise_flatMap]
  constructor
  · intro w hw
    rw [List.pairwise_filterMap]
    refine (zipIdx_lt list).imp fun {a b} hab x hx y hy => ?_
    cases ea : putWord w.key c a.1 with
    | none =>
      rw [ea] at hx
      cases hx
    | some ka =>
      cases eb : putWord w.key c b.1 with
      | none =>
        rw [eb] at hy
        cases hy
      | some kb =>
        rw [ea] at hx
        rw [eb] at hy
        cases hx
        cases hy
        dsimp only
        intro z
        have := List.append_cancel_left z
        simp at this
        omega
  · refine q.imp fun {a b} hab x hx y hy => ?_
    obtain ⟨p, hp, ep⟩ := List.mem_filterMap.mp hx
    obtain ⟨r, hr, er⟩ := List.mem_filterMap.mp hy
    cases ea : putWord a.key c p.1 with
    | none =>
      rw [ea] at ep
      cases ep
    | some ka =>
      cases eb : putWord b.key c r.1 with
      | none =>
        rw [eb] at er
        cases er
      | some kb =>
        rw [ea] at ep
        rw [eb] at er
        cases ep
        cases er
        dsimp only
        intro z
        exact hab (List.append_inj' z rfl).1
theorem readFrom_ok {list : List Word} {h : Key} : ∀ {r cs : List Word} {l m : List Way}, (∀ w ∈ l, WOk list h cs w) → Apart l → readFrom list l r = some m → (∀ w ∈ m, WOk list h (cs ++ r) w) ∧ Apart m
  | [], cs, l, m, q, a, e => by
    cases e
    rw [List.append_nil]
    exact ⟨q, a⟩
  | c :: r, cs, l, m, q, a, e => by
    unfold readFrom at e
    dsimp only at e
    by_cases z : MANY < (further list l c).length
    · rw [if_pos z] at e
      cases e
    · rw [if_neg z] at e
      have := readFrom_ok (cs := cs ++ [c]) (further_ok q) (further_apart a) e
      rw [List.append_assoc] at this
      exact this
theorem readings_ok {d : Desk} {l : List Way} (kn : keysND d.hints) (vn : valsND d.hints) (e : readings d = some l) : (∀ w ∈ l, WOk d.list d.hints d.text w) ∧ Apart l := by
  have := readFrom_ok (cs := []) (h := d.hints) (fun w hw => by rw [List.mem_singleton.mp hw]; exact WOk.init kn vn) (by unfold Apart; simp) e
  exact this
theorem readings_key (d : Desk) : (readings d).map (fun l => l.map (·.key)) = readK d.list [d.hints] d.text := readFrom_key d.list d.text [⟨d.hints, []⟩]
theorem readK_len {list : List Word} : ∀ {cs : List Word} {ks m : List Key}, ks.length ≤ 2000 → readK list ks cs = some m → m.length ≤ 2000
  | [], ks, m, h, e => by
    cases e
    exact h
  | c :: r, ks, m, h, e => by
    unfold readK at e
    by_cases z : 2000 < (nextK list ks c).length
    · rw [if_pos z] at e
      cases e
    · rw [if_neg z] at e
      exact readK_len (by omega) e
theorem WOk.stands {list : List Word} {h : Key} {cs : List Word} {w : Way} (q : WOk list h cs w) {o : Word} {a : Nat} (ho : o ∈ cs) (ha : a ∈ o) : ∃ p, standsFor w.key a = some p := by
  obtain ⟨i, hi⟩ := List.mem_iff_getElem?.mp ho
  obtain ⟨u, t, _, _, e⟩ := q.rd i o hi
  have : standsFor w.key a ∈ t.map some := by
    rw [← e]
    exact List.mem_map.mpr ⟨a, ha, rfl⟩
  obtain ⟨p, _, e2⟩ := List.mem_map.mp this
  exact ⟨p, e2.symm⟩
end LM1
end
section
set_option Elab.async false
set_option linter.all false
namespace LM1
open Uw63
noncomputable def more (L s : List Nat) : List (List Nat) := (L.filter fun y => s.isEmpty || decide (s.getLastD 0 < y)).map fun y => s ++ [y]
noncomputable def oneMore (sets : List (List Nat)) (L : List Nat) : List (List Nat) := sets.flatMap (more L)
theorem mem_choices : ∀ {k : Nat} {L s : List Nat}, s ∈ choices k L → s.length = k ∧ ∀ y ∈ s, y ∈ L
  | 0, L, s, h => by
    have : s = [] := by simpa [choices] using h
    subst this
    simp
  | k + 1, [], s, h => by simp [choices] at h
  | k + 1, x :: r, s, h => by
    unfold choices at h
    rcases List.mem_append.mp h with h | h
    · obtain ⟨t, ht, rfl⟩ := List.mem_map.mp h
      have q := mem_choices ht
      refine ⟨by rw [List.length_cons, q.1], fun y hy => ?_⟩
      rcases List.mem_cons.mp hy with z | z
      · simp [z]
      · exact List.mem_cons_of_mem _ (q.2 y z)
    · have q := mem_choices h
      exact ⟨q.1, fun y hy => List.mem_cons_of_mem _ (q.2 y hy)⟩
theorem more_in {x : Nat} {r s : List Nat} (hx : ∀ y ∈ r, x < y) (hs : ∀ y ∈ s, y ∈ r) : more (x :: r) (x :: s) = (more r s).map (x :: ·) := by
  cases s with
  | nil =>
    unfold more
    rw [List.filter_cons]
    have e1 : ((([x] : List Nat).isEmpty || decide (([x] : List Nat).getLastD 0 < x)) = true) ↔ False := by simp
    rw [if_neg fun z => e1.mp z, List.map_map]
    have e2 : (r.filter fun y => ([x] : List Nat).isEmpty || decide (([x] : List Nat).getLastD 0 < y)) = r := by
      rw [List.filter_eq_self]
      intro y hy
      have := hx y hy
      simpa using this
    have e3 : (r.filter fun y => ([] : List Nat).isEmpty || decide (([] : List Nat).getLastD 0 < y)) = r := by
      rw [List.filter_eq_self]
      intro y hy
      rfl
    rw [e2, e3]
    rfl
  | cons a s =>
    unfold more
    have el : (x :: a :: s).getLastD 0 = (a :: s).getLastD 0 := by
      simp [List.getLastD]
    have hm : (a :: s).getLastD 0 ∈ r := by
      refine hs _ ?_
      rw [List.getLastD_eq_getLast?, List.getLast?_eq_some_getLast (by simp)]
      exact List.getLast_mem _
    rw [List.filter_cons, el]
    have := hx _ hm
    rw [if_neg (by simp only [List.isEmpty_cons, Bool.false_or, decide_eq_true_eq]; omega), List.map_map]
    rfl
theorem more_out {x : Nat} {r s : List Nat} (hx : ∀ y ∈ r, x < y) (hn : s ≠ []) (hs : ∀ y ∈ s, y ∈ r) : more (x :: r) s = more r s := by
  unfold more
  have hm : s.getLastD 0 ∈ r := by
    refine hs _ ?_
    rw [List.getLastD_eq_getLast?, List.getLast?_eq_some_getLast hn]
    exact List.getLast_mem _
  have := hx _ hm
  rw [List.filter_cons, if_neg]
  rw [List.isEmpty_eq_false_iff.mpr hn, Bool.false_or, decide_eq_true_eq]
  omega
theorem choices_zero (L : List Nat) : choices 0 L = [[]] := by cases L <;> rfl
theorem flatMap_congr' {α β : Type} {f g : α → List β} : ∀ {l : List α}, (∀ x ∈ l, f x = g x) → l.flatMap f = l.flatMap g
  | [], _ => rfl
  | a :: l, h => by
    rw [List.flatMap_cons, List.flatMap_cons, h a (by simp), flatMap_congr' fun x hx => h x (by simp [hx])]
theorem oneMore_choices : ∀ {L : List Nat}, L.Pairwise (· < ·) → ∀ k, oneMore (choices k L) L = choices (k + 1) L
  | [], _, 0 => rfl
  | [], _, k + 1 => rfl
  | x :: r, h, 0 => by
    rw [List.pairwise_cons] at h
    have ih := oneMore_choices h.2 0
    rw [choices_zero] at ih
    have e : choices (0 + 1) (x :: r) = ((choices 0 r).map fun s => x :: s) ++ choices (0 + 1) r := rfl
    rw [e, choices_zero, choices_zero, ← ih]
    unfold oneMore more
    simp
  | x :: r, h, k + 1 => by
    rw [List.pairwise_cons] at h
    have e1 : choices (k + 1) (x :: r) = ((choices k r).map fun s => x :: s) ++ choices (k + 1) r := rfl
    have e2 : choices (k + 2) (x :: r) = ((choices (k + 1) r).map fun s => x :: s) ++ choices (k + 2) r := rfl
    rw [e1, e2]
    unfold oneMore
    rw [List.flatMap_append, List.flatMap_map]
    congr 1
    · rw [flatMap_congr' fun s hs => more_in h.1 (mem_choices hs).2, ← oneMore_choices h.2 k]
      unfold oneMore
      rw [List.map_flatMap]
    · rw [flatMap_congr' fun s hs => more_out h.1 (fun e => by have := (mem_choices hs).1; rw [e] at this; simp at this) (mem_choices hs).2]
      exact oneMore_choices h.2 (k + 1)
theorem choices_none : ∀ {L : List Nat} {k : Nat}, L.length < k → choices k L = []
  | _, 0, h => by omega
  | [], k + 1, _ => rfl
  | x :: r, k + 1, h => by
    unfold choices
    rw [List.length_cons] at h
    rw [choices_none (L := r) (k := k) (by omega), choices_none (L := r) (k := k + 1) (by omega)]
    rfl
theorem choices_all : ∀ {L : List Nat}, choices L.length L = [L]
  | [] => rfl
  | x :: r => by
    rw [List.length_cons]
    unfold choices
    rw [choices_all, choices_none (by omega)]
    rfl
theorem first_at {f : Nat → List (List Nat)} {p : List Nat → Bool} {s n : Nat} {y : List Nat} {r : List (List Nat)} (hs : s < n) (h0 : ∀ j < s, (f j).filter p = []) (h1 : (f s).filter p = y :: r) : ((List.range n).flatMap f).find? p = some y := by
  rw [← List.head?_filter, List.filter_flatMap]
  have e : List.range n = List.range s ++ (s :: List.range' (s + 1) (n - s - 1)) := by
    have q : List.range n = List.range' 0 n := List.range_eq_range'
    rw [q, List.range_eq_range']
    have e1 : n = s + (n - s) := by omega
    conv => lhs; rw [e1]
    rw [← List.range'_append_1]
    congr 1
    have e2 : n - s = (n - s - 1) + 1 := by omega
    rw [e2, List.range'_succ]
    simp
  rw [e, List.flatMap_append, List.flatMap_cons]
  have e3 : (List.range s).flatMap (fun a => (f a).filter p) = [] := by
    rw [List.flatMap_eq_nil_iff]
    intro j hj
    exact h0 j (List.mem_range.mp hj)
  rw [e3, h1]
  rfl
theorem fewest_at {d : Desk} {l : List Way} {k : Nat} {w : Way} {s : Nat} {y : List Nat} {r : List (List Nat)} (hs : s ≤ (letters d).length) (h0 : ∀ j < s, (choices j (letters d)).filter (enough l k w) = []) (h1 : (choices s (letters d)).filter (enough l k w) = y :: r) : fewest d l k w = y := by
  unfold fewest
  rw [first_at (p := fun cs => enough l k w cs) (by omega) h0 h1]
  rfl
theorem one_of {α : Type} {q : α → Bool} : ∀ {l : List α} {k : Nat} {w : α}, l[k]? = some w → q w = true → ((l.filter q).length = 1 ↔ ∀ i x, l[i]? = some x → i = k ∨ q x = false)
  | [], k, w, h, _ => by simp at h
  | a :: l, 0, w, h, hq => by
    have e : a = w := Option.some.inj h
    subst e
    rw [List.filter_cons, if_pos hq, List.length_cons]
    constructor
    · intro z i x hx
      cases i with
      | zero => exact .inl rfl
      | succ i =>
        refine .inr ?_
        have : l.filter q = [] := List.eq_nil_of_length_eq_zero (by omega)
        rw [List.filter_eq_nil_iff] at this
        have := this x (List.mem_of_getElem? (by simpa using hx))
        simpa using this
    · intro z
      have : l.filter q = [] := by
        rw [List.filter_eq_nil_iff]
        intro x hx
        obtain ⟨i, hi⟩ := List.mem_iff_getElem?.mp hx
        rcases z (i + 1) x (by simpa using hi) with u | u
        · omega
        · simp [u]
      rw [this]
      rfl
  | a :: l, k + 1, w, h, hq => by
    have h : l[k]? = some w := by simpa using h
    have ih := one_of h hq
    rw [List.filter_cons]
    by_cases z : q a = true
    · rw [if_pos z, List.length_cons]
      constructor
      · intro u
        have : l.filter q = [] := List.eq_nil_of_length_eq_zero (by omega)
        rw [List.filter_eq_nil_iff] at this
        exact absurd hq (this w (List.mem_of_getElem? h))
      · intro u
        rcases u 0 a rfl with v | v
        · omega
        · rw [z] at v
          cases v
    · rw [if_neg z, ih]
      constructor
      · intro u i x hx
        cases i with
        | zero =>
          cases hx
          exact .inr (by simpa using z)
        | succ i =>
          rcases u i x (by simpa using hx) with v | v
          · exact .inl (by omega)
          · exact .inr v
      · intro u i x hx
        rcases u (i + 1) x (by simpa using hx) with v | v
        · exact .inl (by omega)
        · exact .inr v
theorem agrees_self (w : Way) (cs : List Nat) : agrees w w cs = true := by
  unfold agrees
  rw [List.all_eq_true]
  intro c _
  simp
theorem enough_iff {l : List Way} {k : Nat} {w : Way} {cs : List Nat} (h : l[k]? = some w) : enough l k w cs = decide ((l.filter fun o => agrees w o cs).length = 1) := by
  rw [Bool.eq_iff_iff, decide_eq_true_eq, one_of h (agrees_self w cs)]
  unfold enough
  rw [List.all_eq_true]
  constructor
  · intro z i x hx
    have := z (x, i) (List.mem_zipIdx_iff_getElem?.mpr hx)
    rw [Bool.or_eq_true] at this
    rcases this with u | u
    · exact .inl (by simpa using u)
    · exact .inr (by simpa using u)
  · rintro z ⟨x, i⟩ hx
    rcases z i x (List.mem_zipIdx_iff_getElem?.mp hx) with u | u
    · simp [u]
    · simp [u]
noncomputable def agreeK (a b : Key) (cs : List Nat) : Bool := cs.all fun c => standsFor a c == standsFor b c
noncomputable def enoughK (ks : List Key) (a : Key) (cs : List Nat) : Bool := decide ((ks.filter fun o => agreeK a o cs).length = 1)
theorem enough_key {l : List Way} {k : Nat} {w : Way} {cs : List Nat} (h : l[k]? = some w) : enough l k w cs = enoughK (l.map (·.key)) w.key cs := by
  rw [enough_iff h]
  unfold enoughK
  rw [List.filter_map, List.length_map]
  rfl
theorem words_eq {list : List Word} {h : Key} {cs : List Word} {a b : Way} (nd : list.Nodup) (qa : WOk list h cs a) (qb : WOk list h cs b) (e : ∀ o ∈ cs, ∀ c ∈ o, standsFor a.key c = standsFor b.key c) : a.words = b.words := by
  refine List.ext_getElem? fun i => ?_
  by_cases hi : i < cs.length
  · have ho : cs[i]? = some cs[i] := List.getElem?_eq_getElem hi
    obtain ⟨u, t, h1, h2, h3⟩ := qa.rd i _ ho
    obtain ⟨v, s, g1, g2, g3⟩ := qb.rd i _ ho
    have e2 : t.map some = s.map some := by
      rw [← h3, ← g3]
      exact List.map_congr_left fun c hc => e _ (List.getElem_mem hi) c hc
    have e3 : t = s := (List.map_inj_right fun x y z => Option.some.inj z).mp e2
    subst e3
    have e4 : u = v := by
      obtain ⟨hu, eu⟩ := List.getElem?_eq_some_iff.mp h2
      obtain ⟨hv, ev⟩ := List.getElem?_eq_some_iff.mp g2
      exact (List.getElem_inj nd).mp (eu.trans ev.symm)
    rw [h1, g1, e4]
  · rw [List.getElem?_eq_none_iff.mpr (by rw [qa.len]; omega), List.getElem?_eq_none_iff.mpr (by rw [qb.len]; omega)]
theorem enough_all {d : Desk} {l : List Way} {k : Nat} {w : Way} (hb : bad d.n d.text = false) (nd : d.list.Nodup) (q : ∀ w ∈ l, WOk d.list d.hints d.text w) (ap : Apart l) (h : l[k]? = some w) : enough l k w (letters d) = true := by
  rw [enough_iff h, decide_eq_true_eq, one_of h (agrees_self w _)]
  intro i x hx
  by_cases z : i = k
  · exact .inl z
  · refine .inr (Bool.eq_false_iff.mpr fun u => ?_)
    unfold agrees at u
    rw [List.all_eq_true] at u
    have e := words_eq nd (q w (List.mem_of_getElem? h)) (q x (List.mem_of_getElem? hx)) fun o ho c hc => by
      have := u c ((mem_lets hb c).mpr ⟨o, ho, hc⟩)
      simpa using this
    obtain ⟨hk, ek⟩ := List.getElem?_eq_some_iff.mp h
    obtain ⟨hi, ei⟩ := List.getElem?_eq_some_iff.mp hx
    unfold Apart at ap
    rw [List.pairwise_iff_getElem] at ap
    rcases Nat.lt_or_gt_of_ne z with y | y
    · exact ap i k hi hk y (by rw [ei, ek, e])
    · exact ap k i hk hi y (by rw [ei, ek, e])
end LM1
end
section
set_option Elab.async false
set_option linter.all false
namespace LM1
open Uw63
theorem mem_mayBe {d : Desk} {l : List Way} {c p : Nat} : p ∈ mayBe d l c ↔ p < d.n ∧ ∃ w ∈ l, standsFor w.key c = some p := by
  unfold mayBe
  rw [List.mem_filter, List.mem_range, List.any_eq_true]
  refine and_congr_right fun _ => ⟨fun ⟨w, h1, h2⟩ => ⟨w, h1, by simpa using h2⟩, fun ⟨w, h1, h2⟩ => ⟨w, h1, by simpa using h2⟩⟩
theorem mayBe_rise (d : Desk) (l : List Way) (c : Nat) : ((mayBe d l c).map fun (m : Nat) => (m : Int)).Pairwise (· < ·) := by
  rw [List.pairwise_map]
  refine List.Pairwise.imp (R := (· < ·)) (fun {a b} h => by omega) ?_
  exact List.Pairwise.sublist List.filter_sublist List.pairwise_lt_range
theorem mayBe_len (d : Desk) (l : List Way) (c : Nat) : (mayBe d l c).length ≤ d.n := by
  have := List.length_filter_le (fun p => l.any fun w => standsFor w.key c == some p) (List.range d.n)
  rw [List.length_range] at this
  exact this
noncomputable def val (k : Key) (c : Nat) : Nat := (standsFor k c).getD 0
theorem mayBe_of {d : Desk} {l : List Way} {c : Nat} {ns ks : List Int} (hs : ∀ w ∈ l, ∃ p, standsFor w.key c = some p ∧ p < d.n) (p : ns.Perm ks) (hp : ns.Pairwise (· ≤ ·)) (nd : ks.Nodup)
    (mem : ∀ x, x ∈ ks ↔ x ∈ ((l.map fun w => val w.key c).map fun (m : Nat) => (m : Int))) : ns = (mayBe d l c).map fun (m : Nat) => (m : Int) := by
  refine rising_one (strict_of hp (p.nodup_iff.mpr nd)) (mayBe_rise d l c) fun x => ?_
  rw [p.mem_iff, mem, List.mem_map, List.mem_map]
  constructor
  · rintro ⟨m, hm, rfl⟩
    obtain ⟨w, hw, rfl⟩ := List.mem_map.mp hm
    obtain ⟨q, hq, hl⟩ := hs w hw
    refine ⟨val w.key c, mem_mayBe.mpr ⟨?_, w, hw, ?_⟩, rfl⟩
    · unfold val
      rw [hq]
      exact hl
    · unfold val
      rw [hq]
      rfl
  · rintro ⟨m, hm, rfl⟩
    obtain ⟨_, w, hw, e⟩ := mem_mayBe.mp hm
    exact ⟨m, List.mem_map.mpr ⟨w, hw, by unfold val; rw [e]; rfl⟩, rfl⟩
theorem vals_len {d : Desk} {l : List Way} {c : Nat} {ks : List Int} (hs : ∀ w ∈ l, ∃ p, standsFor w.key c = some p ∧ p < d.n) (nd : ks.Nodup)
    (mem : ∀ x, x ∈ ks ↔ x ∈ ((l.map fun w => val w.key c).map fun (m : Nat) => (m : Int))) : ks.length ≤ d.n := by
  have p : (ks.mergeSort fun a b => decide (a ≤ b)).Perm ks := List.mergeSort_perm ..
  have q : (ks.mergeSort fun a b => decide (a ≤ b)).Pairwise (· ≤ ·) := by
    have z := List.pairwise_mergeSort (le := fun (a b : Int) => decide (a ≤ b)) (fun a b c h1 h2 => by simp at *; omega) (fun a b => by simp; omega) ks
    exact z.imp fun {a b} w => by simpa using w
  have e := mayBe_of hs p q nd mem
  rw [← p.length_eq, e, List.length_map]
  exact mayBe_len d l c
theorem sure_one {d : Desk} {l : List Way} {c p : Nat} (hs : ∀ w ∈ l, standsFor w.key c = some p) (hp : p < d.n) (hn : l ≠ []) : (match mayBe d l c with
  | [p] => p
  | _ => d.n) = p := by
  have e : (mayBe d l c).map (fun (m : Nat) => (m : Int)) = ([p] : List Nat).map fun (m : Nat) => (m : Int) := by
    refine rising_one (mayBe_rise d l c) (by simp) fun x => ?_
    rw [List.mem_map]
    constructor
    · rintro ⟨m, hm, rfl⟩
      obtain ⟨_, w, hw, e⟩ := mem_mayBe.mp hm
      rw [hs w hw] at e
      cases e
      simp
    · intro h
      have : x = (p : Int) := by simpa using h
      subst this
      cases l with
      | nil => exact absurd rfl hn
      | cons w l => exact ⟨p, mem_mayBe.mpr ⟨hp, w, by simp, hs w (by simp)⟩, rfl⟩
  have e2 : mayBe d l c = [p] := by
    cases h : mayBe d l c with
    | nil =>
      rw [h] at e
      cases e
    | cons a r =>
      rw [h] at e
      rw [List.map_cons, List.map_cons] at e
      injection e with e3 e4
      have e5 : a = p := by omega
      cases r with
      | nil => rw [e5]
      | cons b r => cases e4
  rw [e2]
theorem sure_not {d : Desk} {l : List Way} {c p q : Nat} {v w : Way} (hv : v ∈ l) (hw : w ∈ l) (ev : standsFor v.key c = some p) (ew : standsFor w.key c = some q) (hp : p < d.n) (hq : q < d.n) (ne : p ≠ q) : (match mayBe d l c with
  | [p] => p
  | _ => d.n) = d.n := by
  have m1 : p ∈ mayBe d l c := mem_mayBe.mpr ⟨hp, v, hv, ev⟩
  have m2 : q ∈ mayBe d l c := mem_mayBe.mpr ⟨hq, w, hw, ew⟩
  cases h : mayBe d l c with
  | nil => rfl
  | cons a r =>
    cases r with
    | nil =>
      rw [h] at m1 m2
      exact absurd ((List.mem_singleton.mp m1).trans (List.mem_singleton.mp m2).symm) ne
    | cons b r => rfl
noncomputable def sureK (n : Nat) (ks : List Key) (c : Nat) : Nat := match ks with
  | [] => n
  | k :: _ => if ks.all fun o => val o c == val k c then val k c else n
theorem sureOf_eq {d : Desk} {l : List Way} (hn : l ≠ []) (hs : ∀ c ∈ letters d, ∀ w ∈ l, ∃ p, standsFor w.key c = some p ∧ p < d.n) : sureOf d l = (letters d).map fun c => sureK d.n (l.map (·.key)) c := by
  unfold sureOf
  refine List.map_congr_left fun c hc => ?_
  cases l with
  | nil => exact absurd rfl hn
  | cons w0 l =>
    obtain ⟨p, hp, hpl⟩ := hs c hc w0 (by simp)
    have ep : val w0.key c = p := by
      unfold val
      rw [hp]
      rfl
    unfold sureK
    rw [List.map_cons]
    dsimp only
    rw [ep]
    by_cases z : ((w0.key :: l.map (·.key)).all fun o => val o c == p) = true
    · rw [if_pos z]
      rw [List.all_eq_true] at z
      refine sure_one (fun w hw => ?_) hpl hn
      obtain ⟨q, hq, _⟩ := hs c hc w hw
      have := z w.key (by rw [← List.map_cons (f := fun (x : Way) => x.key)]; exact List.mem_map.mpr ⟨w, hw, rfl⟩)
      have e2 : val w.key c = q := by
        unfold val
        rw [hq]
        rfl
      rw [e2] at this
      have : q = p := by simpa using this
      rw [hq, this]
    · rw [if_neg z]
      have : ∃ o ∈ (w0.key :: l.map (·.key)), ¬ (val o c == p) = true := by
        by_cases y : ∀ o ∈ (w0.key :: l.map (·.key)), (val o c == p) = true
        · exact absurd (List.all_eq_true.mpr y) z
        · obtain ⟨o, ho⟩ := Classical.not_forall.mp y
          exact ⟨o, Classical.not_imp.mp ho⟩
      obtain ⟨o, ho, no⟩ := this
      rw [← List.map_cons (f := fun (x : Way) => x.key)] at ho
      obtain ⟨w, hw, rfl⟩ := List.mem_map.mp ho
      obtain ⟨q, hq, hql⟩ := hs c hc w hw
      have e2 : val w.key c = q := by
        unfold val
        rw [hq]
        rfl
      refine sure_not (by simp) hw hp hq hpl hql fun e => no ?_
      rw [e2, e]
      simp
theorem isIn_bit (s i : Nat) : isIn s i = s.testBit i := by
  unfold isIn
  rw [Nat.testBit_eq_decide_div_mod_eq, Bool.eq_iff_iff, decide_eq_true_eq, beq_iff_eq]
noncomputable def plc (m s : Nat) : List Nat := (List.range m).filter fun i => s.testBit i
theorem placesOf_eq (d : Desk) (s : Nat) : placesOf d s = plc d.text.length s := by
  unfold placesOf plc
  congr 1
  funext i
  exact isIn_bit s i
noncomputable def kept (m : Nat) (l : List Nat) : List Nat := (List.range m).filter fun p => !l.contains p
theorem kept_plc (m s : Nat) : kept m (plc m s) = (List.range m).filter fun i => !s.testBit i := by
  unfold kept
  refine List.filter_congr fun i hi => ?_
  congr 1
  rw [Bool.eq_iff_iff, List.contains_iff_mem]
  unfold plc
  rw [List.mem_filter]
  exact ⟨fun h => h.2, fun h => ⟨hi, h⟩⟩
theorem without_eq (d : Desk) (s : Nat) : without d s = (kept d.text.length (plc d.text.length s)).map fun p => d.text.getD p [] := by
  rw [kept_plc]
  unfold without
  have key : ∀ (l : List Word) (i : Nat), (∀ j w, l[j]? = some w → d.text[i + j]? = some w) → ((l.zipIdx i).filter fun x => !isIn s x.2).map (fun x => x.1) = ((List.range' i l.length).filter fun i => !s.testBit i).map fun p => d.text.getD p [] := by
    intro l
    induction l with
    | nil => intro i _; rfl
    | cons a l ih =>
      intro i hl
      rw [List.zipIdx_cons, List.length_cons, List.range'_succ, List.filter_cons, List.filter_cons, isIn_bit]
      have e := ih (i + 1) fun j w hj => by
        have := hl (j + 1) w (by simpa using hj)
        rw [← this]
        congr 1
        omega
      have e0 : d.text.getD i [] = a := getD_some (by simpa using hl 0 a rfl)
      by_cases z : (!s.testBit i) = true
      · rw [if_pos z, if_pos z, List.map_cons, List.map_cons, e, e0]
      · rw [if_neg z, if_neg z, e]
  rw [List.range_eq_range']
  exact key d.text 0 fun j w hj => by rw [Nat.zero_add]; exact hj
noncomputable def setsP (m k : Nat) : List (List Nat) := ((List.range (2 ^ m)).map (plc m)).filter fun l => l.length == k
noncomputable def enoughP (d : Desk) (k : Nat) : List (List Nat) := (setsP d.text.length k).filter fun l => can d.list d.hints ((kept d.text.length l).map fun p => d.text.getD p [])
theorem enoughP_eq (d : Desk) (k : Nat) : enoughP d k = (setsOf d k).map (placesOf d) := by
  unfold enoughP setsP setsOf
  rw [List.filter_map, List.filter_map, List.filter_filter]
  have e : (List.range (2 ^ d.text.length)).filter (fun s => (placesOf d s).length == k && can d.list d.hints (without d s)) = (List.range (2 ^ d.text.length)).filter (fun a => ((fun l => can d.list d.hints ((kept d.text.length l).map fun p => d.text.getD p [])) ∘ plc d.text.length) a && ((fun (l : List Nat) => l.length == k) ∘ plc d.text.length) a) := by
    refine List.filter_congr fun s _ => ?_
    rw [placesOf_eq, without_eq, Bool.and_comm]
    rfl
  rw [e]
  refine List.map_congr_left fun s _ => (placesOf_eq d s).symm
theorem setsOf_all (d : Desk) : setsOf d d.text.length ≠ [] := by
  have hm : 2 ^ d.text.length - 1 ∈ setsOf d d.text.length := by
    unfold setsOf
    rw [List.mem_filter, List.mem_range]
    have hp : 0 < 2 ^ d.text.length := Nat.pos_of_ne_zero (by simp)
    refine ⟨by omega, ?_⟩
    have e1 : plc d.text.length (2 ^ d.text.length - 1) = List.range d.text.length := by
      unfold plc
      rw [List.filter_eq_self]
      intro i hi
      rw [Nat.testBit_two_pow_sub_one]
      exact decide_eq_true (List.mem_range.mp hi)
    rw [placesOf_eq, without_eq, e1]
    have e2 : kept d.text.length (List.range d.text.length) = [] := by
      unfold kept
      rw [List.filter_eq_nil_iff]
      intro i hi
      simpa using hi
    rw [e2, List.length_range]
    simp [can]
  intro h
  rw [h] at hm
  cases hm
theorem nearest_at {d : Desk} {k : Nat} {y : List Nat} {r : List (List Nat)} (h0 : ∀ j < k, enoughP d j = []) (h1 : enoughP d k = y :: r) : nearest d = (y.length, (y :: r).length, y) := by
  have hk : k ≤ d.text.length := by
    refine Nat.le_of_not_lt fun h => ?_
    have := h0 _ h
    rw [enoughP_eq, List.map_eq_nil_iff] at this
    exact setsOf_all d this
  have ef : (List.range (d.text.length + 1)).find? (fun k => !(setsOf d k).isEmpty) = some k := by
    rw [List.find?_range_eq_some]
    refine ⟨?_, List.mem_range.mpr (by omega), fun j hj => ?_⟩
    · have : setsOf d k ≠ [] := fun e => by
        rw [enoughP_eq, e] at h1
        cases h1
      simpa using this
    · have := h0 j hj
      rw [enoughP_eq, List.map_eq_nil_iff] at this
      rw [this]
      rfl
  unfold nearest
  rw [ef]
  dsimp only
  rw [enoughP_eq] at h1
  cases e : setsOf d k with
  | nil =>
    rw [e] at h1
    cases h1
  | cons s t =>
    rw [e] at h1
    rw [List.map_cons] at h1
    injection h1 with h2 h3
    have hs : s ∈ setsOf d k := by rw [e]; simp
    unfold setsOf at hs
    rw [List.mem_filter, Bool.and_eq_true] at hs
    have hl : (placesOf d s).length = k := by simpa using hs.2.1
    rw [h2] at hl
    rw [List.headD_cons, h2, hl, ← h3, List.length_cons, List.length_cons, List.length_map]
end LM1
end
section
set_option Elab.async false
set_option linter.all false
namespace LM1
open Uw63
structure WF (d : Desk) : Prop where
  n : d.n ≤ 26
  lw : ∀ w ∈ d.list, w.length ≤ 8 ∧ ∀ c ∈ w, c < d.n
  lnd : d.list.Nodup
  ll : d.list.length ≤ 40
  tb : bad d.n d.text = false
  tl : d.text.length ≤ 8
  tw : ∀ w ∈ d.text, w.length ≤ 8
  kn : keysND d.hints
  vn : valsND d.hints
  hv : ∀ x ∈ d.hints, x.2 < d.n
theorem WF.init : WF Uw63.init := ⟨Nat.le_refl _, fun w h => (by cases h), List.nodup_nil, Nat.zero_le _, rfl, Nat.zero_le _, fun w h => (by cases h), List.nodup_nil, List.nodup_nil, fun x h => (by cases h)⟩
theorem nodup_lt {l : List Nat} {n : Nat} (nd : l.Nodup) (h : ∀ x ∈ l, x < n) : l.length ≤ n := by
  have := nodup_len (ks := l.map fun (m : Nat) => (m : Int)) (vs := (List.range n).map fun (m : Nat) => (m : Int)) (nodup_int.mpr nd) fun x hx => by
    obtain ⟨m, hm, rfl⟩ := List.mem_map.mp hx
    exact List.mem_map.mpr ⟨m, List.mem_range.mpr (h m hm), rfl⟩
  rw [List.length_map, List.length_map, List.length_range] at this
  exact this
theorem WF.hl {d : Desk} (w : WF d) : d.hints.length ≤ 26 := by
  have := nodup_lt w.vn fun x hx => by
    obtain ⟨y, hy, rfl⟩ := List.mem_map.mp hx
    exact w.hv y hy
  rw [List.length_map] at this
  have := w.n
  omega
theorem wOk_iff (n : Nat) (l : List Nat) : (l.length < 1 ∨ 8 < l.length ∨ (l.any fun c => decide (n ≤ c)) = true) ↔ wOk n l = false := by
  rw [all_lt]
  unfold wOk
  by_cases h1 : 1 ≤ l.length
  · by_cases h2 : l.length ≤ 8
    · rw [decide_eq_true h1, decide_eq_true h2, Bool.true_and, Bool.true_and]
      constructor
      · rintro (z | z | z)
        · omega
        · omega
        · simpa using z
      · intro z
        rw [z]
        exact .inr (.inr rfl)
    · rw [decide_eq_false h2, Bool.and_false, Bool.false_and]
      exact ⟨fun _ => rfl, fun _ => .inr (.inl (by omega))⟩
  · rw [decide_eq_false h1, Bool.false_and, Bool.false_and]
    exact ⟨fun _ => rfl, fun _ => .inl (by omega)⟩
theorem wOk_get {n : Nat} {l : List Nat} (h : wOk n l = true) : 1 ≤ l.length ∧ l.length ≤ 8 ∧ ∀ c ∈ l, c < n := by
  unfold wOk at h
  rw [Bool.and_eq_true, Bool.and_eq_true, List.all_eq_true] at h
  exact ⟨of_decide_eq_true h.1.1, of_decide_eq_true h.1.2, fun c hc => of_decide_eq_true (h.2 c hc)⟩
theorem told_ok {n : Nat} : ∀ (m : Nat) {l : List Nat} {ws : List Word}, l.length ≤ m → told n l = some ws → ∀ w ∈ ws, wOk n w = true
  | _, [], ws, _, h, w, hw => by
    rw [told_nil] at h
    cases h
    cases hw
  | 0, k :: r, _, hl, _, _, _ => by simp at hl
  | m + 1, k :: r, ws, hl, h, w, hw => by
    rw [told_cons] at h
    by_cases z : k ≤ r.length ∧ wOk n (r.take k) = true
    · rw [if_pos z] at h
      cases e : told n (r.drop k) with
      | none =>
        rw [e] at h
        cases h
      | some x =>
        rw [e] at h
        cases h
        rcases List.mem_cons.mp hw with u | u
        · rw [u]
          exact z.2
        · refine told_ok m ?_ e w u
          rw [List.length_drop]
          rw [List.length_cons] at hl
          omega
    · rw [if_neg z] at h
      cases h
theorem textOf_ok {n : Nat} {l : List Nat} {ws : List Word} (h : textOf n l = some ws) : 1 ≤ ws.length ∧ ws.length ≤ 8 ∧ bad n ws = false ∧ ∀ w ∈ ws, w.length ≤ 8 := by
  unfold textOf at h
  cases e : told n l with
  | none =>
    rw [e] at h
    cases h
  | some x =>
    rw [e] at h
    dsimp only at h
    by_cases z : 1 ≤ x.length ∧ x.length ≤ 8
    · rw [if_pos z] at h
      cases h
      have q := told_ok _ (Nat.le_refl _) e
      refine ⟨z.1, z.2, ?_, fun w hw => (wOk_get (q w hw)).2.1⟩
      unfold bad
      rw [List.any_eq_false]
      intro w hw
      rw [all_lt, List.all_eq_true.mpr fun c hc => decide_eq_true ((wOk_get (q w hw)).2.2 c hc)]
      exact Bool.false_ne_true
    · rw [if_neg z] at h
      cases h
theorem step_begins (d : Desk) (n : Nat) : step d (.begins n) = if n < 2 ∨ 26 < n then (d, [-1]) else (⟨n, [], [], []⟩, [0]) := rfl
theorem step_word (d : Desk) (l : List Nat) : step d (.word l) = if wOk d.n l = false then (d, [-1]) else if d.list.contains l = true then (d, [-4]) else if 40 ≤ d.list.length then (d, [-5]) else ({ d with list := d.list ++ [l] }, [(d.list.length : Int)]) := by
  show (if l.length < 1 ∨ 8 < l.length ∨ l.any (fun c => decide (d.n ≤ c)) = true then (d, [-1]) else _) = _
  by_cases z : wOk d.n l = false
  · rw [if_pos z, if_pos ((wOk_iff d.n l).mpr z)]
  · rw [if_neg z, if_neg fun y => z ((wOk_iff d.n l).mp y)]
theorem step_hint (d : Desk) (c p : Nat) : step d (.hint c p) = if d.text.isEmpty = true then (d, [-3]) else if (letters d).contains c = false then (d, [-2]) else if d.n ≤ p then (d, [-1]) else if d.hints.any (fun x => x.1 == c || x.2 == p) = true then (d, [-4]) else ({ d with hints := d.hints ++ [(c, p)] }, [0]) := rfl
theorem onR_same (d : Desk) (f : List Way → List Int) : (onReadings d f).1 = d := rfl
theorem WF.step {d : Desk} (w : WF d) (c : Call) : WF (Uw63.step d c).1 := by
  cases c with
  | begins n =>
    rw [step_begins]
    by_cases z : n < 2 ∨ 26 < n
    · rw [if_pos z]
      exact w
    · rw [if_neg z]
      exact ⟨by show n ≤ 26; omega, fun w h => (by cases h), List.nodup_nil, Nat.zero_le _, rfl, Nat.zero_le _, fun w h => (by cases h), List.nodup_nil, List.nodup_nil, fun x h => (by cases h)⟩
  | word l =>
    rw [step_word]
    by_cases z : wOk d.n l = false
    · rw [if_pos z]
      exact w
    · rw [if_neg z]
      by_cases z2 : d.list.contains l = true
      · rw [if_pos z2]
        exact w
      · rw [if_neg z2]
        by_cases z3 : 40 ≤ d.list.length
        · rw [if_pos z3]
          exact w
        · rw [if_neg z3]
          have q := wOk_get (by simpa using z)
          refine ⟨w.n, fun x hx => ?_, ?_, ?_, w.tb, w.tl, w.tw, w.kn, w.vn, w.hv⟩
          · rcases List.mem_append.mp hx with u | u
            · exact w.lw x u
            · rw [List.mem_singleton.mp u]
              exact ⟨q.2.1, q.2.2⟩
          · refine List.nodup_append.mpr ⟨w.lnd, by simp, fun a ha b hb => ?_⟩
            rw [List.mem_singleton.mp hb]
            intro e
            rw [e] at ha
            exact z2 (List.contains_iff_mem.mpr ha)
          · show (d.list ++ [l]).length ≤ 40
            rw [List.length_append]
            simp
            omega
  | text l =>
    rw [textOf_step]
    cases e : textOf d.n l with
    | none => exact w
    | some ws =>
      have q := textOf_ok e
      exact ⟨w.n, w.lw, w.lnd, w.ll, q.2.2.1, q.2.1, q.2.2.2, List.nodup_nil, List.nodup_nil, fun x h => (by cases h)⟩
  | hint c p =>
    rw [step_hint]
    by_cases z : d.text.isEmpty = true
    · rw [if_pos z]
      exact w
    · rw [if_neg z]
      by_cases z1 : (letters d).contains c = false
      · rw [if_pos z1]
        exact w
      · rw [if_neg z1]
        by_cases z2 : d.n ≤ p
        · rw [if_pos z2]
          exact w
        · rw [if_neg z2]
          by_cases z3 : d.hints.any (fun x => x.1 == c || x.2 == p) = true
          · rw [if_pos z3]
            exact w
          · rw [if_neg z3]
            have n1 : ∀ x ∈ d.hints, x.1 ≠ c ∧ x.2 ≠ p := fun x hx => by
              refine ⟨fun e => z3 (List.any_eq_true.mpr ⟨x, hx, by simp [e]⟩), fun e => z3 (List.any_eq_true.mpr ⟨x, hx, by simp [e]⟩)⟩
            refine ⟨w.n, w.lw, w.lnd, w.ll, w.tb, w.tl, w.tw, ?_, ?_, fun x hx => ?_⟩
            · show ((d.hints ++ [(c, p)]).map (·.1)).Nodup
              rw [List.map_append]
              refine List.nodup_append.mpr ⟨w.kn, by simp, fun a ha b hb => ?_⟩
              obtain ⟨x, hx, rfl⟩ := List.mem_map.mp ha
              have : b = c := by simpa using hb
              rw [this]
              exact (n1 x hx).1
            · show ((d.hints ++ [(c, p)]).map (·.2)).Nodup
              rw [List.map_append]
              refine List.nodup_append.mpr ⟨w.vn, by simp, fun a ha b hb => ?_⟩
              obtain ⟨x, hx, rfl⟩ := List.mem_map.mp ha
              have : b = p := by simpa using hb
              rw [this]
              exact (n1 x hx).2
            · rcases List.mem_append.mp hx with u | u
              · exact w.hv x u
              · rw [List.mem_singleton.mp u]
                show p < d.n
                omega
  | readings => exact w
  | sure => exact w
  | may c => exact w
  | tells k => exact w
  | need k => exact w
  | nearest => exact w
  | shapes i => exact w
theorem flat8 {ws : List Word} (h1 : ws.length ≤ 8) (h2 : ∀ w ∈ ws, w.length ≤ 8) : ws.flatten.length ≤ 64 := by
  have key : ∀ (ws : List Word), (∀ w ∈ ws, w.length ≤ 8) → ws.flatten.length ≤ 8 * ws.length := by
    intro ws
    induction ws with
    | nil => intro _; exact Nat.le_refl _
    | cons a ws ih =>
      intro h
      have q1 := h a (by simp)
      have q2 := ih fun w hw => h w (by simp [hw])
      rw [List.flatten_cons, List.length_append, List.length_cons]
      omega
  have := key ws h2
  omega
theorem WF.flat {d : Desk} (w : WF d) : d.text.flatten.length ≤ 1000 := Nat.le_trans (flat8 w.tl w.tw) (by decide)
end LM1
end
section
set_option Elab.async false
set_option linter.all false
namespace LM1
noncomputable def plainN : List (Option Nat) := [some 1, none, none, some 2, some 0, some 0, some 1, some 1, some 1, some 0, some 1]
theorem call_shape {p : Int} {n k : Nat} {r t : List Int} {c : List (List Int)} (hs : PyUw63.shape p = some (n, k)) (h : PyFlat.call PyUw63.shape (p :: r) = some (c, t)) : n ≤ r.length ∧ ∃ xs, PyFlat.rows k (r.drop n) = some (xs, t) ∧ c = (p :: r.take n) :: xs := by
  unfold PyFlat.call at h
  dsimp only at h
  rw [hs] at h
  dsimp only at h
  by_cases z : r.length < n
  · rw [if_pos z] at h
    cases h
  · rw [if_neg z] at h
    cases e : PyFlat.rows k (r.drop n) with
    | none =>
      rw [e] at h
      cases h
    | some y =>
      obtain ⟨xs, t'⟩ := y
      rw [e] at h
      cases h
      exact ⟨by omega, xs, rfl, rfl⟩
theorem call_plain {p : Int} {n : Nat} {r t : List Int} {c : List (List Int)} (hs : PyUw63.shape p = some (n, 0)) (h : PyFlat.call PyUw63.shape (p :: r) = some (c, t)) : n ≤ r.length ∧ c = [p :: r.take n] ∧ t = r.drop n := by
  obtain ⟨h1, xs, h2, h3⟩ := call_shape hs h
  cases h2
  exact ⟨h1, h3, rfl⟩
theorem call_row {p : Int} {r t : List Int} {c : List (List Int)} (hs : PyUw63.shape p = some (0, 1)) (h : PyFlat.call PyUw63.shape (p :: r) = some (c, t)) : ∃ (k : Nat) (s : List Int), r = (k : Int) :: s ∧ k ≤ s.length ∧ c = [[p], s.take k] ∧ t = s.drop k := by
  obtain ⟨h1, xs, h2, h3⟩ := call_shape hs h
  rw [List.drop_zero] at h2
  unfold PyFlat.rows at h2
  cases r with
  | nil => cases h2
  | cons m s =>
    unfold PyFlat.row at h2
    dsimp only at h2
    by_cases z : 0 ≤ m ∧ m.toNat ≤ s.length
    · rw [if_pos z] at h2
      cases h2
      refine ⟨m.toNat, s, ?_, z.2, h3, rfl⟩
      rw [Int.toNat_of_nonneg z.1]
    · rw [if_neg z] at h2
      cases h2
theorem shape_le {p : Int} {x : Nat × Nat} (h : PyUw63.shape p = some x) : ∃ i : Nat, p = (i : Int) ∧ i ≤ 10 := by
  by_cases z : 0 ≤ p ∧ p ≤ 10
  · exact ⟨p.toNat, by omega, by omega⟩
  · unfold PyUw63.shape at h
    simp only [show ¬ p = 0 by omega, show ¬ p = 1 by omega, show ¬ p = 2 by omega, show ¬ p = 3 by omega, show ¬ p = 4 by omega, show ¬ p = 5 by omega, show ¬ p = 6 by omega, show ¬ p = 7 by omega, show ¬ p = 8 by omega, show ¬ p = 9 by omega, show ¬ p = 10 by omega, if_false] at h
    cases h
inductive Told (p : Int) (r : List Int) (c : List (List Int)) (t : List Int) : Prop
  | plain (i n : Nat) (hp : p = (i : Int)) (hi : plainN[i]? = some (some n)) (hn : n ≤ r.length) (hc : (PyUw63.whole c).headD [] = p :: r.take n) (ht : t = r.drop n)
  | row (i k : Nat) (s : List Int) (hp : p = (i : Int)) (hi : plainN[i]? = some none) (hr : r = (k : Int) :: s) (hk : k ≤ s.length) (hc : (PyUw63.whole c).headD [] = p :: s.take k) (ht : t = s.drop k)
theorem take1 {r : List Int} (h : 1 ≤ r.length) : ∃ x, r.take 1 = [x] := by
  cases r with
  | nil => simp at h
  | cons a r => exact ⟨a, rfl⟩
theorem take2 {r : List Int} (h : 2 ≤ r.length) : ∃ x y, r.take 2 = [x, y] := by
  cases r with
  | nil => simp at h
  | cons a r =>
    cases r with
    | nil => simp at h
    | cons b r => exact ⟨a, b, rfl⟩
theorem told_of {p : Int} {r t : List Int} {c : List (List Int)} (h : PyFlat.call PyUw63.shape (p :: r) = some (c, t)) : Told p r c t := by
  have hs : ∃ x, PyUw63.shape p = some x := by
    unfold PyFlat.call at h
    dsimp only at h
    cases e : PyUw63.shape p with
    | none =>
      rw [e] at h
      cases h
    | some x => exact ⟨x, rfl⟩
  obtain ⟨x, hx⟩ := hs
  obtain ⟨i, rfl, hi⟩ := shape_le hx
  have cases11 : i = 0 ∨ i = 1 ∨ i = 2 ∨ i = 3 ∨ i = 4 ∨ i = 5 ∨ i = 6 ∨ i = 7 ∨ i = 8 ∨ i = 9 ∨ i = 10 := by omega
  rcases cases11 with rfl | rfl | rfl | rfl | rfl | rfl | rfl | rfl | rfl | rfl | rfl
  · obtain ⟨h1, rfl, h3⟩ := call_plain (n := 1) rfl h
    obtain ⟨x, ex⟩ := take1 h1
    exact .plain 0 1 rfl rfl h1 (by rw [ex]; rfl) h3
  · obtain ⟨k, s, h1, h2, rfl, h3⟩ := call_row rfl h
    exact .row 1 k s rfl rfl h1 h2 rfl h3
  · obtain ⟨k, s, h1, h2, rfl, h3⟩ := call_row rfl h
    exact .row 2 k s rfl rfl h1 h2 rfl h3
  · obtain ⟨h1, rfl, h3⟩ := call_plain (n := 2) rfl h
    obtain ⟨x, y, ex⟩ := take2 h1
    exact .plain 3 2 rfl rfl h1 (by rw [ex]; rfl) h3
  · obtain ⟨h1, rfl, h3⟩ := call_plain (n := 0) rfl h
    exact .plain 4 0 rfl rfl h1 rfl h3
  · obtain ⟨h1, rfl, h3⟩ := call_plain (n := 0) rfl h
    exact .plain 5 0 rfl rfl h1 rfl h3
  · obtain ⟨h1, rfl, h3⟩ := call_plain (n := 1) rfl h
    obtain ⟨x, ex⟩ := take1 h1
    exact .plain 6 1 rfl rfl h1 (by rw [ex]; rfl) h3
  · obtain ⟨h1, rfl, h3⟩ := call_plain (n := 1) rfl h
    obtain ⟨x, ex⟩ := take1 h1
    exact .plain 7 1 rfl rfl h1 (by rw [ex]; rfl) h3
  · obtain ⟨h1, rfl, h3⟩ := call_plain (n := 1) rfl h
    obtain ⟨x, ex⟩ := take1 h1
    exact .plain 8 1 rfl rfl h1 (by rw [ex]; rfl) h3
  · obtain ⟨h1, rfl, h3⟩ := call_plain (n := 0) rfl h
    exact .plain 9 0 rfl rfl h1 rfl h3
  · obtain ⟨h1, rfl, h3⟩ := call_plain (n := 1) rfl h
    obtain ⟨x, ex⟩ := take1 h1
    exact .plain 10 1 rfl rfl h1 (by rw [ex]; rfl) h3
noncomputable def playC : Uw63.Desk → List (List Int) → List (List Int)
  | _, [] => []
  | s, c :: r => (Uw63Neutral.step s c).2 :: playC (Uw63Neutral.step s c).1 r
noncomputable def hdW (c : List (List Int)) : List Int := (PyUw63.whole c).headD []
theorem playC_eq : ∀ (raw : List (List (List Int))) (s : Uw63.Desk), PyFlat.played (fun s c => Uw63Neutral.step s (c.headD [])) s (raw.map PyUw63.whole) = playC s (raw.map hdW)
  | [], _ => rfl
  | c :: r, s => by
    show _ :: PyFlat.played _ _ (r.map PyUw63.whole) = _ :: playC _ (r.map hdW)
    rw [playC_eq r]
    rfl
theorem asked_of {ns : List Int} (h : PyUw63.answers_asked ns = true) : ∃ raw, PyFlat.calls PyUw63.shape ns.length ns = some raw ∧ (∀ c ∈ raw.map hdW, ∃ x, Uw63Neutral.callOf c = some x) ∧ PyUw63.answers ns = PyFlat.told (playC Uw63.init (raw.map hdW)) ∧ (PyUw63.answers ns).length ≤ 10000000 := by
  unfold PyUw63.answers_asked at h
  cases e : PyFlat.calls PyUw63.shape ns.length ns with
  | none =>
    rw [e] at h
    cases h
  | some raw =>
    rw [e] at h
    dsimp only at h
    rw [Bool.and_eq_true, Bool.and_eq_true] at h
    obtain ⟨⟨_, h2⟩, h3⟩ := h
    refine ⟨raw, rfl, fun c hc => ?_, ?_, of_decide_eq_true h3⟩
    · unfold Uw63Neutral.asked at h2
      rw [Bool.and_eq_true] at h2
      have hm : c ∈ (raw.map PyUw63.whole).map fun c => c.headD [] := by
        rw [List.map_map]
        exact hc
      have := List.all_eq_true.mp h2.1 c hm
      unfold Uw63Neutral.asked1 at this
      exact Option.isSome_iff_exists.mp this
    · unfold PyUw63.answers PyUw63.calls
      rw [e]
      show PyFlat.told (PyFlat.played _ Uw63Neutral.start (raw.map PyUw63.whole)) = _
      rw [playC_eq]
      rfl
theorem callOf_nat {i : Nat} {l : List Int} {x : Uw63.Call} (h : Uw63Neutral.callOf ((i : Int) :: l) = some x) : (l.map Int.toNat).map (fun (m : Nat) => (m : Int)) = l ∧ Uw63Neutral.callIn (i :: l.map Int.toNat) = some x := by
  unfold Uw63Neutral.callOf at h
  by_cases z : ((i : Int) :: l).all Uw63Neutral.nat = false
  · rw [if_pos z] at h
    cases h
  · rw [if_neg z] at h
    have z : ((i : Int) :: l).all Uw63Neutral.nat = true := by simpa using z
    rw [List.all_eq_true] at z
    refine ⟨?_, h⟩
    rw [List.map_map]
    have : ∀ y ∈ l, ((fun (m : Nat) => (m : Int)) ∘ Int.toNat) y = id y := fun y hy => by
      have := z y (List.mem_cons_of_mem _ hy)
      unfold Uw63Neutral.nat at this
      rw [Bool.and_eq_true] at this
      exact Int.toNat_of_nonneg (of_decide_eq_true this.1)
    rw [List.map_congr_left this, List.map_id]
theorem step_of {s : Uw63.Desk} {c : List Int} {x : Uw63.Call} (h : Uw63Neutral.callOf c = some x) : Uw63Neutral.step s c = Uw63.step s x := by
  unfold Uw63Neutral.step
  rw [h]
  rfl
end LM1
end
section
set_option Elab.async false
set_option linter.all false
set_option maxRecDepth 100000
set_option maxHeartbeats 2000000
namespace L2
open PySem PySem.Spec PyProof.Rows
theorem lc_enum {K : PySem.W.Frag} {a : Addr} {xs : List V} {g : TG} {tt : TT} {te : TE} {vs : List Nat} {σ : St} {H1 : Hp} {D : Addr} {Qd : Hp → Prop} (Pv : Nat → Hp → Prop) (h0 : Pv 0 (upd H1 D (.lst []))) (hl : ∀ i H, i ≤ xs.length → Pv i H → SqL K H a xs)
    (hs : ∀ i x T H, xs[i]? = some x → H T = none → Pv i H → g (.ref T) (wipe σ vs) (upd H T (.tup [.int (i : Nat), x])) fun σ2 H2 => wipe σ2 vs = wipe σ vs ∧ tt σ2 H2 fun b H3 =>
      if b = true then te σ2 H3 fun y H4 => ∃ acc, H4 D = some (.lst acc) ∧ acc.length < sizeLine ∧ Pv (i + 1) (upd H4 D (.lst (acc ++ [y]))) else Pv (i + 1) H3) (hd : ∀ H, Pv xs.length H → Qd H) :
    ∃ W : Nat → Nat → Hp → Prop, (∃ m, W 0 m (upd H1 D (.lst []))) ∧ ∀ i m H, W i m H →
      ((Ite K a).stop i H ∧ Qd H) ∨ ((Ite K a).go i H ∧ ∃ Nx : Hp → Prop, (∀ H', Nx H' → ∃ m', m' < m ∧ W (i + 1) m' H') ∧ ∀ x H', (Ite K a).yld i H x H' → g x (wipe σ vs) H' fun σ2 H2 => wipe σ2 vs = wipe σ vs ∧ tt σ2 H2 fun b H3 =>
        if b = true then te σ2 H3 fun y H4 => ∃ acc, H4 D = some (.lst acc) ∧ acc.length < sizeLine ∧ Nx (upd H4 D (.lst (acc ++ [y]))) else Nx H3) := by
  refine ⟨fun i m H => m = xs.length - i ∧ i ≤ xs.length ∧ Pv i H, ⟨xs.length, by simp, Nat.zero_le _, h0⟩, ?_⟩
  rintro i m H ⟨rfl, hi, p⟩
  have q := hl i H hi p
  by_cases hlt : i < xs.length
  · refine .inr ⟨⟨xs, xs[i], q, List.getElem?_eq_getElem hlt⟩, Pv (i + 1), fun H' p' => ⟨xs.length - (i + 1), by omega, rfl, hlt, p'⟩, fun x H' y => ?_⟩
    obtain ⟨T, x, rfl, hT, rfl, e⟩ := y
    exact hs i x T _ (e xs q) hT p
  · have e : i = xs.length := by omega
    subst e
    exact .inl ⟨⟨xs, q, Nat.le_refl _⟩, hd H p⟩
theorem lc_zip {K : PySem.W.Frag} {a b : Addr} {xs ys : List V} {g : TG} {tt : TT} {te : TE} {vs : List Nat} {σ : St} {H1 : Hp} {D : Addr} {Qd : Hp → Prop} (Pv : Nat → Hp → Prop) (h0 : Pv 0 (upd H1 D (.lst []))) (len : xs.length = ys.length) (hl : ∀ i H, i ≤ xs.length → Pv i H → SqL K H a xs ∧ SqL K H b ys)
    (hs : ∀ i x y T H, xs[i]? = some x → ys[i]? = some y → H T = none → Pv i H → g (.ref T) (wipe σ vs) (upd H T (.tup [x, y])) fun σ2 H2 => wipe σ2 vs = wipe σ vs ∧ tt σ2 H2 fun b H3 =>
      if b = true then te σ2 H3 fun y H4 => ∃ acc, H4 D = some (.lst acc) ∧ acc.length < sizeLine ∧ Pv (i + 1) (upd H4 D (.lst (acc ++ [y]))) else Pv (i + 1) H3) (hd : ∀ H, Pv xs.length H → Qd H) :
    ∃ W : Nat → Nat → Hp → Prop, (∃ m, W 0 m (upd H1 D (.lst []))) ∧ ∀ i m H, W i m H →
      ((Itz K a b).stop i H ∧ Qd H) ∨ ((Itz K a b).go i H ∧ ∃ Nx : Hp → Prop, (∀ H', Nx H' → ∃ m', m' < m ∧ W (i + 1) m' H') ∧ ∀ x H', (Itz K a b).yld i H x H' → g x (wipe σ vs) H' fun σ2 H2 => wipe σ2 vs = wipe σ vs ∧ tt σ2 H2 fun b H3 =>
        if b = true then te σ2 H3 fun y H4 => ∃ acc, H4 D = some (.lst acc) ∧ acc.length < sizeLine ∧ Nx (upd H4 D (.lst (acc ++ [y]))) else Nx H3) := by
  refine ⟨fun i m H => m = xs.length - i ∧ i ≤ xs.length ∧ Pv i H, ⟨xs.length, by simp, Nat.zero_le _, h0⟩, ?_⟩
  rintro i m H ⟨rfl, hi, p⟩
  obtain ⟨q1, q2⟩ := hl i H hi p
  by_cases hlt : i < xs.length
  · have hlt2 : i < ys.length := by omega
    refine .inr ⟨⟨xs, ys, xs[i], ys[i], q1, q2, List.getElem?_eq_getElem hlt, List.getElem?_eq_getElem hlt2⟩, Pv (i + 1), fun H' p' => ⟨xs.length - (i + 1), by omega, rfl, hlt, p'⟩, fun v H' y => ?_⟩
    obtain ⟨T, x, y, rfl, hT, rfl, e1, e2⟩ := y
    exact hs i x y T _ (e1 xs q1) (e2 ys q2) hT p
  · have e : i = xs.length := by omega
    subst e
    exact .inl ⟨⟨xs, ys, q1, q2, .inl (Nat.le_refl _)⟩, hd H p⟩
theorem for_items {d : Addr} {o : Obj} {kvs : List (Key × V)} {g : TG} {tb : TS} {D : Ends} {σ : St} {H : Hp} (Pv : Nat → St → Hp → Prop) (h0 : Pv 0 σ H) (hl : ∀ i σ H, i ≤ kvs.length → Pv i σ H → H d = some (.frz o (.dK kvs)))
    (hs : ∀ i k v T σ H, kvs[i]? = some (k, v) → H T = none → Pv i σ H → g (.ref T) σ (upd H T (.tup [kV k, v])) fun σ2 H2 => tb { D with nx := Pv (i + 1), ct := Pv (i + 1), bk := D.nx } σ2 H2) (hd : ∀ σ H, Pv kvs.length σ H → D.nx σ H) :
    ∃ W : Nat → Nat → St → Hp → Prop, (∃ m, W 0 m σ H) ∧ ∀ i m σ H, W i m σ H →
      ((Iti d o kvs).stop i H ∧ D.nx σ H) ∨ ((Iti d o kvs).go i H ∧ ∃ N : St → Hp → Prop, (∀ σ' H', N σ' H' → ∃ m', m' < m ∧ W (i + 1) m' σ' H') ∧ ∀ x H', (Iti d o kvs).yld i H x H' → g x σ H' fun σ2 H2 => tb { D with nx := N, ct := N, bk := D.nx } σ2 H2) := by
  refine ⟨fun i m σ H => m = kvs.length - i ∧ i ≤ kvs.length ∧ Pv i σ H, ⟨kvs.length, by simp, Nat.zero_le _, h0⟩, ?_⟩
  rintro i m σ H ⟨rfl, hi, p⟩
  have q := hl i σ H hi p
  by_cases hlt : i < kvs.length
  · refine .inr ⟨⟨q, hlt⟩, Pv (i + 1), fun σ' H' p' => ⟨kvs.length - (i + 1), by omega, rfl, hlt, p'⟩, fun v H' y => ?_⟩
    obtain ⟨T, k, x, e1, rfl, hT, rfl⟩ := y
    exact hs i k x T σ H e1 hT p
  · have e : i = kvs.length := by omega
    subst e
    exact .inl ⟨⟨q, Nat.le_refl _⟩, hd σ H p⟩
theorem truth_ints {prog : Program} {w : World} {A : Around} {ns : List Int} {its : List Value} (e : IntsAre its ns) :
    TruthOf prog w A (fun i v => its.toArray[i]? = some v) (fun i => (ns.map fun n => n != 0).getD i false) := fun i v s Q E hv hq => by
  have hv' : its[i]? = some v := by simpa using hv
  obtain ⟨n, t, hn, rfl⟩ := ints_get e hv'
  have hg : (ns.map fun n => n != 0).getD i false = (n != 0) := by rw [List.getD_eq_getElem?_getD, List.getElem?_map, hn]; rfl
  have hq' : Q ((ns.map fun n => n != 0).getD i false) s := hq
  rw [hg] at hq'
  exact truthy_int hq'
noncomputable def rAllI (K : PySem.W.Frag) : List V → Hp → VK → Prop := fun vs H Q => ∃ (a : Addr) (ns : List Int), vs = [V.ref a] ∧ SqL K H a (ns.map V.int) ∧ Q (.bl (ns.all fun n => n != 0)) H
theorem cr_allI {X : Cx} (hc : X.calm = true) : CallR X (.builtin "all") (rAllI X.K) := by
  intro pins s σ H vs us Q I r h
  obtain ⟨a, ns, rfl, hs, q⟩ := h
  obtain ⟨its, rv, hl, _⟩ := I.list hs
  rw [Vals.ref1 r]
  have hb := rv.ints
  refine call_all_walk (iter_any hl.isList fun s₂ e2 st hne => ?_)
  subst e2
  refine ⟨_, _, _, _, _, _, _, rfl, Walks.list (A := X.A.in1) (I.ok.hd hc) _ a hne its.toArray, st, truth_ints hb, fun h' tk hk => ?_⟩
  refine ⟨.bl _, H, I.kept fun b o eo => hk b o (fun hmem => ?_) (Heap.get?_push_of_some _ eo), ?_, q⟩
  · rcases List.mem_cons.mp hmem with e1 | hmem
    · exact absurd (e1 ▸ Heap.lt_size eo) (Nat.lt_irrefl _)
    · cases hmem
  · show Value.bool _ = Value.bool _
    have e2 : (ns.all fun n => n != 0) = (ns.map fun n => n != 0).all id := by
      rw [List.all_map]
      rfl
    have hl2 : its.toArray.size = (ns.map fun n => n != 0).length := by
      rw [List.size_toArray, List.length_map, hb.length]
    rw [e2, ← all_range, hl2]
theorem keys_vals {kvs : List (Key × V)} {vs : List (Key × Value)} (r : KV kvs vs) : ∀ {us : List Value}, us.length = vs.length → (∀ (j : Nat) (v : Value), us[j]? = some v → ∃ (k : Key) (x : Value), vs[j]? = some (k, x) ∧ keyIs k v = true) → Vals (kvs.map fun kv => kV kv.1) us := by
  induction r with
  | nil =>
    intro us hl _
    have : us = [] := List.eq_nil_of_length_eq_zero hl
    subst this
    exact .nil
  | cons q t ih =>
    intro us hl h
    cases us with
    | nil => cases hl
    | cons u us =>
      refine .cons ?_ (ih (by simpa using hl) fun j v e => h (j + 1) v (by simpa using e))
      obtain ⟨k, x, e1, e2⟩ := h 0 u rfl
      have e3 : _ = (k, x) := Option.some.inj e1
      rw [e3] at q
      show RelV (kV _) u
      rw [q.1]
      exact relV_key e2
theorem call_listD {X : Cx} (hc : X.calm = true) : CallR X (.type "list") (fun xs H Q => ∃ (d : Addr) (kvs : List (Key × V)), xs = [.ref d] ∧ Rd H d (.dK kvs) ∧ ∀ p, H p = none → Q (.ref p) (upd H p (.lst (kvs.map fun kv => kV kv.1)))) := by
  intro pins s σ H xs us Q I r h
  obtain ⟨d, kvs, rfl, hd, q⟩ := h
  rw [Vals.ref1 r]
  obtain ⟨hlen, hsm, vs, rel, dd⟩ := dk_rd I.hok hd
  obtain ⟨ep, da⟩ := dd.dictAt
  have hl : kvs.length = vs.length := Paired.length rel
  refine PySem.W.kdl_call (PySem.W.kdl_dict (knd := mixKind X.prog X.w) (d := d) (kvs := vs) (ep := ep) hsm) (I.ok.hd hc) da (by rw [← hl]; exact hlen) fun h' tk acc c kp hL hacc => ?_
  have e1 : Vals (kvs.map fun kv => kV kv.1) acc.toList := keys_vals rel (by rw [Array.length_toList]; exact hacc.1) fun j v e => hacc.2 j v (by rw [← Array.getElem?_toList]; exact e)
  exact ⟨.ref _, upd H _ (.lst (kvs.map fun kv => kV kv.1)), I.laid (t' := tk) kp (Nat.le_refl _) ⟨by rw [List.length_map]; exact hlen, acc.toList, c, e1, by simpa using hL⟩, rfl, q _ (I.hok.fresh (Nat.le_refl _))⟩
theorem Rows.get {K : PySem.W.Frag} {H : Hp} : ∀ {as : List Addr} {nss : List (List Int)} {i : Nat} {a : Addr}, Rows K H as nss → as[i]? = some a → ∃ ns, nss[i]? = some ns ∧ SqT K H a (ns.map V.int)
  | _, _, 0, _, .cons r _, e => by
    injection e with e
    subst e
    exact ⟨_, rfl, r⟩
  | _, _, i + 1, a, .cons _ t, e => Rows.get (i := i) (a := a) t e
noncomputable def rIndexRows (K : PySem.W.Frag) : V → List V → Hp → VK → Prop := fun x xs H Q => ∃ (a p : Addr) (as : List Addr) (ms : List Int) (nss : List (List Int)) (j : Nat), x = .ref p ∧ xs = [.ref a] ∧ SqT K H a (ms.map V.int) ∧ SqL K H p (as.map V.ref) ∧ Rows K H as nss ∧
  nss[j]? = some ms ∧ (∀ m < j, nss[m]? ≠ some ms) ∧ Q (.int (j : Nat)) H
open Classical in
theorem mt_indexRows {X : Cx} (hu : X.A.units + 1 < cLine) : MtR X "list.index" (rIndexRows X.K) := by
  intro pins s σ H x xs v us Q I rx rxs h
  obtain ⟨a, p, as, ms, nss, j, rfl, rfl, hx, hs, hr, hj, hno, q⟩ := h
  cases rx
  rw [Vals.ref1 rxs]
  have hlr : as.length = nss.length := Paired.length hr
  obtain ⟨its, rv, ⟨⟨cls, dd, data, sl⟩, n, ho, hc, hdn, hd⟩, hlen⟩ := I.list hs
  simp only at hc hd
  subst hc hd
  have ei : its = as.map Value.ref := by
    clear hr hs ho hlen hlr hdn
    induction as generalizing its with
    | nil =>
      cases rv
      rfl
    | cons b as ih =>
      cases rv with
      | cons r t =>
        cases r
        rw [List.map_cons, ih _ t]
  subst ei
  let f : Value → Bool := fun y => decide (∃ b, y = .ref b ∧ SqT X.K H b (ms.map V.int))
  have hf : ∀ (b : Addr) (ns : List Int), SqT X.K H b (ns.map V.int) → f (.ref b) = decide (ns = ms) := fun b ns hb => by
    show decide _ = decide _
    rw [Bool.eq_iff_iff, decide_eq_true_eq, decide_eq_true_eq]
    constructor
    · rintro ⟨b', e, h'⟩
      injection e with e
      subst e
      exact map_int_inj (I.tuple_inj hb h')
    · rintro rfl
      exact ⟨b, rfl, hb⟩
  have hjl : j < as.length := by
    have := (List.getElem?_eq_some_iff.mp hj).1
    omega
  have hjz : j < ((as.map Value.ref).toArray).size := by simpa using hjl
  have hsl := sizeLine_eq
  have hlen' : as.length ≤ sizeLine := by simpa using hlen
  have at_ : ∀ (m : Nat) (hm : m < as.length), ∃ ns, nss[m]? = some ns ∧ f (.ref as[m]) = decide (ns = ms) := fun m hm => by
    obtain ⟨ns, h1, h2⟩ := hr.get (List.getElem?_eq_getElem hm)
    exact ⟨ns, h1, hf _ _ h2⟩
  refine call_meets PySem.F.slot_list_index ⟨_, ho, rfl⟩ PySem.F.entry_list_index (PySem.F.args_list_index_2 _ _)
    (SeqAt.list_indexAt p (as.map Value.ref).toArray n dd sl (.ref a) f j hjz (by omega) ?_ ?_) ⟨ho, fun u' hu' => ?_, ?_⟩
  · obtain ⟨ns, h1, h2⟩ := at_ j hjl
    have e1 : (as.map Value.ref).toArray[j] = .ref as[j] := by simp
    rw [e1, h2]
    rw [hj] at h1
    cases h1
    simp
  · intro m hm hmj
    have hml : m < as.length := by omega
    obtain ⟨ns, h1, h2⟩ := at_ m hml
    have e1 : (as.map Value.ref).toArray[m] = .ref as[m] := by simp
    rw [e1, h2]
    exact decide_eq_false fun e => hno m hmj (by rw [h1, e])
  · have hm : u' ∈ as.map Value.ref := by simpa using hu'
    obtain ⟨b, hb, rfl⟩ := List.mem_map.mp hm
    obtain ⟨i, hi⟩ := List.mem_iff_getElem?.mp hb
    obtain ⟨ns, _, hns⟩ := hr.get hi
    rw [hf b ns hns]
    exact eqAt_rows I hns hx (Nat.lt_of_le_of_lt (by first | exact Nat.le_refl _ | (simp [Around.in1])) hu)
  · exact ⟨.int (j : Nat), H, I.tok _, ⟨_, rfl⟩, q⟩
end L2
end
section
set_option Elab.async false
set_option linter.all false
set_option maxRecDepth 100000
set_option maxHeartbeats 2000000
namespace LX
open PySem PySem.Spec PyProof.Rows L2 LM1
noncomputable def top (i : Nat) : Stmt := PySem.Challenge.pw_lettersexchanged_s01_answers.main.body.getD i (.Pass ⟨0, 0, 0, 0⟩)
noncomputable abbrev sIsWord : Stmt := top 20
noncomputable abbrev sWordsTold : Stmt := top 21
noncomputable abbrev sUnlike : Stmt := top 22
noncomputable def zi (l : List Nat) : List Int := l.map fun (m : Nat) => (m : Int)
noncomputable def zs (l : List Nat) : List V := (zi l).map V.int
theorem zi_len (l : List Nat) : (zi l).length = l.length := List.length_map _
theorem zs_len (l : List Nat) : (zs l).length = l.length := by
  unfold zs
  rw [List.length_map, zi_len]
theorem zs_get {l : List Nat} {i m : Nat} (h : l[i]? = some m) : (zs l)[i]? = some (V.int m) := by
  unfold zs zi
  rw [List.map_map, List.getElem?_map, h]
  rfl
theorem zs_drop (l : List Nat) (k : Nat) : (zs l).drop k = zs (l.drop k) := by
  unfold zs zi
  rw [List.map_map, List.map_map, List.map_drop]
theorem zs_take (l : List Nat) (k : Nat) : (zs l).take k = zs (l.take k) := by
  unfold zs zi
  rw [List.map_map, List.map_map, List.map_take]
theorem Same.tup {H H' : Hp} {K : PySem.W.Frag} {a : Addr} {xs : List V} (e : Same H H') (h : SqT K H a xs) : SqT K H' a xs := by
  rcases h with (h | ⟨o, h⟩) | h
  · exact .inl (.inl (e _ _ h))
  · exact .inl (.inr ⟨o, e _ _ h⟩)
  · exact .inr h
theorem same_new {H : Hp} {p : Addr} {o : HO} (h : H p = none) : Same H (upd H p o) := fun b u e => by
  rw [upd_ne (ne_of_none e h)]
  exact e
theorem same_upd {H H' : Hp} {p : Addr} {o : HO} (s : Same H H') (h : H p = none) : Same H (upd H' p o) := fun b u e => by
  rw [upd_ne (ne_of_none e h)]
  exact s b u e
noncomputable def TupsAt (H : Hp) : List Addr → List (List Nat) → Prop := Paired fun a w => H a = some (.tup (zs w))
theorem TupsAt.same {H H' : Hp} : ∀ {as : List Addr} {ws : List (List Nat)}, TupsAt H as ws → Same H H' → TupsAt H' as ws
  | _, _, .nil, _ => .nil
  | _, _, .cons r t, s => .cons (s _ _ r) (TupsAt.same t s)
theorem TupsAt.upd {H : Hp} {p : Addr} {o : HO} : ∀ {as : List Addr} {ws : List (List Nat)}, TupsAt H as ws → (∀ xs, H p ≠ some (.tup xs)) → TupsAt (upd H p o) as ws
  | _, _, .nil, _ => .nil
  | _, _, .cons r t, n => .cons (by rw [upd_ne fun e => n _ (e ▸ r)]; exact r) (TupsAt.upd t n)
theorem TupsAt.snoc {H : Hp} : ∀ {as : List Addr} {ws : List (List Nat)} {a : Addr} {w : List Nat}, TupsAt H as ws → H a = some (.tup (zs w)) → TupsAt H (as ++ [a]) (ws ++ [w])
  | _, _, _, _, .nil, h => .cons h .nil
  | _, _, _, _, .cons r t, h => .cons r (TupsAt.snoc t h)
theorem TupsAt.len {H : Hp} {as : List Addr} {ws : List (List Nat)} (h : TupsAt H as ws) : as.length = ws.length := Paired.length h
theorem small1000' {n : Nat} (h : n ≤ 100000) : n < sizeLine := Nat.lt_of_le_of_lt h (by decide)
structure TxtA (mg : Str → Option Value) : Prop where
  len : mg "len" = none
  max : mg "max" = none
  sorted : mg "sorted" = none
  set : mg "set" = none
  tuple : mg "tuple" = none
  ml : ∃ t, mg "MOST_LETTERS" = some (.int 8 t)
  mw : ∃ t, mg "MOST_TEXT_WORDS" = some (.int 8 t)
theorem boot_max5 : bootBuiltins "max" = some (.builtin "max") := by decide +kernel
theorem boot_tuple5 : bootBuiltins "tuple" = some (.type "tuple") := by decide +kernel
theorem boot_set5 : bootBuiltins "set" = some (.type "set") := by decide +kernel
theorem boot_sorted5 : bootBuiltins "sorted" = some (.builtin "sorted") := by decide +kernel
inductive IspIsWord (K : PySem.W.Frag) (vs : List V) (H : Hp) (Q : VK) : Prop
  | mk (a : Addr) (ms : List Nat) (n : Nat) (h0 : vs = [.ref a, .int n]) (h1 : SqL K H a (zs ms)) (h2 : Q (.bl (wOk n ms)) H)
noncomputable def spIsWord (K : PySem.W.Frag) : Sp := fun vs H Q _ => IspIsWord K  vs H Q
section
variable {P : Program} {w : World} {K : PySem.W.Frag} {mg : Str → Option Value} {base : Heap}
theorem scIsWord : FnScope ["letters", "n"] ["letters", "n"] (defScope sIsWord) := ⟨rfl, rfl, rfl, by decide +kernel, rfl, by decide +kernel, by decide +kernel⟩
theorem ok_isWord {f : Addr} {fd : FuncData} (F : Fun K "is_word" "is_word" sIsWord f fd) (T : TxtA mg) : FnOk P w K mg base CX0 1 f fd ["letters", "n"] (spIsWord K) := by
  obtain ⟨tl, eml⟩ := T.ml
  refine F.ok scIsWord (fun vs H Q E h => ?_) (fun cdv A outer s H vs Q E hr h => ?_)
  · obtain ⟨a, ms, n, rfl, _⟩ := h
    rfl
  · obtain ⟨a, ms, n, rfl, hl, k⟩ := h
    refine ⟨_, pss_cons (ps_if (pt_not (pt_chain op_le op_le pe_int (pe_callB call_len_seq (by rfl) T.len PySem.boot_len (pa_cons (pv 0) pa_nil)) (pe_glob (by rfl) eml (v := .int 8) ⟨_, rfl⟩))) (pss_one (ps_ret pe_bl)) pss_nil)
      (pss_one (ps_ret (pe_cmpR op_lt (pe_callB (cr_max rfl) (by rfl) T.max boot_max5 (pa_cons (pv 0) pa_nil)) (pv 1) (nomark _)))), ?_⟩
    refine ⟨_, rfl, a, _, rfl, .inl hl, _, _, rfl, rfl, _, rfl, ?_⟩
    rw [zs_len]
    refine ite2 (fun h1 => ?_) fun h1 => ?_
    · refine ⟨_, _, rfl, rfl, _, rfl, ?_⟩
      refine ite2 (fun h2 => ?_) fun h2 => ?_
      · have e : wOk n ms = false := by
          have q : ¬ (ms.length ≤ 8) := by
            simp at h2
            omega
          unfold wOk
          rw [decide_eq_false q, Bool.and_false, Bool.false_and]
        rw [e] at k
        exact k
      · have q1 : 1 ≤ ms.length := by
          have := of_decide_eq_true h1
          omega
        have q2 : ms.length ≤ 8 := by
          simp at h2
          omega
        refine ⟨_, rfl, a, zi ms, rfl, hl, by rw [zi_len]; exact q1, fun m hm hx => ⟨_, rfl, _, _, rfl, rfl, ?_⟩⟩
        have e : wOk n ms = decide (m < (n : Int)) := by
          unfold wOk
          rw [decide_eq_true q1, decide_eq_true q2, Bool.true_and, Bool.true_and, Bool.eq_iff_iff, List.all_eq_true, decide_eq_true_eq]
          constructor
          · intro z
            obtain ⟨x, hx1, rfl⟩ := List.mem_map.mp hm
            have := of_decide_eq_true (z x hx1)
            omega
          · intro z x hxm
            have := hx (x : Int) (List.mem_map.mpr ⟨x, hxm, rfl⟩)
            exact decide_eq_true (by omega)
        rw [e] at k
        exact k
    · refine ⟨_, rfl, ?_⟩
      refine iteT ?_
      have e : wOk n ms = false := by
        have q : ¬ (1 ≤ ms.length) := fun z => h1 (decide_eq_true (by omega))
        unfold wOk
        rw [decide_eq_false q, Bool.false_and, Bool.false_and]
      rw [e] at k
      exact k
inductive IspWordsTold (K : PySem.W.Frag) (vs : List V) (H : Hp) (Q : VK) : Prop
  | mk (a : Addr) (ms : List Nat) (n : Nat) (h0 : vs = [.ref a, .int n]) (h1 : SqL K H a (zs ms)) (h2 : ms.length ≤ 7000) (h3 : (textOf n ms = none → ∀ H', Same H H' → Q .non H')) (h4 : ∀ ws, textOf n ms = some ws → ∀ (H' : Hp) (p : Addr) (as : List Addr), Same H H' → H p = none → H' p = some (.lst (as.map V.ref)) → TupsAt H' as ws → (∀ b ∈ as, H b = none) → Q (.ref p) H')
noncomputable def spWordsTold (K : PySem.W.Frag) : Sp := fun vs H Q _ => IspWordsTold K  vs H Q
theorem scWordsTold : FnScope ["told", "n", "words", "place", "count", "first", "letters"] ["told", "n"] (defScope sWordsTold) := ⟨rfl, rfl, rfl, by decide +kernel, rfl, by decide +kernel, by decide +kernel⟩
theorem cut_zs (ms : List Nat) (i c : Nat) (hi : i ≤ ms.length) : cutV (zs ms) (some (i : Int)) (some ((i : Int) + (c : Int))) = zs ((ms.drop i).take c) := by
  have e1 : HT.sIx (zs ms).length 0 (some (i : Int)) = i := by
    unfold HT.sIx
    rw [zs_len]
    dsimp only
    rw [if_neg (by omega)]
    omega
  have e2 : HT.sIx (zs ms).length (zs ms).length (some ((i : Int) + (c : Int))) = min (i + c) ms.length := by
    unfold HT.sIx
    rw [zs_len]
    dsimp only
    rw [if_neg (by omega)]
    omega
  unfold cutV
  rw [e1, e2, zs_drop, zs_take]
  congr 1
  by_cases h : i + c ≤ ms.length
  · rw [Nat.min_eq_left h]
    congr 1
    omega
  · rw [Nat.min_eq_right (by omega), List.take_of_length_le (by rw [List.length_drop]; exact Nat.le_refl _), List.take_of_length_le (by rw [List.length_drop]; omega)]
theorem ok_wordsTold {f fW : Addr} {fd fdW : FuncData} (F : Fun K "words_told" "words_told" sWordsTold f fd) (T : TxtA mg) (FW : Fun K "is_word" "is_word" sIsWord fW fdW) (bW : Binds K fdW ["letters", "n"] []) (mW : mg "is_word" = some (.ref fW)) :
    FnOk P w K mg base CX0 2 f fd ["told", "n"] (spWordsTold K) := by
  obtain ⟨tl, emw⟩ := T.mw
  have GW : FnOk P w K mg base CX0 1 fW fdW ["letters", "n"] (spIsWord K) := ok_isWord FW T
  refine F.ok scWordsTold (fun vs H Q E h => ?_) (fun cdv A outer s H vs Q E hr h => ?_)
  · obtain ⟨a, ms, n, rfl, _⟩ := h
    rfl
  · obtain ⟨a, ms, n, rfl, hl, hlen, k1, k2⟩ := h
    refine ⟨_, pss_cons (ps_set (i := 2) scWordsTold.nd rfl (Or.inl rfl) (pe_lst pa_nil)) (pss_cons (ps_set (i := 3) scWordsTold.nd rfl (Or.inl rfl) pe_int)
      (pss_cons (ps_while PassesOwn.never (pt_cmpR op_lt (pv 3) (pe_callB call_len_seq (by rfl) T.len PySem.boot_len (pa_cons (pv 0) pa_nil)) (nomark _))
        (pss_cons (ps_set (i := 4) scWordsTold.nd rfl (Or.inl rfl) (pe_ix ix_list (pv 0) (pv 3) (fun _ _ => rfl)))
        (pss_cons (ps_set (i := 5) scWordsTold.nd rfl (Or.inl rfl) (pe_op op_add (pv 3) pe_int))
        (pss_cons (ps_set (i := 6) scWordsTold.nd rfl (Or.inl rfl) (pe_slice sl_list (pv 0) (po_some (pv 5)) (po_some (pe_op op_add (pv 5) (pv 4)))))
        (pss_cons (ps_if (PW.pt (pw_or (pt_cmpR op_ne (pe_callB call_len_seq (by rfl) T.len PySem.boot_len (pa_cons (pv 6) pa_nil)) (pv 4) (nomark _)) (pw_or1 (pt_not (pt_val (pe_call GW hr rfl mW FW.kp bW .nil pass0 (pa_cons (pv 6) (pa_cons (pv 1) pa_nil))))))))
          (pss_one (ps_ret pe_non)) pss_nil)
        (pss_cons (ps_expr (pe_bm PySem.F.plainAttrs_list PySem.F.slot_list_append PySem.F.type_list_append mt_append (pv 2) (pa_cons (pe_callTy call_tuple_of (by rfl) T.tuple boot_tuple5 (pa_cons (pv 6) pa_nil)) pa_nil)))
        (pss_one (ps_set (i := 3) scWordsTold.nd rfl (Or.inl rfl) (pe_op op_add (pv 5) (pv 4))))))))))
      (pss_cons (ps_if (pt_not (pt_chain op_le op_le pe_int (pe_callB call_len_seq (by rfl) T.len PySem.boot_len (pa_cons (pv 2) pa_nil)) (pe_glob (by rfl) emw (v := .int 8) ⟨_, rfl⟩))) (pss_one (ps_ret pe_non)) pss_nil)
      (pss_one (ps_ret (pv 2)))))), ?_⟩
    refine ⟨Nat.zero_le _, fun p hp => ?_⟩
    let J : Nat → Hp → List (List Nat) → List Addr → Prop := fun pl H' ws as => pl ≤ ms.length ∧ told n ms = (told n (ms.drop pl)).map (ws ++ ·) ∧ as.length ≤ pl ∧ Same H H' ∧ H' p = some (.lst (as.map V.ref)) ∧ TupsAt H' as ws ∧ ∀ b ∈ as, H b = none
    refine ⟨fun m σ H' => ∃ (pl : Nat) (ws : List (List Nat)) (as : List Addr) (v4 v5 v6 : Option V), m = ms.length - pl ∧ σ = [some (.ref a), some (.int n), some (.ref p), some (.int pl), v4, v5, v6] ∧ J pl H' ws as,
      ⟨_, 0, [], [], none, none, none, rfl, rfl, Nat.zero_le _, ?_, Nat.le_refl _, same_new hp, upd_same, .nil, fun b hb => by cases hb⟩, ?_⟩
    · rw [List.drop_zero]
      cases told n ms <;> rfl
    · rintro m σ H' ⟨pl, ws, as, v4, v5, v6, rfl, rfl, hpl, ht, has, hS, hL, hT, hN⟩
      refine ⟨_, rfl, _, rfl, a, _, rfl, .inl (hS.seq hl), _, _, rfl, rfl, _, rfl, ?_⟩
      rw [zs_len]
      refine ite2 (fun h1 => ?_) fun h1 => ?_
      · have h1' : pl < ms.length := by
          have := of_decide_eq_true h1
          omega
        obtain ⟨c, hc⟩ : ∃ c, ms[pl]? = some c := ⟨_, List.getElem?_eq_getElem h1'⟩
        have ed : ms.drop pl = c :: ms.drop (pl + 1) := by
          rw [List.drop_eq_getElem_cons h1']
          rw [List.getElem?_eq_getElem h1'] at hc
          rw [Option.some.inj hc]
        refine ⟨fun σ' H'' => ∃ (pl' : Nat) (ws' : List (List Nat)) (as' : List Addr) (v4 v5 v6 : Option V), ms.length - pl' < ms.length - pl ∧ σ' = [some (.ref a), some (.int n), some (.ref p), some (.int pl'), v4, v5, v6] ∧ J pl' H'' ws' as', ?_, ?_⟩
        · rintro σ' H'' ⟨pl', ws', as', w4, w5, w6, lt, e, j⟩
          exact ⟨_, lt, pl', ws', as', w4, w5, w6, rfl, e, j⟩
        refine ⟨_, rfl, _, rfl, a, _, _, _, rfl, rfl, hS.seq hl, at_of rfl (zs_get hc), ?_⟩
        refine ⟨_, rfl, _, _, rfl, rfl, ?_⟩
        refine ⟨_, rfl, _, rfl, _, rfl, _, rfl, _, rfl, _, _, rfl, rfl, _, rfl, a, _, rfl, hS.seq hl, fun q hq => ?_⟩
        have ecut : cutV (zs ms) (some ((pl : Int) + 1)) (some ((pl : Int) + 1 + (c : Int))) = zs ((ms.drop (pl + 1)).take c) := cut_zs ms (pl + 1) c h1'
        rw [ecut]
        generalize hW : (ms.drop (pl + 1)).take c = W
        have hWl : W.length = min c (ms.length - (pl + 1)) := by
          rw [← hW, List.length_take, List.length_drop]
        have np : p ≠ q := ne_of_none hL hq
        have no : told n ms = none → textOf n ms = none := fun z => by
          unfold textOf
          rw [z]
        have hS1 : Same H (upd H' q (.lst (zs W))) := hS.trans (same_new hq)
        refine ⟨_, rfl, q, _, rfl, .inl (SqL.of upd_same), _, rfl, rfl, _, rfl, ?_⟩
        rw [zs_len]
        refine ite2 (fun h2 => ?_) fun h2 => ?_
        · refine iteT (k1 (no ?_) _ hS1)
          have h3 : ¬ c ≤ (ms.drop (pl + 1)).length := by
            rw [List.length_drop]
            intro z
            rw [hWl, Nat.min_eq_left z] at h2
            simp at h2
          rw [ht, ed, told_cons, if_neg fun z => h3 z.1]
          rfl
        · have h3 : c ≤ (ms.drop (pl + 1)).length := by
            rw [List.length_drop]
            have z : W.length = c := by
              by_cases y : W.length = c
              · exact y
              · exfalso
                refine h2 ?_
                rw [decide_eq_false fun e => y (by injection e with e; omega)]
                rfl
            omega
          refine ⟨_, rfl, _, rfl, q, W, n, rfl, SqL.of upd_same, _, rfl, ?_⟩
          refine ite2 (fun h4 => ?_) fun h4 => ?_
          · refine k1 (no ?_) _ hS1
            rw [ht, ed, told_cons, hW, if_neg fun z => by rw [z.2] at h4; cases h4]
            rfl
          · have h5 : wOk n W = true := by
              cases e : wOk n W with
              | true => rfl
              | false =>
                rw [e] at h4
                exact absurd rfl h4
            refine ⟨_, rfl, .inl ⟨rfl, _, SqL.of (by rw [upd_ne np]; exact hL)⟩, _, rfl, q, _, rfl, .inl ⟨SqL.of upd_same, fun l hl2 => ?_⟩⟩
            have nl : H' l = none := (same_new hq).free hl2
            have npl : p ≠ l := ne_of_none hL nl
            have hql : q ≠ l := fun z => by
              rw [← z, upd_same] at hl2
              cases hl2
            refine ⟨p, _, _, rfl, rfl, by rw [upd_ne npl, upd_ne np]; exact hL, by rw [List.length_map]; exact small1000' (by omega), ?_⟩
            refine ⟨_, rfl, _, rfl, _, _, rfl, rfl, ?_⟩
            have hpl2 : pl + 1 + c ≤ ms.length := by
              rw [List.length_drop] at h3
              omega
            have e3 : (some (V.int ((pl : Int) + 1 + (c : Int))) : Option V) = some (V.int ((pl + 1 + c : Nat) : Int)) := by
              congr 2
            refine ⟨pl + 1 + c, ws ++ [W], as ++ [l], _, _, _, by omega, congrArg (fun z => [some (V.ref a), some (V.int (n : Int)), some (V.ref p), z, some (V.int (c : Int)), some (V.int ((pl : Int) + 1)), some (V.ref q)]) e3, hpl2, ?_, by rw [List.length_append]; simp; omega, same_upd (hS1.trans (same_new hl2)) hp, ?_, ?_, ?_⟩
            · rw [ht, ed, told_cons, hW, if_pos ⟨h3, h5⟩, List.drop_drop]
              cases told n (ms.drop (pl + 1 + c)) with
              | none => rfl
              | some x =>
                show some (ws ++ W :: x) = some (ws ++ [W] ++ x)
                rw [List.append_assoc]
                rfl
            · rw [upd_same, List.map_append]
              rfl
            · have t1 : TupsAt (upd (upd H' q (.lst (zs W))) l (.tup (zs W))) as ws := hT.same ((same_new hq).trans (same_new hl2))
              refine (t1.snoc upd_same).upd fun xs z => ?_
              rw [upd_ne npl, upd_ne np, hL] at z
              cases z
            · intro b hb
              rcases List.mem_append.mp hb with z | z
              · exact hN b z
              · rw [List.mem_singleton.mp z]
                exact hS.free nl
      · have h2 : pl = ms.length := by
          have q : ¬ ((pl : Int) < (ms.length : Int)) := fun z => h1 (decide_eq_true z)
          omega
        rw [h2, List.drop_length, told_nil] at ht
        have ht' : told n ms = some ws := by
          rw [ht]
          show some (ws ++ []) = some ws
          rw [List.append_nil]
        have htx : textOf n ms = if 1 ≤ ws.length ∧ ws.length ≤ 8 then some ws else none := by
          unfold textOf
          rw [ht']
        refine ⟨_, rfl, p, _, rfl, .inl (SqL.of hL), _, _, rfl, rfl, _, rfl, ?_⟩
        rw [List.length_map, hT.len]
        refine ite2 (fun h3 => ?_) fun h3 => ?_
        · refine ⟨_, _, rfl, rfl, _, rfl, ?_⟩
          have h3' : 1 ≤ ws.length := by
            have := of_decide_eq_true h3
            omega
          refine ite2 (fun h4 => ?_) fun h4 => ?_
          · refine k1 ?_ H' hS
            rw [htx, if_neg]
            intro z
            have e : decide ((ws.length : Int) ≤ 8) = true := decide_eq_true (by omega)
            rw [e] at h4
            cases h4
          · refine ⟨_, rfl, k2 ws ?_ H' p as hS hp hL hT hN⟩
            rw [htx, if_pos]
            refine ⟨h3', ?_⟩
            by_cases z : ws.length ≤ 8
            · exact z
            · exfalso
              refine h4 ?_
              rw [decide_eq_false (show ¬ ((ws.length : Int) ≤ 8) by omega)]
              rfl
        · refine ⟨_, rfl, iteT (k1 ?_ H' hS)⟩
          rw [htx, if_neg]
          intro z
          exact h3 (decide_eq_true (by omega))
inductive IspUnlike (K : PySem.W.Frag) (vs : List V) (H : Hp) (Q : VK) : Prop
  | mk (p : Addr) (as : List Addr) (ws : List (List Nat)) (n : Nat) (h0 : vs = [.ref p]) (h1 : H p = some (.lst (as.map V.ref))) (h2 : TupsAt H as ws) (h3 : bad n ws = false) (h4 : n ≤ 26) (h5 : ws.flatten.length ≤ 1000) (h6 : ∀ (H' : Hp) (q : Addr), Same H H' → H q = none → H' q = some (.lst (zs (lets n ws))) → Q (.ref q) H')
noncomputable def spUnlike (K : PySem.W.Frag) : Sp := fun vs H Q _ => IspUnlike K  vs H Q
theorem scUnlike : FnScope ["words", "letters", "word"] ["words"] (defScope sUnlike) := ⟨rfl, rfl, rfl, by decide +kernel, rfl, by decide +kernel, by decide +kernel⟩
theorem zs_append (a b : List Nat) : zs (a ++ b) = zs a ++ zs b := by
  unfold zs zi
  rw [List.map_append, List.map_append]
theorem TupsAt.get {H : Hp} : ∀ {as : List Addr} {ws : List (List Nat)} {i : Nat} {a : Addr}, TupsAt H as ws → as[i]? = some a → ∃ w, ws[i]? = some w ∧ H a = some (.tup (zs w))
  | _, _, 0, _, .cons r _, e => by
    injection e with e
    subst e
    exact ⟨_, rfl, r⟩
  | _, _, i + 1, a, .cons _ t, e => TupsAt.get (i := i) (a := a) t e
theorem refs_get {as : List Addr} {i : Nat} {v : V} (h : (as.map V.ref)[i]? = some v) : ∃ a, as[i]? = some a ∧ v = .ref a := by
  rw [List.getElem?_map] at h
  cases e : as[i]? with
  | none =>
    rw [e] at h
    cases h
  | some a =>
    rw [e] at h
    exact ⟨a, rfl, (Option.some.inj h).symm⟩
theorem take_snoc {α : Type} : ∀ {l : List α} {i : Nat} {x : α}, l[i]? = some x → l.take (i + 1) = l.take i ++ [x]
  | [], i, x, h => by simp at h
  | a :: l, 0, x, h => by
    have e : a = x := Option.some.inj h
    subst e
    rfl
  | a :: l, i + 1, x, h => congrArg (a :: ·) (take_snoc (l := l) (i := i) (x := x) h)
theorem flat_take_le {l : List (List Nat)} (i : Nat) : (l.take i).flatten.length ≤ l.flatten.length := by
  have e : l.flatten = (l.take i).flatten ++ (l.drop i).flatten := by
    rw [← List.flatten_append, List.take_append_drop]
  rw [e, List.length_append]
  omega
theorem ok_unlike {f : Addr} {fd : FuncData} (F : Fun K "unlike_letters" "unlike_letters" sUnlike f fd) (T : TxtA mg) : FnOk P w K mg base CX0 1 f fd ["words"] (spUnlike K) := by
  refine F.ok scUnlike (fun vs H Q E h => ?_) (fun cdv A outer s H vs Q E hr h => ?_)
  · obtain ⟨p, as, ws, n, rfl, _⟩ := h
    rfl
  · obtain ⟨p, as, ws, n, rfl, hp, hT, hb, hn, hf, k⟩ := h
    refine ⟨_, pss_cons (ps_set (i := 1) scUnlike.nd rfl (Or.inl rfl) (pe_lst pa_nil))
      (pss_cons (ps_for PassesOwn.never rfl (pi_list (pv 0)) (pg_name (i := 2) scUnlike.nd rfl (Or.inl rfl))
        (pss_one (ps_expr (pe_bm PySem.F.plainAttrs_list PySem.F.slot_list_extend PySem.F.type_list_extend mt_extendT (pv 1) (pa_cons (pv 2) pa_nil)))))
      (pss_one (ps_ret (pe_callB (cr_sortedSet rfl) (by rfl) T.sorted boot_sorted5 (pa_cons (pe_callTy (cr_set rfl) (by rfl) T.set boot_set5 (pa_cons (pv 1) pa_nil)) pa_nil))))), ?_⟩
    refine ⟨Nat.zero_le _, fun q hq => ?_⟩
    have s0 : Same H (upd H q (.lst [])) := same_new hq
    refine ⟨_, rfl, p, rfl, ⟨_, SqL.of (s0 _ _ hp)⟩, for_list (K := K) (a := p) (xs := as.map V.ref) (fun i σ H' => ∃ v : Option V, σ = [some (.ref p), some (.ref q), v] ∧ Same H H' ∧ H' q = some (.lst (zs (ws.take i).flatten)))
      ⟨none, rfl, s0, upd_same⟩ (fun i σ H' _ ⟨_, _, s1, _⟩ => SqL.of (s1 _ _ hp)) ?_ ?_⟩
    · rintro i y σ H' hi ⟨v, rfl, s1, hq'⟩
      obtain ⟨a, ha, rfl⟩ := refs_get hi
      obtain ⟨w, hw, hta⟩ := hT.get ha
      have e : (ws.take (i + 1)).flatten = (ws.take i).flatten ++ w := by
        rw [take_snoc hw, List.flatten_append]
        simp
      refine ⟨_, rfl, .inl ⟨rfl, _, SqL.of hq'⟩, _, rfl, q, a, _, _, rfl, rfl, hq', s1 _ _ hta, ?_, ?_⟩
      · rw [← List.length_append, ← zs_append, ← e, zs_len]
        exact Nat.le_of_lt (small1000' (Nat.le_trans (flat_take_le _) (Nat.le_trans hf (by decide))))
      · refine ⟨_, rfl, same_upd s1 hq, ?_⟩
        rw [upd_same, e, zs_append]
    · rintro σ H' ⟨v, rfl, s1, hq'⟩
      rw [List.length_map, hT.len, List.take_length] at hq'
      refine ⟨_, rfl, q, zi ws.flatten, rfl, SqL.of hq', by rw [zi_len]; omega, fun r ks hr' nd mem => ⟨r, ks, rfl, upd_same, Nat.lt_of_le_of_lt (ks_len hb nd mem) (by omega), fun ns t p1 p2 ht => ?_⟩⟩
      have e := lets_of hb p1 p2 nd mem
      subst e
      exact k _ t (s1.trans ((same_new hr').trans (same_new ht))) (s1.free ((same_new hr').free ht)) upd_same
end
end LX
end
section
set_option Elab.async false
set_option linter.all false
set_option maxRecDepth 100000
set_option maxHeartbeats 2000000
namespace LX
open PySem PySem.Spec PyProof.Rows L2 LM1
noncomputable abbrev sLongerWay : Stmt := top 2
noncomputable def kvs (k : Uw63.Key) : List (L2.Key × V) := k.map fun x => (Sum.inl (x.1 : Int), V.int (x.2 : Int))
theorem kvs_len (k : Uw63.Key) : (kvs k).length = k.length := List.length_map _
theorem kvs_val : ∀ (k : Uw63.Key) (c : Nat), valV (kvs k) (Sum.inl (c : Int)) = (Uw63.standsFor k c).map fun (p : Nat) => V.int (p : Int)
  | [], c => rfl
  | (a, p) :: k, c => by
    rw [stands_cons]
    show valV ((Sum.inl (a : Int), V.int (p : Int)) :: kvs k) _ = _
    by_cases h : a = c
    · subst h
      rw [valV_pos rfl, if_pos rfl]
      rfl
    · rw [valV_neg (fun e => h (by injection e with e; exact Int.ofNat.inj e)), if_neg h]
      exact kvs_val k c
theorem kvs_app (k r : Uw63.Key) : kvs (k ++ r) = kvs k ++ kvs r := List.map_append
theorem map_same {α : Type} {f : α → α} : ∀ {l : List α}, (∀ x ∈ l, f x = x) → l.map f = l
  | [], _ => rfl
  | x :: l, h => by
    rw [List.map_cons, h x (by simp), map_same fun y hy => h y (by simp [hy])]
theorem kvs_put {k x : Uw63.Key} {c p : Nat} (hk : keysND k) (h : add1 k c p = some x) : putK (kvs k) (Sum.inl (c : Int)) (V.int (p : Int)) = kvs x := by
  unfold add1 at h
  unfold putK
  rw [valV_any, kvs_val]
  cases e : Uw63.standsFor k c with
  | none =>
    rw [e] at h
    cases h
    rw [if_neg (by simp), kvs_app]
    rfl
  | some q =>
    rw [e] at h
    dsimp only at h
    by_cases z : q = p
    · rw [if_pos z] at h
      cases h
      subst z
      rw [if_pos (by rfl)]
      refine map_same fun y hy => ?_
      obtain ⟨⟨a, b⟩, hab, rfl⟩ := List.mem_map.mp hy
      dsimp only
      by_cases ha : (Sum.inl (a : Int) : L2.Key) = Sum.inl (c : Int)
      · rw [if_pos ha]
        have hac : a = c := by
          injection ha with ha
          exact Int.ofNat.inj ha
        subst hac
        have hb : b = q := by
          have m1 := stands_mem e
          by_cases hbq : b = q
          · exact hbq
          · exfalso
            obtain ⟨i, hi, ei⟩ := List.mem_iff_getElem.mp hab
            obtain ⟨j, hj, ej⟩ := List.mem_iff_getElem.mp m1
            have : i = j := by
              have n1 : (k.map (·.1))[i]'(by simpa using hi) = (k.map (·.1))[j]'(by simpa using hj) := by
                simp [ei, ej]
              exact (List.getElem_inj hk).mp n1
            subst this
            rw [ei] at ej
            injection ej with _ ej
            exact hbq ej
        rw [hb]
      · rw [if_neg ha]
    · rw [if_neg z] at h
      cases h
theorem kvs_vals (k : Uw63.Key) : (kvs k).map (·.2) = zs (k.map (·.2)) := by
  unfold kvs zs zi
  rw [List.map_map, List.map_map, List.map_map]
  rfl
theorem call_dictC {X : Cx} : CallR X (.type "dict") (fun xs H Q => ∃ (a : Addr) (kv : List (L2.Key × V)), xs = [.ref a] ∧ Rd H a (.dK kv) ∧ ∀ p, H p = none → Q (.ref p) (upd H p (.dK kv))) := by
  intro pins s σ H xs us Q I r h
  obtain ⟨a, kv, rfl, e, q⟩ := h
  rw [Vals.ref1 r]
  exact d_copyOf I e fun p s' hp I' => ⟨.ref p, _, I', rfl, q p hp⟩
theorem boot_dict5 : bootBuiltins "dict" = some (.type "dict") := by decide +kernel
structure TxtB (mg : Str → Option Value) : Prop where
  dict : mg "dict" = none
  zip : mg "zip" = none
  list : mg "list" = none
  mm : ∃ t, mg "MOST_WAYS" = some (.int 2000 t)
theorem zs_inv {l : List Nat} {i : Nat} {v : V} (h : (zs l)[i]? = some v) : ∃ m, l[i]? = some m ∧ v = .int (m : Int) := by
  unfold zs zi at h
  rw [List.map_map, List.getElem?_map] at h
  cases e : l[i]? with
  | none =>
    rw [e] at h
    cases h
  | some m =>
    rw [e] at h
    exact ⟨m, rfl, (Option.some.inj h).symm⟩
inductive IspLongerWay (vs : List V) (H : Hp) (Q : VK) : Prop
  | mk (d a b : Addr) (k : Uw63.Key) (cs ps : List Nat) (h0 : vs = [.ref d, .ref a, .ref b]) (h1 : H d = some (.dK (kvs k))) (h2 : H a = some (.tup (zs cs))) (h3 : H b = some (.tup (zs ps))) (h4 : keysND k) (h5 : valsND k) (h6 : k.length ≤ 1000) (h7 : cs.length ≤ 1000) (h8 : (Uw63.putWord k cs ps = none → ∀ H', Same H H' → Q .non H')) (h9 : ∀ x, Uw63.putWord k cs ps = some x → ∀ (H' : Hp) (q : Addr), Same H H' → H q = none → H' q = some (.dK (kvs x)) → Q (.ref q) H')
noncomputable def spLongerWay : Sp := fun vs H Q _ => IspLongerWay  vs H Q
section
variable {P : Program} {w : World} {K : PySem.W.Frag} {mg : Str → Option Value} {base : Heap}
theorem scLongerWay : FnScope ["way", "written", "word", "longer", "letter", "meant"] ["way", "written", "word"] (defScope sLongerWay) := ⟨rfl, rfl, rfl, by decide +kernel, rfl, by decide +kernel, by decide +kernel⟩
theorem ok_longerWay {f : Addr} {fd : FuncData} (F : Fun K "longer_way" "longer_way" sLongerWay f fd) (T : TxtA mg) (U : TxtB mg) : FnOk P w K mg base CX0 1 f fd ["way", "written", "word"] spLongerWay := by
  refine F.ok scLongerWay (fun vs H Q E h => ?_) (fun cdv A outer s H vs Q E hr h => ?_)
  · obtain ⟨d, a, b, k, cs, ps, rfl, _⟩ := h
    rfl
  · obtain ⟨d, a, b, k, cs, ps, rfl, hd, ha, hb, hk, hv, hlk, hlc, k1, k2⟩ := h
    have hu := hu_of hr
    refine ⟨_, pss_cons (ps_if (pt_cmpR op_ne (pe_callB call_len_seq (by rfl) T.len PySem.boot_len (pa_cons (pv 1) pa_nil)) (pe_callB call_len_seq (by rfl) T.len PySem.boot_len (pa_cons (pv 2) pa_nil)) (nomark _)) (pss_one (ps_ret pe_non)) pss_nil)
      (pss_cons (ps_set (i := 3) scLongerWay.nd rfl (Or.inl rfl) (pe_callTy call_dictC (by rfl) U.dict boot_dict5 (pa_cons (pv 0) pa_nil)))
      (pss_cons (ps_for PassesOwn.never rfl (pi_zipT (by rfl) U.zip (pa_cons (pv 1) (pa_cons (pv 2) pa_nil))) (pg_tup rfl (pgs_cons (pg_name (i := 4) scLongerWay.nd rfl (Or.inl rfl)) (pgs_cons (pg_name (i := 5) scLongerWay.nd rfl (Or.inl rfl)) pgs_nil)))
        (pss_cons (ps_if (pt_cmpR op_ne (pe_dget2 hu (pv 3) (pv 4) (pv 5) ⟨rfl, rfl, rfl, rfl⟩) (pv 5) (nomark _)) (pss_one (ps_ret pe_non)) pss_nil)
        (pss_one (ps_dput hu (pv 3) (pv 4) (pv 5) rfl))))
      (pss_cons (ps_if (pt_cmpR op_ne (pe_callB cr_lenSet (by rfl) T.len PySem.boot_len (pa_cons (pe_callTy (cr_set rfl) (by rfl) T.set boot_set5 (pa_cons (pe_vals rfl (by rfl) U.list (pv 3)) pa_nil)) pa_nil)) (pe_callB call_lenD (by rfl) T.len PySem.boot_len (pa_cons (pv 3) pa_nil)) (nomark _)) (pss_one (ps_ret pe_non)) pss_nil)
      (pss_one (ps_ret (pv 3)))))), ?_⟩
    refine ⟨_, rfl, a, _, rfl, .inr (SqT.of ha), _, rfl, b, _, rfl, .inr (SqT.of hb), rfl, _, rfl, ?_⟩
    rw [zs_len, zs_len]
    refine ite2 (fun h1 => ?_) fun h1 => ?_
    · refine k1 (putWord_len fun e => ?_) H (Same.refl H)
      rw [e, decide_eq_true rfl] at h1
      cases h1
    · have hl : cs.length = ps.length := by
        by_cases z : cs.length = ps.length
        · exact z
        · exfalso
          refine h1 ?_
          rw [decide_eq_false fun e => z (by injection e with e; omega)]
          rfl
      refine ⟨_, rfl, d, _, rfl, .inl hd, fun q hq => ?_⟩
      have s0 : Same H (upd H q (.dK (kvs k))) := same_new hq
      let J : Nat → L2.St → Hp → Prop := fun i σ H' => ∃ (v4 v5 : Option V) (x : Uw63.Key), σ = [some (.ref d), some (.ref a), some (.ref b), some (.ref q), v4, v5] ∧ Same H H' ∧ H' q = some (.dK (kvs x)) ∧ addW k (cs.take i) (ps.take i) = some x ∧ keysND x ∧ x.length ≤ k.length + i
      refine ⟨_, rfl, _, rfl, a, b, _, _, rfl, SqT.of (s0 _ _ ha), SqT.of (s0 _ _ hb), for_zipT (K := K) (a := a) (b := b) (xs := zs cs) (ys := zs ps) J ⟨none, none, k, rfl, s0, upd_same, rfl, hk, Nat.le_refl _⟩ (by rw [zs_len, zs_len]; exact hl)
        (fun i σ H' _ ⟨_, _, _, _, s1, _⟩ => ⟨SqT.of (s1 _ _ ha), SqT.of (s1 _ _ hb)⟩) ?_ ?_⟩
      · rintro i v v' T σ H' hi hi' hT ⟨v4, v5, x, rfl, s1, hq1, hx, hkx, hlx⟩
        obtain ⟨c, hc, rfl⟩ := zs_inv hi
        obtain ⟨p, hp, rfl⟩ := zs_inv hi'
        have hci : i < cs.length := (List.getElem?_eq_some_iff.mp hc).1
        have lt : (cs.take i).length = (ps.take i).length := by rw [List.length_take, List.length_take, hl]
        have s2 : Same H (upd H' T (.tup [.int (c : Int), .int (p : Int)])) := s1.trans (same_new hT)
        have hqT : q ≠ T := ne_of_none hq1 hT
        have hq2 : (upd H' T (.tup [.int (c : Int), .int (p : Int)])) q = some (.dK (kvs x)) := by rw [upd_ne hqT]; exact hq1
        have es : addW k (cs.take (i + 1)) (ps.take (i + 1)) = add1 x c p := by
          rw [take_snoc hc, take_snoc hp, addW_snoc lt, hx]
          rfl
        refine ⟨T, _, rfl, SqT.of upd_same, rfl, _, _, rfl, _, _, rfl, rfl, ?_⟩
        refine ⟨_, rfl, q, rfl, .inl ⟨_, .inl hq2⟩, _, rfl, _, rfl, _, DGet.k (k := Sum.inl (c : Int)) hq2, ?_⟩
        rw [kvs_val]
        refine ⟨_, rfl, ?_⟩
        have stop : add1 x c p = none → Uw63.putWord k cs ps = none := fun z => by
          rw [putWord_eq hv hl]
          have e1 : addW k cs ps = none := by
            have e2 := addW_none_pre (cs := cs.take (i + 1)) (ps := ps.take (i + 1)) (cs2 := cs.drop (i + 1)) (ps2 := ps.drop (i + 1)) (k := k) (by rw [List.length_take, List.length_take, hl]) (es.trans z)
            rw [List.take_append_drop, List.take_append_drop] at e2
            exact e2
          rw [e1]
          rfl
        have go : ∀ y, add1 x c p = some y → ∀ D : Ends, (∀ σ H', J (i + 1) σ H' → D.nx σ H') → (sDPut (tVar 3) (tVar 4) (tVar 5)) D [some (.ref d), some (.ref a), some (.ref b), some (.ref q), some (.int (c : Int)), some (.int (p : Int))] (upd H' T (.tup [.int (c : Int), .int (p : Int)])) := fun y hy D hD => by
          have hl2 := add1_len hy
          refine ⟨_, rfl, _, rfl, _, rfl, q, _, rfl, DPut.k (k := Sum.inl (c : Int)) hq2 (by rw [kvs_len]; exact small1000' (by omega)), ?_⟩
          refine hD _ _ ⟨_, _, y, rfl, same_upd s2 hq, ?_, es.trans hy, add1_keys hkx hy, by omega⟩
          rw [upd_same, kvs_put hkx hy]
        cases e : Uw63.standsFor x c with
        | none =>
          refine ⟨rfl, _, rfl, ?_⟩
          show if (!decide (V.int (p : Int) = V.int (p : Int))) = true then _ else _
          refine iteNS rfl ?_
          exact go (x ++ [(c, p)]) (by unfold add1; rw [e]) _ fun _ _ z => z
        | some r =>
          refine ⟨rfl, _, rfl, ?_⟩
          show if (!decide (V.int (r : Int) = V.int (p : Int))) = true then _ else _
          by_cases z : r = p
          · subst z
            refine iteNS rfl ?_
            exact go x (by unfold add1; rw [e]; exact if_pos rfl) _ fun _ _ z => z
          · rw [decide_eq_false fun w => z (by injection w with w; omega)]
            refine iteT ?_
            exact k1 (stop (by unfold add1; rw [e]; exact if_neg z)) _ s2
      · rintro σ H' ⟨v4, v5, x, rfl, s1, hq1, hx, hkx, hlx⟩
        rw [zs_len, List.take_length, hl, List.take_length] at hx
        have hres : Uw63.putWord k cs ps = if valsND x then some x else none := by
          rw [putWord_eq hv hl, hx]
          rfl
        rw [zs_len] at hlx
        refine ⟨_, rfl, q, _, rfl, .inl hq1, fun l hl' => ?_⟩
        rw [kvs_vals]
        refine ⟨l, zi (x.map (·.2)), rfl, SqL.of upd_same, by rw [zi_len, List.length_map]; omega, fun t ks ht nd mem => ⟨t, ks, rfl, upd_same, _, rfl, q, kvs x, rfl, ?_, rfl, _, rfl, ?_⟩⟩
        · rw [upd_ne (ne_of_none ((same_new hl') _ _ hq1) ht), upd_ne (ne_of_none hq1 hl')]
          exact hq1
        · have s3 : Same H (upd (upd H' l (.lst (zs (x.map (·.2))))) t (setO P w t ks)) := s1.trans ((same_new hl').trans (same_new ht))
          have hq3 : (upd (upd H' l (.lst (zs (x.map (·.2))))) t (setO P w t ks)) q = some (.dK (kvs x)) := (same_new ht) _ _ ((same_new hl') _ _ hq1)
          have hle := len_eq_iff nd mem
          rw [zi_len, List.length_map] at hle
          have hnd : ks.length = x.length ↔ valsND x := hle.trans nodup_int
          rw [kvs_len]
          by_cases z : valsND x
          · rw [decide_eq_true (show V.int (ks.length : Int) = V.int (x.length : Int) by rw [hnd.mpr z])]
            refine iteF ⟨_, rfl, k2 x (by rw [hres, if_pos z]) _ q s3 hq hq3⟩
          · rw [decide_eq_false (show ¬ V.int (ks.length : Int) = V.int (x.length : Int) from fun e => z (hnd.mp (by injection e with e; omega)))]
            exact iteT (k1 (by rw [hres, if_neg z]) _ s3)
end
end LX
end
section
set_option Elab.async false
set_option linter.all false
set_option maxRecDepth 100000
set_option maxHeartbeats 2000000
namespace LX
open PySem PySem.Spec PyProof.Rows L2 LM1
noncomputable abbrev sFitting : Stmt := top 3
structure TxtC (mg : Str → Option Value) : Prop where
  enumerate : mg "enumerate" = none
  range : mg "range" = none
  all : mg "all" = none
inductive IspFitting (K : PySem.W.Frag) (vs : List V) (H : Hp) (Q : VK) : Prop
  | mk (d a p : Addr) (as : List Addr) (list : List (List Nat)) (k : Uw63.Key) (cs : List Nat) (h0 : vs = [.ref d, .ref a, .ref p]) (h1 : H d = some (.dK (kvs k))) (h2 : H a = some (.tup (zs cs))) (h3 : H p = some (.lst (as.map V.ref))) (h4 : TupsAt H as list) (h5 : keysND k) (h6 : valsND k) (h7 : k.length ≤ 1000) (h8 : cs.length ≤ 1000) (h9 : list.length ≤ 1000) (h10 : ∀ (H' : Hp) (q : Addr), Same H H' → H q = none → H' q = some (.lst (zs (fits list k cs))) → Q (.ref q) H')
noncomputable def spFitting (K : PySem.W.Frag) : Sp := fun vs H Q _ => IspFitting K  vs H Q
theorem fits_snoc {list : List (List Nat)} {k : Uw63.Key} {c w : List Nat} {i : Nat} (h : list[i]? = some w) : fits (list.take (i + 1)) k c = fits (list.take i) k c ++ (if (Uw63.putWord k c w).isSome then [i] else []) := by
  have hi : i < list.length := (List.getElem?_eq_some_iff.mp h).1
  have hl : (list.take i).length = i := by rw [List.length_take]; omega
  unfold fits
  rw [take_snoc h, List.zipIdx_append, List.filter_append, List.map_append, hl]
  congr 1
  rw [List.zipIdx_cons, List.zipIdx_nil, List.filter_cons, List.filter_nil]
  dsimp only
  by_cases z : (Uw63.putWord k c w).isSome = true
  · rw [if_pos z, if_pos z, List.map_cons, List.map_nil]
    simp
  · rw [if_neg z, if_neg z, List.map_nil]
theorem fits_len (list : List (List Nat)) (k : Uw63.Key) (c : List Nat) : (fits list k c).length ≤ list.length := by
  unfold fits
  rw [List.length_map]
  refine Nat.le_trans (List.length_filter_le _ _) ?_
  rw [List.length_zipIdx]
  exact Nat.le_refl _
section
variable {P : Program} {w : World} {K : PySem.W.Frag} {mg : Str → Option Value} {base : Heap}
theorem scFitting : FnScope ["way", "written", "words", "number", "word"] ["way", "written", "words"] (defScope sFitting) := ⟨rfl, rfl, rfl, by decide +kernel, rfl, by decide +kernel, by decide +kernel⟩
theorem ok_fitting {f fL : Addr} {fd fdL : FuncData} (F : Fun K "fitting_numbers" "fitting_numbers" sFitting f fd) (T : TxtA mg) (U : TxtB mg) (V' : TxtC mg) (FL : Fun K "longer_way" "longer_way" sLongerWay fL fdL) (bL : Binds K fdL ["way", "written", "word"] []) (mL : mg "longer_way" = some (.ref fL)) :
    FnOk P w K mg base CX0 2 f fd ["way", "written", "words"] (spFitting K) := by
  have GL : FnOk P w K mg base CX0 1 fL fdL ["way", "written", "word"] spLongerWay := ok_longerWay FL T U
  refine F.ok scFitting (fun vs H Q E h => ?_) (fun cdv A outer s H vs Q E hr h => ?_)
  · obtain ⟨d, a, p, as, list, k, cs, rfl, _⟩ := h
    rfl
  · obtain ⟨d, a, p, as, list, k, cs, rfl, hd, ha, hp, hT, hk, hv, hlk, hlc, hll, k1⟩ := h
    refine ⟨_, pss_one (ps_ret (pe_lc (own := [("number", 3), ("word", 4)]) (g := gTup K 2 (gCons (gName 3) (gCons (gName 4) gNil))) rfl scFitting.nd (pi_enum (by rfl) V'.enumerate (pa_cons (pv 2) pa_nil)) (blkOk_by (by rfl))
      (fun _ _ _ _ _ => pg_tup rfl (pgs_cons (pg_name (i := 3) scFitting.nd rfl (Or.inl rfl) (hf := Or.inr rfl)) (pgs_cons (pg_name (i := 4) scFitting.nd rfl (Or.inl rfl) (hf := Or.inr rfl)) pgs_nil)))
      (fun _ _ _ _ _ => pts_one (pt_cmpR op_notN (pe_call GL hr rfl mL FL.kp bL .nil pass0 (pa_cons (pv 0) (pa_cons (pv 1) (pa_cons (pv 4) pa_nil)))) pe_non (nomark _)))
      (fun _ _ _ _ _ => pv 3))), ?_⟩
    refine ⟨_, rfl, p, _, rfl, SqL.of hp, fun D hD => ?_⟩
    have s0 : Same H (upd H D (.lst [])) := same_new hD
    refine lc_enum (K := K) (xs := as.map V.ref) (fun i H' => Same H H' ∧ H' D = some (.lst (zs (fits (list.take i) k cs)))) ⟨s0, upd_same⟩ (fun i H' _ ⟨s1, _⟩ => SqL.of (s1 _ _ hp)) ?_ ?_
    · rintro i x T' H' hi hT' ⟨s1, hD1⟩
      obtain ⟨b, hb, rfl⟩ := refs_get hi
      obtain ⟨wd, hw, htb⟩ := hT.get hb
      have hil : i < list.length := (List.getElem?_eq_some_iff.mp hw).1
      have s2 : Same H (upd H' T' (.tup [.int (i : Nat), .ref b])) := s1.trans (same_new hT')
      have hD2 : (upd H' T' (.tup [.int (i : Nat), .ref b])) D = some (.lst (zs (fits (list.take i) k cs))) := by
        rw [upd_ne (ne_of_none hD1 hT')]
        exact hD1
      refine ⟨T', _, rfl, SqT.of upd_same, rfl, _, _, rfl, _, _, rfl, rfl, ?_⟩
      refine ⟨rfl, _, rfl, _, rfl, _, rfl, d, a, b, k, cs, wd, rfl, s2 _ _ hd, s2 _ _ ha, s2 _ _ htb, hk, hv, hlk, hlc, fun e H'' s3 => ?_, fun x e H'' q s3 hq hx => ?_⟩
      · refine ⟨rfl, _, rfl, ?_⟩
        refine iteF ⟨s2.trans s3, ?_⟩
        rw [fits_snoc hw, e]
        simpa using s3 _ _ hD2
      · refine ⟨rfl, _, rfl, ?_⟩
        refine iteT ⟨_, rfl, _, s3 _ _ hD2, ?_, same_upd (s2.trans s3) hD, ?_⟩
        · rw [zs_len]
          exact small1000' (Nat.le_trans (fits_len _ _ _) (by rw [List.length_take]; omega))
        · rw [upd_same, fits_snoc hw, e]
          simp [zs, zi]
    · rintro H' ⟨s1, hD1⟩
      rw [List.length_map, hT.len, List.take_length] at hD1
      exact k1 H' D s1 hD hD1
end
end LX
end
section
set_option Elab.async false
set_option linter.all false
set_option maxRecDepth 100000
set_option maxHeartbeats 2000000
namespace LX
open PySem PySem.Spec PyProof.Rows L2 LM1
noncomputable abbrev sLongerWays : Stmt := top 4
noncomputable abbrev sAllReadings : Stmt := top 5
noncomputable def ObAt {α : Type} (f : α → HO) (H : Hp) : List Addr → List α → Prop := Paired fun a x => H a = some (f x)
section
variable {α : Type} {f : α → HO}
theorem ObAt.same {H H' : Hp} : ∀ {as : List Addr} {xs : List α}, ObAt f H as xs → Same H H' → ObAt f H' as xs
  | _, _, .nil, _ => .nil
  | _, _, .cons r t, s => .cons (s _ _ r) (ObAt.same t s)
theorem ObAt.upd {H : Hp} {p : Addr} {o : HO} : ∀ {as : List Addr} {xs : List α}, ObAt f H as xs → (∀ x, H p ≠ some (f x)) → ObAt f (upd H p o) as xs
  | _, _, .nil, _ => .nil
  | _, _, .cons r t, n => .cons (by rw [upd_ne fun e => n _ (e ▸ r)]; exact r) (ObAt.upd t n)
theorem ObAt.snoc {H : Hp} : ∀ {as : List Addr} {xs : List α} {a : Addr} {x : α}, ObAt f H as xs → H a = some (f x) → ObAt f H (as ++ [a]) (xs ++ [x])
  | _, _, _, _, .nil, h => .cons h .nil
  | _, _, _, _, .cons r t, h => .cons r (ObAt.snoc t h)
theorem ObAt.len {H : Hp} {as : List Addr} {xs : List α} (h : ObAt f H as xs) : as.length = xs.length := Paired.length h
theorem ObAt.get {H : Hp} : ∀ {as : List Addr} {xs : List α} {i : Nat} {a : Addr}, ObAt f H as xs → as[i]? = some a → ∃ x, xs[i]? = some x ∧ H a = some (f x)
  | _, _, 0, _, .cons r _, e => by
    injection e with e
    subst e
    exact ⟨_, rfl, r⟩
  | _, _, i + 1, a, .cons _ t, e => ObAt.get (i := i) (a := a) t e
theorem ObAt.get' {H : Hp} {as : List Addr} {xs : List α} {i : Nat} {x : α} (h : ObAt f H as xs) (e : xs[i]? = some x) : ∃ a, as[i]? = some a ∧ H a = some (f x) := by
  have hi : i < as.length := by
    rw [h.len]
    exact (List.getElem?_eq_some_iff.mp e).1
  obtain ⟨x', e1, e2⟩ := h.get (List.getElem?_eq_getElem hi)
  rw [e] at e1
  cases e1
  exact ⟨_, List.getElem?_eq_getElem hi, e2⟩
end
noncomputable abbrev DictsAt : Hp → List Addr → List Uw63.Key → Prop := ObAt fun k => .dK (kvs k)
theorem nextK_snoc {list : List (List Nat)} {ks : List Uw63.Key} {c : List Nat} {i : Nat} {k : Uw63.Key} (h : ks[i]? = some k) : nextK list (ks.take (i + 1)) c = nextK list (ks.take i) c ++ list.filterMap (Uw63.putWord k c) := by
  unfold nextK
  rw [take_snoc h, List.flatMap_append]
  simp
theorem nextK_pre (list : List (List Nat)) (ks : List Uw63.Key) (c : List Nat) (i : Nat) : (nextK list (ks.take i) c).length ≤ (nextK list ks c).length := by
  conv => rhs; rw [← List.take_append_drop i ks]
  unfold nextK
  rw [List.flatMap_append, List.length_append]
  omega
theorem fm_snoc {α β : Type} {l : List α} {f : α → Option β} {j : Nat} {w : α} (h : l[j]? = some w) : (l.take (j + 1)).filterMap f = (l.take j).filterMap f ++ (f w).toList := by
  rw [take_snoc h, List.filterMap_append]
  congr 1
inductive IspLongerWays (vs : List V) (H : Hp) (Q : VK) : Prop
  | mk (p a q : Addr) (ds as : List Addr) (ks : List Uw63.Key) (list : List (List Nat)) (cs : List Nat) (h0 : vs = [.ref p, .ref a, .ref q]) (h1 : H p = some (.lst (ds.map V.ref))) (h2 : DictsAt H ds ks) (h3 : H a = some (.tup (zs cs))) (h4 : H q = some (.lst (as.map V.ref))) (h5 : TupsAt H as list) (h6 : (∀ k ∈ ks, keysND k ∧ valsND k ∧ k.length ≤ 1000)) (h7 : cs.length ≤ 1000) (h8 : list.length ≤ 1000) (h9 : ∀ (H' : Hp) (r : Addr) (es : List Addr) (xs : List Uw63.Key), Same H H' → H r = none → H' r = some (.lst (es.map V.ref)) → DictsAt H' es xs → (xs = nextK list ks cs ∨ (2000 < xs.length ∧ 2000 < (nextK list ks cs).length)) → Q (.ref r) H')
noncomputable def spLongerWays : Sp := fun vs H Q _ => IspLongerWays  vs H Q
section
variable {P : Program} {w : World} {K : PySem.W.Frag} {mg : Str → Option Value} {base : Heap}
theorem scLongerWays : FnScope ["ways", "written", "words", "found", "way", "word", "longer"] ["ways", "written", "words"] (defScope sLongerWays) := ⟨rfl, rfl, rfl, by decide +kernel, rfl, by decide +kernel, by decide +kernel⟩
theorem ok_longerWays {f fL : Addr} {fd fdL : FuncData} (F : Fun K "longer_ways" "longer_ways" sLongerWays f fd) (T : TxtA mg) (U : TxtB mg) (FL : Fun K "longer_way" "longer_way" sLongerWay fL fdL) (bL : Binds K fdL ["way", "written", "word"] []) (mL : mg "longer_way" = some (.ref fL)) :
    FnOk P w K mg base CX0 2 f fd ["ways", "written", "words"] spLongerWays := by
  have GL : FnOk P w K mg base CX0 1 fL fdL ["way", "written", "word"] spLongerWay := ok_longerWay FL T U
  obtain ⟨tm, emm⟩ := U.mm
  refine F.ok scLongerWays (fun vs H Q E h => ?_) (fun cdv A outer s H vs Q E hr h => ?_)
  · obtain ⟨p, a, q, ds, as, ks, list, cs, rfl, _⟩ := h
    rfl
  · obtain ⟨p, a, q, ds, as, ks, list, cs, rfl, hp, hD, ha, hq, hT, hks, hlc, hll, k1⟩ := h
    refine ⟨_, pss_cons (ps_set (i := 3) scLongerWays.nd rfl (Or.inl rfl) (pe_lst pa_nil))
      (pss_cons (ps_for PassesOwn.never rfl (pi_list (pv 0)) (pg_name (i := 4) scLongerWays.nd rfl (Or.inl rfl))
        (pss_cons (ps_for PassesOwn.never rfl (pi_list (pv 2)) (pg_name (i := 5) scLongerWays.nd rfl (Or.inl rfl))
          (pss_cons (ps_set (i := 6) scLongerWays.nd rfl (Or.inl rfl) (pe_call GL hr rfl mL FL.kp bL .nil pass0 (pa_cons (pv 4) (pa_cons (pv 1) (pa_cons (pv 5) pa_nil)))))
          (pss_one (ps_if (pt_cmpR op_notN (pv 6) pe_non (nomark _)) (pss_one (ps_expr (pe_bm PySem.F.plainAttrs_list PySem.F.slot_list_append PySem.F.type_list_append mt_append (pv 3) (pa_cons (pv 6) pa_nil)))) pss_nil))))
        (pss_one (ps_if (pt_cmpR op_gt (pe_callB call_len_seq (by rfl) T.len PySem.boot_len (pa_cons (pv 3) pa_nil)) (pe_glob (by rfl) emm (v := .int 2000) ⟨_, rfl⟩) (nomark _)) (pss_one (ps_ret (pv 3))) pss_nil))))
      (pss_one (ps_ret (pv 3)))), ?_⟩
    refine ⟨Nat.zero_le _, fun r hr0 => ?_⟩
    have s0 : Same H (upd H r (.lst [])) := same_new hr0
    let J : Nat → L2.St → Hp → Prop := fun i σ H' => ∃ (v4 v5 v6 : Option V) (es : List Addr), σ = [some (.ref p), some (.ref a), some (.ref q), some (.ref r), v4, v5, v6] ∧ Same H H' ∧ H' r = some (.lst (es.map V.ref)) ∧ DictsAt H' es (nextK list (ks.take i) cs) ∧ (nextK list (ks.take i) cs).length ≤ 2000
    refine ⟨_, rfl, p, rfl, ⟨_, SqL.of (s0 _ _ hp)⟩, for_list (K := K) (a := p) (xs := ds.map V.ref) J ⟨none, none, none, [], rfl, s0, upd_same, .nil, Nat.zero_le _⟩ (fun i σ H' _ ⟨_, _, _, _, _, s1, _⟩ => SqL.of (s1 _ _ hp)) ?_ ?_⟩
    · rintro i y σ H' hi ⟨v4, v5, v6, es, rfl, s1, hr1, hE, hle⟩
      obtain ⟨d, hd, rfl⟩ := refs_get hi
      obtain ⟨k, hk, hdk⟩ := hD.get hd
      obtain ⟨kn, kv, kl⟩ := hks k (List.mem_of_getElem? hk)
      let J2 : Nat → L2.St → Hp → Prop := fun j σ H' => ∃ (v5 v6 : Option V) (es : List Addr), σ = [some (.ref p), some (.ref a), some (.ref q), some (.ref r), some (.ref d), v5, v6] ∧ Same H H' ∧ H' r = some (.lst (es.map V.ref)) ∧ DictsAt H' es (nextK list (ks.take i) cs ++ (list.take j).filterMap (Uw63.putWord k cs))
      refine ⟨_, rfl, q, rfl, ⟨_, SqL.of (s1 _ _ hq)⟩, for_list (K := K) (a := q) (xs := as.map V.ref) J2 ⟨v5, v6, es, rfl, s1, hr1, by simpa using hE⟩ (fun i σ H' _ ⟨_, _, _, _, s1, _⟩ => SqL.of (s1 _ _ hq)) ?_ ?_⟩
      · rintro j y σ H2 hj ⟨v5, v6, es, rfl, s2, hr2, hE2⟩
        obtain ⟨b, hb, rfl⟩ := refs_get hj
        obtain ⟨wd, hw, hbw⟩ := hT.get hb
        have hjl : j < list.length := (List.getElem?_eq_some_iff.mp hw).1
        refine ⟨_, rfl, _, rfl, _, rfl, d, a, b, k, cs, wd, rfl, s2 _ _ hdk, s2 _ _ ha, s2 _ _ hbw, kn, kv, kl, hlc, fun e H3 s3 => ?_, fun x e H3 t s3 ht hx => ?_⟩
        · refine ⟨_, rfl, rfl, _, rfl, iteF ⟨_, _, es, rfl, s2.trans s3, s3 _ _ hr2, ?_⟩⟩
          rw [fm_snoc hw, e]
          simpa using hE2.same s3
        · have hr3 := s3 _ _ hr2
          refine ⟨_, rfl, rfl, _, rfl, iteT ⟨_, rfl, .inl ⟨rfl, _, SqL.of hr3⟩, _, rfl, r, _, _, rfl, rfl, hr3, ?_, ?_⟩⟩
          · rw [List.length_map, hE2.len, List.length_append]
            have h1 := List.length_filterMap_le (Uw63.putWord k cs) (list.take j)
            rw [List.length_take] at h1
            exact small1000' (by omega)
          · refine ⟨_, _, es ++ [t], rfl, same_upd (s2.trans s3) hr0, ?_, ?_⟩
            · rw [upd_same, List.map_append]
              rfl
            · rw [fm_snoc hw, e, ← List.append_assoc]
              exact ((hE2.same s3).snoc hx).upd fun x z => by
                rw [hr3] at z
                cases z
      · rintro σ H2 ⟨v5, v6, es, rfl, s2, hr2, hE2⟩
        rw [List.length_map, hT.len, List.take_length, ← nextK_snoc hk] at hE2
        refine ⟨_, rfl, r, _, rfl, .inl (SqL.of hr2), _, _, rfl, rfl, _, rfl, ?_⟩
        rw [List.length_map, hE2.len]
        refine ite2 (fun h1 => ?_) fun h1 => ?_
        · have h2 : 2000 < (nextK list (ks.take (i + 1)) cs).length := by
            have := of_decide_eq_true h1
            omega
          exact ⟨_, rfl, k1 H2 r es _ s2 hr0 hr2 hE2 (.inr ⟨h2, Nat.lt_of_lt_of_le h2 (nextK_pre _ _ _ _)⟩)⟩
        · refine ⟨_, _, _, es, rfl, s2, hr2, hE2, ?_⟩
          refine Nat.le_of_not_lt fun z => h1 (decide_eq_true ?_)
          show (2000 : Int) < _
          omega
    · rintro σ H' ⟨v4, v5, v6, es, rfl, s1, hr1, hE, hle⟩
      rw [List.length_map, hD.len, List.take_length] at hE
      exact ⟨_, rfl, k1 H' r es _ s1 hr0 hr1 hE (.inl rfl)⟩
end
end LX
end
section
set_option Elab.async false
set_option linter.all false
set_option maxRecDepth 100000
set_option maxHeartbeats 2000000
namespace LX
open PySem PySem.Spec PyProof.Rows L2 LM1
inductive IspAllReadings (vs : List V) (H : Hp) (Q : VK) : Prop
  | mk (t q d : Addr) (ts as : List Addr) (text list : List (List Nat)) (h : Uw63.Key) (h0 : vs = [.ref t, .ref q, .ref d]) (h1 : H t = some (.lst (ts.map V.ref))) (h2 : TupsAt H ts text) (h3 : H q = some (.lst (as.map V.ref))) (h4 : TupsAt H as list) (h5 : H d = some (.dK (kvs h))) (h6 : keysND h) (h7 : valsND h) (h8 : h.length ≤ 100) (h9 : text.length ≤ 8) (h10 : (∀ c ∈ text, c.length ≤ 8)) (h11 : list.length ≤ 1000) (h12 : (readK list [h] text = none → ∀ H', Same H H' → Q .non H')) (h13 : ∀ ks, readK list [h] text = some ks → ∀ (H' : Hp) (r : Addr) (es : List Addr), Same H H' → H r = none → H' r = some (.lst (es.map V.ref)) → DictsAt H' es ks → Q (.ref r) H')
noncomputable def spAllReadings : Sp := fun vs H Q _ => IspAllReadings  vs H Q
theorem atI_nat' {xs : List V} {i : Nat} {x : V} (h : xs[i]? = some x) : atI xs (i : Int) = some x := at_of rfl h
theorem tYes_i {σ : L2.St} {H : Hp} {A B : Hp → Prop} (h : A H) : tYes σ H fun b H3 => if b = true then A H3 else B H3 := by
  show if true = true then A H else B H
  exact iteT h
theorem fits_lt {list : List (List Nat)} {k : Uw63.Key} {c : List Nat} {u : Nat} (h : u ∈ fits list k c) : u < list.length := by
  obtain ⟨w, h1, _⟩ := mem_fits.mp h
  exact (List.getElem?_eq_some_iff.mp h1).1
theorem fitW_len (list : List (List Nat)) (k : Uw63.Key) (c : List Nat) : (fitW list k c).length ≤ list.length := List.length_filter_le _ _
section
variable {P : Program} {w : World} {K : PySem.W.Frag} {mg : Str → Option Value} {base : Heap}
theorem scAllReadings : FnScope ["text", "words", "hints", "ways", "written", "fitting", "number"] ["text", "words", "hints"] (defScope sAllReadings) := ⟨rfl, rfl, rfl, by decide +kernel, rfl, by decide +kernel, by decide +kernel⟩
theorem ok_allReadings {f fL fF fW : Addr} {fd fdL fdF fdW : FuncData} (F : Fun K "all_readings" "all_readings" sAllReadings f fd) (T : TxtA mg) (U : TxtB mg) (V' : TxtC mg) (FL : Fun K "longer_way" "longer_way" sLongerWay fL fdL) (bL : Binds K fdL ["way", "written", "word"] []) (mL : mg "longer_way" = some (.ref fL))
    (FF : Fun K "fitting_numbers" "fitting_numbers" sFitting fF fdF) (bF : Binds K fdF ["way", "written", "words"] []) (mF : mg "fitting_numbers" = some (.ref fF)) (FW : Fun K "longer_ways" "longer_ways" sLongerWays fW fdW) (bW : Binds K fdW ["ways", "written", "words"] []) (mW : mg "longer_ways" = some (.ref fW)) :
    FnOk P w K mg base CX0 3 f fd ["text", "words", "hints"] spAllReadings := by
  have GF : FnOk P w K mg base CX0 2 fF fdF ["way", "written", "words"] (spFitting K) := ok_fitting FF T U V' FL bL mL
  have GW : FnOk P w K mg base CX0 2 fW fdW ["ways", "written", "words"] spLongerWays := ok_longerWays FW T U FL bL mL
  obtain ⟨tm, emm⟩ := U.mm
  refine F.ok scAllReadings (fun vs H Q E h => ?_) (fun cdv A outer s H vs Q E hr h => ?_)
  · obtain ⟨t, q, d, ts, as, text, list, h, rfl, _⟩ := h
    rfl
  · obtain ⟨t, q, d, ts, as, text, list, h, rfl, ht, hT, hq, hA, hd, kn, kv, hlh, hlt, hlc, hll, k0, k1⟩ := h
    refine ⟨_, pss_cons (ps_set (i := 3) scAllReadings.nd rfl (Or.inl rfl) (pe_lst (pa_cons (pe_callTy call_dictC (by rfl) U.dict boot_dict5 (pa_cons (pv 2) pa_nil)) pa_nil)))
      (pss_cons (ps_for PassesOwn.never rfl (pi_list (pv 0)) (pg_name (i := 4) scAllReadings.nd rfl (Or.inl rfl))
        (pss_cons (ps_setLc (i := 5) (own := [("number", 6)]) (g := gName 6) (tt := tYes) (te := tOp (rIxL K) (tVar 1) (tVar 6)) rfl scAllReadings.nd rfl rfl (sw_true rfl rfl rfl rfl) (pi_list (pe_call GF hr rfl mF FF.kp bF .nil pass0 (pa_cons (pv 2) (pa_cons (pv 4) (pa_cons (pv 1) pa_nil))))) (blkOk_by (by rfl))
          (fun _ _ _ _ _ => pg_name (i := 6) scAllReadings.nd rfl (Or.inl rfl) (hf := Or.inr rfl)) (fun _ _ _ _ _ => pts_nil) (fun _ _ _ _ _ => pe_ix ix_list (pv 1) (pv 6) (fun _ _ => rfl)))
        (pss_cons (ps_set (i := 3) scAllReadings.nd rfl (Or.inl rfl) (pe_call GW hr rfl mW FW.kp bW .nil pass0 (pa_cons (pv 3) (pa_cons (pv 4) (pa_cons (pv 5) pa_nil)))))
        (pss_one (ps_if (pt_cmpR op_gt (pe_callB call_len_seq (by rfl) T.len PySem.boot_len (pa_cons (pv 3) pa_nil)) (pe_glob (by rfl) emm (v := .int 2000) ⟨_, rfl⟩) (nomark _)) (pss_one (ps_ret pe_non)) pss_nil)))))
      (pss_one (ps_ret (pv 3)))), ?_⟩
    refine ⟨_, rfl, d, _, rfl, .inl hd, fun e0 he0 => ⟨by show 1 ≤ sizeLine; decide, fun r hr0 => ?_⟩⟩
    have s0 : Same H (upd H e0 (.dK (kvs h))) := same_new he0
    have s1 : Same H (upd (upd H e0 (.dK (kvs h))) r (.lst [.ref e0])) := s0.trans (same_new hr0)
    let J : Nat → L2.St → Hp → Prop := fun i σ H' => ∃ (v4 v5 v6 : Option V) (r : Addr) (es : List Addr) (ks : List Uw63.Key), σ = [some (.ref t), some (.ref q), some (.ref d), some (.ref r), v4, v5, v6] ∧ Same H H' ∧ H r = none ∧ H' r = some (.lst (es.map V.ref)) ∧ DictsAt H' es ks ∧
      readK list [h] text = readK list ks (text.drop i) ∧ (∀ k ∈ ks, KOk h k) ∧ (∀ k ∈ ks, k.length ≤ 100 + 8 * i)
    refine ⟨_, rfl, t, rfl, ⟨_, SqL.of (s1 _ _ ht)⟩, for_list (K := K) (a := t) (xs := ts.map V.ref) J ⟨none, none, none, r, [e0], [h], rfl, s1, s0.free hr0, upd_same, .cons ?_ .nil, rfl, ?_, ?_⟩ (fun i σ H' _ ⟨_, _, _, _, _, _, _, s1, _⟩ => SqL.of (s1 _ _ ht)) ?_ ?_⟩
    · rw [upd_ne (ne_of_none upd_same hr0), upd_same]
    · intro k hk
      rw [List.mem_singleton.mp hk]
      exact ⟨kn, kv, fun _ z => z⟩
    · intro k hk
      rw [List.mem_singleton.mp hk]
      omega
    · rintro i y σ H2 hi ⟨v4, v5, v6, r, es, ks, rfl, s2, hrn, hr2, hE, hrd, hko, hkl⟩
      obtain ⟨c, hc, rfl⟩ := refs_get hi
      obtain ⟨cs, hcs, hcc⟩ := hT.get hc
      have hil : i < text.length := (List.getElem?_eq_some_iff.mp hcs).1
      have hcl := hlc cs (List.mem_of_getElem? hcs)
      refine ⟨_, rfl, _, rfl, _, rfl, d, c, q, as, list, h, cs, rfl, s2 _ _ hd, s2 _ _ hcc, s2 _ _ hq, hA.same s2, kn, kv, by omega, by omega, by omega, fun H3 l s3 hl hl3 => ⟨l, rfl, ⟨_, SqL.of hl3⟩, fun D hD => ?_⟩⟩
      have s4 : Same H2 (upd H3 D (.lst [])) := s3.trans (same_new hD)
      refine lc_list (K := K) (xs := zs (fits list h cs)) (fun j H' => Same H3 H' ∧ ∃ bs, H' D = some (.lst (bs.map V.ref)) ∧ TupsAt H' bs (((fits list h cs).take j).map fun u => list.getD u [])) ⟨same_new hD, [], upd_same, .nil⟩ (fun j H' _ ⟨s5, _⟩ => SqL.of (s5 _ _ hl3)) ?_ ?_
      · rintro j x H4 hj ⟨s5, bs, hD4, hB⟩
        obtain ⟨u, hu, rfl⟩ := zs_inv hj
        have hul := fits_lt (List.mem_of_getElem? hu)
        obtain ⟨wd, hwd⟩ : ∃ wd, list[u]? = some wd := ⟨_, List.getElem?_eq_getElem hul⟩
        have hjl := (List.getElem?_eq_some_iff.mp hu).1
        have hfl := fits_len list h cs
        obtain ⟨b, hb⟩ : ∃ b, as[u]? = some b := ⟨_, List.getElem?_eq_getElem (by rw [hA.len]; exact hul)⟩
        obtain ⟨wd', hwd', hbw⟩ := hA.get hb
        rw [hwd] at hwd'
        cases hwd'
        have sH4 : Same H H4 := s2.trans (s3.trans s5)
        refine ⟨rfl, tYes_i ⟨_, rfl, _, rfl, q, _, _, _, rfl, rfl, SqL.of (sH4 _ _ hq), atI_nat' (x := V.ref b) (by rw [List.getElem?_map, hb]; rfl), _, hD4, ?_, same_upd s5 hD, bs ++ [b], ?_, ?_⟩⟩
        · rw [List.length_map, hB.len, List.length_map, List.length_take]
          exact small1000' (by omega)
        · rw [upd_same, List.map_append]
          rfl
        · rw [take_snoc hu, List.map_append]
          refine TupsAt.upd (hB.snoc ?_) fun xs z => by
            rw [hD4] at z
            cases z
          show H4 b = some (.tup (zs (list.getD u [])))
          rw [getD_some hwd]
          exact sH4 _ _ hbw
      · rintro H4 ⟨s5, bs, hD4, hB⟩
        rw [zs_len, List.take_length, fits_cons] at hB
        have s6 : Same H2 H4 := s3.trans s5
        have sH4 : Same H H4 := s2.trans s6
        have hfl := fitW_len list h cs
        have hlk : ∀ k ∈ ks, k.length ≤ 1000 := fun k hk => by
          have := hkl k hk
          omega
        refine ⟨_, rfl, _, rfl, _, rfl, r, c, D, es, bs, ks, fitW list h cs, cs, rfl, s6 _ _ hr2, hE.same s6, sH4 _ _ hcc, hD4, hB, fun k hk => ⟨(hko k hk).kn, (hko k hk).vn, hlk k hk⟩, by omega, by omega, fun H5 r' es' xs s7 hr' hr5 hE5 hx => ?_⟩
        rw [nextK_fit hko] at hx
        have s8 : Same H H5 := sH4.trans s7
        have hst : readK list [h] text = if 2000 < (nextK list ks cs).length then none else readK list (nextK list ks cs) (text.drop (i + 1)) := by
          rw [hrd, List.drop_eq_getElem_cons hil]
          have : text[i] = cs := by
            rw [List.getElem?_eq_getElem hil] at hcs
            exact Option.some.inj hcs
          rw [this]
          rfl
        refine ⟨_, rfl, r', _, rfl, .inl (SqL.of hr5), _, _, rfl, rfl, _, rfl, ?_⟩
        rw [List.length_map, hE5.len]
        refine ite2 (fun h1 => ?_) fun h1 => ?_
        · have h2 : 2000 < xs.length := by
            have := of_decide_eq_true h1
            omega
          refine k0 ?_ H5 s8
          rw [hst, if_pos]
          rcases hx with e | e
          · rw [← e]
            exact h2
          · exact e.2
        · have h2 : ¬ 2000 < xs.length := fun z => h1 (decide_eq_true (by show (2000 : Int) < _; omega))
          have e : xs = nextK list ks cs := by
            rcases hx with e | e
            · exact e
            · exact absurd e.1 h2
          subst e
          refine ⟨_, _, _, r', es', _, rfl, s8, sH4.free hr', hr5, hE5, ?_, nextK_ok hko, ?_⟩
          · rw [hst, if_neg h2]
          · intro x hx
            have := nextK_len hkl hcl x hx
            omega
    · rintro σ H2 ⟨v4, v5, v6, r, es, ks, rfl, s2, hrn, hr2, hE, hrd, hko, hkl⟩
      rw [List.length_map, hT.len, List.drop_length] at hrd
      exact ⟨_, rfl, k1 ks hrd H2 r es s2 hrn hr2 hE⟩
end
end LX
end
section
set_option Elab.async false
set_option linter.all false
set_option maxRecDepth 100000
set_option maxHeartbeats 2000000
namespace LX
open PySem PySem.Spec PyProof.Rows L2 LM1
noncomputable abbrev sAgree : Stmt := top 13
noncomputable abbrev sToldEnough : Stmt := top 14
noncomputable abbrev sOneMore : Stmt := top 15
noncomputable abbrev sFewestTold : Stmt := top 16
theorem boot_all5 : bootBuiltins "all" = some (.builtin "all") := by decide +kernel
theorem kvs_has {k : Uw63.Key} {c p : Nat} (h : Uw63.standsFor k c = some p) : valV (kvs k) (Sum.inl (c : Int)) = some (V.int (p : Int)) := by
  rw [kvs_val, h]
  rfl
theorem dget_key {H : Hp} {a : Addr} {k : Uw63.Key} {c p : Nat} (h : H a = some (.dK (kvs k))) (e : Uw63.standsFor k c = some p) : DGet H a (V.int (c : Int)) (some (V.int (p : Int))) := by
  have := DGet.k (k := Sum.inl (c : Int)) h
  rw [kvs_has e] at this
  exact this
noncomputable def Has (k : Uw63.Key) (cs : List Nat) : Prop := ∀ c ∈ cs, ∃ p, Uw63.standsFor k c = some p
inductive IspAgree (vs : List V) (H : Hp) (Q : VK) : Prop
  | mk (a b l : Addr) (x y : Uw63.Key) (cs : List Nat) (h0 : vs = [.ref a, .ref b, .ref l]) (h1 : H a = some (.dK (kvs x))) (h2 : H b = some (.dK (kvs y))) (h3 : H l = some (.lst (zs cs))) (h4 : Has x cs) (h5 : Has y cs) (h6 : cs.length ≤ 1000) (h7 : ∀ H', Same H H' → Q (.bl (agreeK x y cs)) H')
noncomputable def spAgree : Sp := fun vs H Q _ => IspAgree  vs H Q
section
variable {P : Program} {w : World} {K : PySem.W.Frag} {mg : Str → Option Value} {base : Heap}
theorem scAgree : FnScope ["reading", "other", "letters", "letter"] ["reading", "other", "letters"] (defScope sAgree) := ⟨rfl, rfl, rfl, by decide +kernel, rfl, by decide +kernel, by decide +kernel⟩
theorem ok_agree {f : Addr} {fd : FuncData} (F : Fun K "agree" "agree" sAgree f fd) (V' : TxtC mg) : FnOk P w K mg base CX0 1 f fd ["reading", "other", "letters"] spAgree := by
  refine F.ok scAgree (fun vs H Q E h => ?_) (fun cdv A outer s H vs Q E hr h => ?_)
  · obtain ⟨a, b, l, x, y, cs, rfl, _⟩ := h
    rfl
  · obtain ⟨a, b, l, x, y, cs, rfl, ha, hb, hl, hx, hy, hlc, k1⟩ := h
    have hu := hu_of hr
    refine ⟨_, pss_one (ps_ret (pe_callB (cr_all rfl) (by rfl) V'.all boot_all5 (pa_cons (pe_lc (own := [("letter", 3)]) (g := gName 3) (tt := tYes) rfl scAgree.nd (pi_list (pv 2)) (blkOk_by (by rfl)) (fun _ _ _ _ _ => pg_name (i := 3) scAgree.nd rfl (Or.inl rfl) (hf := Or.inr rfl)) (fun _ _ _ _ _ => pts_nil)
      (fun _ _ _ _ _ => pe_cmpR op_eq (pe_dget hu (pv 0) (pv 3) (fun _ _ => rfl)) (pe_dget hu (pv 1) (pv 3) (fun _ _ => rfl)) (nomark _))) pa_nil))), ?_⟩
    refine ⟨_, rfl, l, rfl, ⟨_, SqL.of hl⟩, fun D hD => ?_⟩
    refine lc_list (K := K) (xs := zs cs) (fun j H' => Same H H' ∧ H' D = some (.lst (((cs.take j).map fun c => Uw63.standsFor x c == Uw63.standsFor y c).map V.bl))) ⟨same_new hD, upd_same⟩ (fun j H' _ ⟨s5, _⟩ => SqL.of (s5 _ _ hl)) ?_ ?_
    · rintro j v H' hj ⟨s1, hD1⟩
      obtain ⟨c, hc, rfl⟩ := zs_inv hj
      have hcm := List.mem_of_getElem? hc
      obtain ⟨p, hp⟩ := hx c hcm
      obtain ⟨q, hq⟩ := hy c hcm
      have hjl := (List.getElem?_eq_some_iff.mp hc).1
      refine ⟨rfl, tYes_i ⟨_, rfl, _, rfl, a, _, rfl, dget_key (s1 _ _ ha) hp, _, rfl, _, rfl, b, _, rfl, dget_key (s1 _ _ hb) hq, rfl, _, hD1, ?_, same_upd s1 hD, ?_⟩⟩
      · rw [List.length_map, List.length_map, List.length_take]
        exact small1000' (by omega)
      · rw [upd_same, take_snoc hc, List.map_append, List.map_append, List.map_cons, List.map_cons, List.map_nil, List.map_nil, hp, hq]
        congr 3
        by_cases z : p = q
        · subst z
          simp
        · have : (some p == some q) = false := by simpa using z
          rw [this]
          simp
          omega
    · rintro H' ⟨s1, hD1⟩
      rw [zs_len, List.take_length] at hD1
      refine ⟨D, _, rfl, SqL.of hD1, ?_⟩
      have e : ((cs.map fun c => Uw63.standsFor x c == Uw63.standsFor y c).all id) = agreeK x y cs := by
        unfold agreeK
        rw [List.all_map]
        rfl
      rw [e]
      exact k1 H' s1
inductive IspToldEnough (vs : List V) (H : Hp) (Q : VK) : Prop
  | mk (l a p : Addr) (ds : List Addr) (x : Uw63.Key) (ks : List Uw63.Key) (cs : List Nat) (h0 : vs = [.ref l, .ref a, .ref p]) (h1 : H l = some (.lst (zs cs))) (h2 : H a = some (.dK (kvs x))) (h3 : H p = some (.lst (ds.map V.ref))) (h4 : DictsAt H ds ks) (h5 : Has x cs) (h6 : (∀ k ∈ ks, Has k cs)) (h7 : cs.length ≤ 1000) (h8 : ks.length ≤ 5000) (h9 : ∀ H', Same H H' → Q (.bl (enoughK ks x cs)) H')
noncomputable def spToldEnough : Sp := fun vs H Q _ => IspToldEnough  vs H Q
theorem scToldEnough : FnScope ["letters", "reading", "found", "other"] ["letters", "reading", "found"] (defScope sToldEnough) := ⟨rfl, rfl, rfl, by decide +kernel, rfl, by decide +kernel, by decide +kernel⟩
theorem filter_snoc {α : Type} {l : List α} {q : α → Bool} {i : Nat} {x : α} (h : l[i]? = some x) : (l.take (i + 1)).filter q = (l.take i).filter q ++ (if q x then [x] else []) := by
  rw [take_snoc h, List.filter_append, List.filter_cons, List.filter_nil]
theorem filter_take_len {α : Type} (l : List α) (q : α → Bool) (i : Nat) : ((l.take i).filter q).length ≤ l.length := by
  have := List.length_filter_le q (l.take i)
  rw [List.length_take] at this
  omega
theorem ok_toldEnough {f fA : Addr} {fd fdA : FuncData} (F : Fun K "told_enough" "told_enough" sToldEnough f fd) (T : TxtA mg) (V' : TxtC mg) (FA : Fun K "agree" "agree" sAgree fA fdA) (bA : Binds K fdA ["reading", "other", "letters"] []) (mA : mg "agree" = some (.ref fA)) :
    FnOk P w K mg base CX0 2 f fd ["letters", "reading", "found"] spToldEnough := by
  have GA : FnOk P w K mg base CX0 1 fA fdA ["reading", "other", "letters"] spAgree := ok_agree FA V'
  refine F.ok scToldEnough (fun vs H Q E h => ?_) (fun cdv A outer s H vs Q E hr h => ?_)
  · obtain ⟨l, a, p, ds, x, ks, cs, rfl, _⟩ := h
    rfl
  · obtain ⟨l, a, p, ds, x, ks, cs, rfl, hl, ha, hp, hD, hx, hks, hlc, hlk, k1⟩ := h
    refine ⟨_, pss_one (ps_ret (pe_cmpR op_eq (pe_callB call_len_seq (by rfl) T.len PySem.boot_len (pa_cons (pe_lc (own := [("other", 3)]) (g := gName 3) rfl scToldEnough.nd (pi_list (pv 2)) (blkOk_by (by rfl)) (fun _ _ _ _ _ => pg_name (i := 3) scToldEnough.nd rfl (Or.inl rfl) (hf := Or.inr rfl))
      (fun _ _ _ _ _ => pts_one (pt_val (pe_call GA hr rfl mA FA.kp bA .nil pass0 (pa_cons (pv 1) (pa_cons (pv 3) (pa_cons (pv 0) pa_nil)))))) (fun _ _ _ _ _ => pv 3)) pa_nil)) pe_int (nomark _))), ?_⟩
    refine ⟨_, rfl, p, rfl, ⟨_, SqL.of hp⟩, fun D hD0 => ?_⟩
    refine lc_list (K := K) (xs := ds.map V.ref) (fun j H' => Same H H' ∧ ∃ es : List Addr, es.length = ((ks.take j).filter fun o => agreeK x o cs).length ∧ H' D = some (.lst (es.map V.ref))) ⟨same_new hD0, [], rfl, upd_same⟩ (fun j H' _ ⟨s5, _⟩ => SqL.of (s5 _ _ hp)) ?_ ?_
    · rintro j v H' hj ⟨s1, es, hes, hD1⟩
      obtain ⟨b, hb, rfl⟩ := refs_get hj
      obtain ⟨y, hy, hby⟩ := hD.get hb
      refine ⟨rfl, _, rfl, _, rfl, _, rfl, a, b, l, x, y, cs, rfl, s1 _ _ ha, s1 _ _ hby, s1 _ _ hl, hx, hks y (List.mem_of_getElem? hy), hlc, fun H2 s2 => ⟨_, rfl, ?_⟩⟩
      have hD2 := s2 _ _ hD1
      have hfl := filter_take_len ks (fun o => agreeK x o cs) j
      refine ite2 (fun h1 => ⟨_, rfl, _, hD2, ?_, same_upd (s1.trans s2) hD0, es ++ [b], ?_, ?_⟩) fun h1 => ⟨s1.trans s2, es, ?_, hD2⟩
      · rw [List.length_map, hes]
        exact small1000' (by omega)
      · rw [filter_snoc hy, if_pos h1, List.length_append, List.length_append, hes]
        rfl
      · rw [upd_same, List.map_append]
        rfl
      · rw [filter_snoc hy, if_neg h1, List.append_nil, hes]
    · rintro H' ⟨s1, es, hes, hD1⟩
      rw [List.length_map, hD.len, List.take_length] at hes
      refine ⟨D, _, rfl, .inl (SqL.of hD1), rfl, ?_⟩
      rw [List.length_map, hes]
      have e : decide (V.int ((ks.filter fun o => agreeK x o cs).length : Int) = V.int 1) = enoughK ks x cs := by
        unfold enoughK
        rw [Bool.eq_iff_iff, decide_eq_true_eq, decide_eq_true_eq]
        constructor
        · intro z
          injection z with z
          omega
        · intro z
          rw [z]
          rfl
      rw [e]
      exact k1 H' s1
end
end LX
end
section
set_option Elab.async false
set_option linter.all false
set_option maxRecDepth 100000
set_option maxHeartbeats 2000000
namespace LX
open PySem PySem.Spec PyProof.Rows L2 LM1
theorem ObAt.updN {α : Type} {f : α → HO} {H : Hp} {p : Addr} {o : HO} : ∀ {as : List Addr} {xs : List α}, ObAt f H as xs → p ∉ as → ObAt f (L2.upd H p o) as xs
  | _, _, .nil, _ => .nil
  | _, _, .cons r t, n => .cons (by rw [upd_ne fun e => n (by rw [e]; simp)]; exact r) (ObAt.updN t fun z => n (by simp [z]))
noncomputable abbrev SetsAt : Hp → List Addr → List (List Nat) → Prop := ObAt fun s => .lst (zs s)
theorem more_snoc {L s : List Nat} {j y : Nat} (h : L[j]? = some y) : more (L.take (j + 1)) s = more (L.take j) s ++ (if (s.isEmpty || decide (s.getLastD 0 < y)) then [s ++ [y]] else []) := by
  unfold more
  rw [take_snoc h, List.filter_append, List.map_append, List.filter_cons, List.filter_nil]
  congr 1
  by_cases z : (s.isEmpty || decide (s.getLastD 0 < y)) = true
  · rw [if_pos z, if_pos z]
    rfl
  · rw [if_neg z, if_neg z]
    rfl
theorem more_len (L s : List Nat) : (more L s).length ≤ L.length := by
  unfold more
  rw [List.length_map]
  exact List.length_filter_le _ _
theorem oneMore_len (L : List Nat) : ∀ sets : List (List Nat), (oneMore sets L).length ≤ sets.length * L.length
  | [] => by simp [oneMore]
  | s :: r => by
    have e : oneMore (s :: r) L = more L s ++ oneMore r L := by
      unfold oneMore
      rw [List.flatMap_cons]
    rw [e, List.length_append, List.length_cons, Nat.add_mul, Nat.one_mul]
    have := more_len L s
    have := oneMore_len L r
    omega
theorem oneMore_snoc {sets : List (List Nat)} {L s : List Nat} {i : Nat} (h : sets[i]? = some s) : oneMore (sets.take (i + 1)) L = oneMore (sets.take i) L ++ more L s := by
  unfold oneMore
  rw [take_snoc h, List.flatMap_append]
  simp
theorem choices_len : ∀ (k : Nat) (L : List Nat), (Uw63.choices k L).length ≤ 2 ^ L.length
  | 0, L => by
    rw [choices_zero]
    exact Nat.one_le_two_pow
  | k + 1, [] => by simp [Uw63.choices]
  | k + 1, x :: r => by
    have e : Uw63.choices (k + 1) (x :: r) = ((Uw63.choices k r).map fun s => x :: s) ++ Uw63.choices (k + 1) r := rfl
    rw [e, List.length_append, List.length_map, List.length_cons, Nat.pow_succ]
    have := choices_len k r
    have := choices_len (k + 1) r
    omega
inductive IspOneMore (vs : List V) (H : Hp) (Q : VK) : Prop
  | mk (p l : Addr) (ss : List Addr) (sets : List (List Nat)) (L : List Nat) (h0 : vs = [.ref p, .ref l]) (h1 : H p = some (.lst (ss.map V.ref))) (h2 : SetsAt H ss sets) (h3 : H l = some (.lst (zs L))) (h4 : sets.length ≤ 2000) (h5 : L.length ≤ 26) (h6 : (∀ s ∈ sets, s.length ≤ 100)) (h7 : ∀ (H' : Hp) (r : Addr) (es : List Addr), Same H H' → H r = none → H' r = some (.lst (es.map V.ref)) → SetsAt H' es (oneMore sets L) → Q (.ref r) H')
noncomputable def spOneMore : Sp := fun vs H Q _ => IspOneMore  vs H Q
section
variable {P : Program} {w : World} {K : PySem.W.Frag} {mg : Str → Option Value} {base : Heap}
theorem scOneMore : FnScope ["sets", "letters", "larger", "chosen", "letter"] ["sets", "letters"] (defScope sOneMore) := ⟨rfl, rfl, rfl, by decide +kernel, rfl, by decide +kernel, by decide +kernel⟩
theorem ok_oneMore {f : Addr} {fd : FuncData} (F : Fun K "with_one_more" "with_one_more" sOneMore f fd) : FnOk P w K mg base CX0 1 f fd ["sets", "letters"] spOneMore := by
  refine F.ok scOneMore (fun vs H Q E h => ?_) (fun cdv A outer s H vs Q E hr h => ?_)
  · obtain ⟨p, l, ss, sets, L, rfl, _⟩ := h
    rfl
  · obtain ⟨p, l, ss, sets, L, rfl, hp, hS, hl, hls, hlL, hsl, k1⟩ := h
    refine ⟨_, pss_cons (ps_set (i := 2) scOneMore.nd rfl (Or.inl rfl) (pe_lst pa_nil))
      (pss_cons (ps_for PassesOwn.never rfl (pi_list (pv 0)) (pg_name (i := 3) scOneMore.nd rfl (Or.inl rfl))
        (pss_one (ps_for PassesOwn.never rfl (pi_list (pv 1)) (pg_name (i := 4) scOneMore.nd rfl (Or.inl rfl))
          (pss_one (ps_if (PW.pt (pw_or (pt_not (pt_truth (pv 3) (fun _ => rfl))) (pw_or1 (pt_cmpR op_gt (pv 4) (pe_ix ix_list (pv 3) (pe_un un_neg pe_int) (fun _ _ => rfl)) (nomark _)))))
            (pss_one (ps_expr (pe_bm PySem.F.plainAttrs_list PySem.F.slot_list_append PySem.F.type_list_append mt_append (pv 2) (pa_cons (pe_op op_cat (pv 3) (pe_lst (pa_cons (pv 4) pa_nil))) pa_nil)))) pss_nil)))))
      (pss_one (ps_ret (pv 2)))), ?_⟩
    refine ⟨Nat.zero_le _, fun r hr0 => ?_⟩
    have s0 : Same H (upd H r (.lst [])) := same_new hr0
    let J : Nat → L2.St → Hp → Prop := fun i σ H' => ∃ (v3 v4 : Option V) (es : List Addr), σ = [some (.ref p), some (.ref l), some (.ref r), v3, v4] ∧ Same H H' ∧ H' r = some (.lst (es.map V.ref)) ∧ SetsAt H' es (oneMore (sets.take i) L) ∧ r ∉ es
    refine ⟨_, rfl, p, rfl, ⟨_, SqL.of (s0 _ _ hp)⟩, for_list (K := K) (a := p) (xs := ss.map V.ref) J ⟨none, none, [], rfl, s0, upd_same, .nil, by simp⟩ (fun i σ H' _ ⟨_, _, _, _, s1, _⟩ => SqL.of (s1 _ _ hp)) ?_ ?_⟩
    · rintro i v σ H1 hi ⟨v3, v4, es, rfl, s1, hr1, hE, hN⟩
      obtain ⟨c, hc, rfl⟩ := refs_get hi
      obtain ⟨s, hs, hcs⟩ := hS.get hc
      have hsl' := hsl s (List.mem_of_getElem? hs)
      have hom : (oneMore (sets.take i) L).length ≤ 2000 * 26 := by
        have h1 := oneMore_len L (sets.take i)
        rw [List.length_take] at h1
        exact Nat.le_trans h1 (Nat.mul_le_mul (by omega) hlL)
      let J2 : Nat → L2.St → Hp → Prop := fun j σ H' => ∃ (v4 : Option V) (es : List Addr), σ = [some (.ref p), some (.ref l), some (.ref r), some (.ref c), v4] ∧ Same H H' ∧ H' r = some (.lst (es.map V.ref)) ∧ SetsAt H' es (oneMore (sets.take i) L ++ more (L.take j) s) ∧ r ∉ es
      refine ⟨_, rfl, l, rfl, ⟨_, SqL.of (s1 _ _ hl)⟩, for_list (K := K) (a := l) (xs := zs L) J2 ⟨v4, es, rfl, s1, hr1, by simpa [more] using hE, hN⟩ (fun i σ H' _ ⟨_, _, _, s1, _⟩ => SqL.of (s1 _ _ hl)) ?_ ?_⟩
      · rintro j v σ H2 hj ⟨v4, es, rfl, s2, hr2, hE2, hN2⟩
        obtain ⟨y, hy, rfl⟩ := zs_inv hj
        have hc2 := s2 _ _ hcs
        have hml : (oneMore (sets.take i) L ++ more (L.take j) s).length ≤ 2000 * 26 + 26 := by
          rw [List.length_append]
          have := more_len (L.take j) s
          rw [List.length_take] at this
          omega
        refine ⟨_, rfl, _, .inl ⟨_, SqL.of hc2, rfl⟩, ?_⟩
        rcases List.eq_nil_or_concat s with e | ⟨s', m, e⟩
        · subst e
          refine iteT (iteT ?_)
          refine ⟨_, rfl, .inl ⟨rfl, _, SqL.of hr2⟩, _, rfl, _, rfl, by show 1 ≤ sizeLine; decide, fun l1 hl1 => ⟨c, l1, _, _, rfl, rfl, (same_new hl1) _ _ hc2, upd_same, by rw [zs_len]; show _ + 1 ≤ _; exact Nat.le_of_lt (small1000' (by omega)), fun l2 hl2 => ?_⟩⟩
          have s3 : Same H2 (upd (upd H2 l1 (.lst [V.int (y : Int)])) l2 (.lst (zs [] ++ [V.int (y : Int)]))) := (same_new hl1).trans (same_new hl2)
          have hr3 := s3 _ _ hr2
          have hl2n : H2 l2 = none := (same_new hl1).free hl2
          refine ⟨r, _, _, rfl, rfl, hr3, ?_, ?_⟩
          · rw [List.length_map, hE2.len]
            exact small1000' (by omega)
          · refine ⟨_, es ++ [l2], rfl, same_upd (s2.trans s3) hr0, ?_, ?_, ?_⟩
            · rw [upd_same, List.map_append]
              rfl
            · rw [more_snoc hy, if_pos (by rfl), ← List.append_assoc]
              refine ObAt.updN (ObAt.snoc (ObAt.same hE2 s3) ?_) ?_
              · rw [upd_same, zs_append]
                rfl
              · intro z
                rcases List.mem_append.mp z with u | u
                · exact hN2 u
                · exact ne_of_none hr2 hl2n (List.mem_singleton.mp u)
            · intro z
              rcases List.mem_append.mp z with u | u
              · exact hN2 u
              · exact ne_of_none hr2 hl2n (List.mem_singleton.mp u)
        · rw [List.concat_eq_append] at e
          have e1 : zs s = zs s' ++ [V.int (m : Int)] := by
            rw [e, zs_append]
            rfl
          have e2 : (!(!(zs s).isEmpty)) = false := by
            rw [e1]
            simp
          have e3 : (s.isEmpty || decide (s.getLastD 0 < y)) = decide ((y : Int) > (m : Int)) := by
            rw [e]
            simp
          rw [e2]
          refine iteF ⟨_, rfl, _, rfl, _, rfl, c, _, _, _, rfl, rfl, SqL.of hc2, (by rw [e1]; exact atI_last _ _), _, _, rfl, rfl, _, rfl, ?_⟩
          refine ite2 (fun h1 => ?_) fun h1 => ?_
          · refine ⟨_, rfl, .inl ⟨rfl, _, SqL.of hr2⟩, _, rfl, _, rfl, by show 1 ≤ sizeLine; decide, fun l1 hl1 => ⟨c, l1, _, _, rfl, rfl, (same_new hl1) _ _ hc2, upd_same, by rw [zs_len]; show _ + 1 ≤ _; exact Nat.le_of_lt (small1000' (by omega)), fun l2 hl2 => ?_⟩⟩
            have s3 : Same H2 (upd (upd H2 l1 (.lst [V.int (y : Int)])) l2 (.lst (zs s ++ [V.int (y : Int)]))) := (same_new hl1).trans (same_new hl2)
            have hr3 := s3 _ _ hr2
            have hl2n : H2 l2 = none := (same_new hl1).free hl2
            refine ⟨r, _, _, rfl, rfl, hr3, ?_, ?_⟩
            · rw [List.length_map, hE2.len]
              exact small1000' (by omega)
            · refine ⟨_, es ++ [l2], rfl, same_upd (s2.trans s3) hr0, ?_, ?_, ?_⟩
              · rw [upd_same, List.map_append]
                rfl
              · rw [more_snoc hy, e3, if_pos h1, ← List.append_assoc]
                refine ObAt.updN (ObAt.snoc (ObAt.same hE2 s3) ?_) ?_
                · rw [upd_same, zs_append]
                  rfl
                · intro z
                  rcases List.mem_append.mp z with u | u
                  · exact hN2 u
                  · exact ne_of_none hr2 hl2n (List.mem_singleton.mp u)
              · intro z
                rcases List.mem_append.mp z with u | u
                · exact hN2 u
                · exact ne_of_none hr2 hl2n (List.mem_singleton.mp u)
          · refine ⟨_, es, rfl, s2, hr2, ?_, hN2⟩
            rw [more_snoc hy, e3, if_neg h1, List.append_nil]
            exact hE2
      · rintro σ H2 ⟨v4, es, rfl, s2, hr2, hE2, hN2⟩
        rw [zs_len, List.take_length, ← oneMore_snoc hs] at hE2
        exact ⟨_, _, es, rfl, s2, hr2, hE2, hN2⟩
    · rintro σ H1 ⟨v3, v4, es, rfl, s1, hr1, hE, hN⟩
      rw [List.length_map, hS.len, List.take_length] at hE
      exact ⟨_, rfl, k1 H1 r es s1 hr0 hr1 hE⟩
end
end LX
end
section
set_option Elab.async false
set_option linter.all false
set_option maxRecDepth 100000
set_option maxHeartbeats 2000000
namespace LX
open PySem PySem.Spec PyProof.Rows L2 LM1
inductive IspFewestTold (vs : List V) (H : Hp) (Q : VK) : Prop
  | mk (l a p : Addr) (ds : List Addr) (L : List Nat) (x : Uw63.Key) (ks : List Uw63.Key) (h0 : vs = [.ref l, .ref a, .ref p]) (h1 : H l = some (.lst (zs L))) (h2 : H a = some (.dK (kvs x))) (h3 : H p = some (.lst (ds.map V.ref))) (h4 : DictsAt H ds ks) (h5 : L.Pairwise (· < ·)) (h6 : L.length ≤ 10) (h7 : Has x L) (h8 : (∀ k ∈ ks, Has k L)) (h9 : ks.length ≤ 5000) (h10 : enoughK ks x L = true) (h11 : ∀ (s : Nat) (y : List Nat) (r : List (List Nat)), s ≤ L.length → (∀ j < s, (Uw63.choices j L).filter (enoughK ks x) = []) → (Uw63.choices s L).filter (enoughK ks x) = y :: r → ∀ (H' : Hp) (q : Addr), Same H H' → H' q = some (.lst (zs y)) → Q (.ref q) H')
noncomputable def spFewestTold : Sp := fun vs H Q _ => IspFewestTold  vs H Q
theorem Has.sub {k : Uw63.Key} {L s : List Nat} (h : Has k L) (u : ∀ y ∈ s, y ∈ L) : Has k s := fun c hc => h c (u c hc)
section
variable {P : Program} {w : World} {K : PySem.W.Frag} {mg : Str → Option Value} {base : Heap}
theorem scFewestTold : FnScope ["letters", "reading", "found", "sets", "enough", "chosen"] ["letters", "reading", "found"] (defScope sFewestTold) := ⟨rfl, rfl, rfl, by decide +kernel, rfl, by decide +kernel, by decide +kernel⟩
theorem ok_fewestTold {f fT fM fA : Addr} {fd fdT fdM fdA : FuncData} (F : Fun K "fewest_told" "fewest_told" sFewestTold f fd) (T : TxtA mg) (V' : TxtC mg) (FA : Fun K "agree" "agree" sAgree fA fdA) (bA : Binds K fdA ["reading", "other", "letters"] []) (mA : mg "agree" = some (.ref fA))
    (FT : Fun K "told_enough" "told_enough" sToldEnough fT fdT) (bT : Binds K fdT ["letters", "reading", "found"] []) (mT : mg "told_enough" = some (.ref fT)) (FM : Fun K "with_one_more" "with_one_more" sOneMore fM fdM) (bM : Binds K fdM ["sets", "letters"] []) (mM : mg "with_one_more" = some (.ref fM)) :
    FnOk P w K mg base CX0 3 f fd ["letters", "reading", "found"] spFewestTold := by
  have GT : FnOk P w K mg base CX0 2 fT fdT ["letters", "reading", "found"] spToldEnough := ok_toldEnough FT T V' FA bA mA
  have GM : FnOk P w K mg base CX0 2 fM fdM ["sets", "letters"] spOneMore := (ok_oneMore FM).mono (by decide)
  refine F.ok scFewestTold (fun vs H Q E h => ?_) (fun cdv A outer s H vs Q E hr h => ?_)
  · obtain ⟨l, a, p, ds, L, x, ks, rfl, _⟩ := h
    rfl
  · obtain ⟨l, a, p, ds, L, x, ks, rfl, hl, ha, hp, hD, hpw, hlL, hx, hks, hlk, hall, k1⟩ := h
    refine ⟨_, pss_cons (ps_set (i := 3) scFewestTold.nd rfl (Or.inl rfl) (pe_lst (pa_cons (pe_lst pa_nil) pa_nil)))
      (pss_cons (ps_set (i := 4) scFewestTold.nd rfl (Or.inl rfl) (pe_lst pa_nil))
      (pss_cons (ps_while PassesOwn.never (pt_not (pt_truth (pv 4) (fun _ => rfl)))
        (pss_cons (ps_setLc (i := 4) (own := [("chosen", 5)]) (g := gName 5) rfl scFewestTold.nd rfl rfl (sw_true rfl rfl rfl rfl) (pi_list (pv 3)) (blkOk_by (by rfl)) (fun _ _ _ _ _ => pg_name (i := 5) scFewestTold.nd rfl (Or.inl rfl) (hf := Or.inr rfl))
          (fun _ _ _ _ _ => pts_one (pt_val (pe_call GT hr rfl mT FT.kp bT .nil pass0 (pa_cons (pv 5) (pa_cons (pv 1) (pa_cons (pv 2) pa_nil)))))) (fun _ _ _ _ _ => pv 5))
        (pss_one (ps_set (i := 3) scFewestTold.nd rfl (Or.inl rfl) (pe_call GM hr rfl mM FM.kp bM .nil pass0 (pa_cons (pv 3) (pa_cons (pv 0) pa_nil)))))))
      (pss_one (ps_ret (pe_ix ix_list (pv 4) pe_int (fun _ _ => rfl)))))), ?_⟩
    refine ⟨Nat.zero_le _, fun e0 he0 => ⟨by show 1 ≤ sizeLine; decide, fun S0 hS0 => ⟨Nat.zero_le _, fun E0 hE0 => ?_⟩⟩⟩
    have s1 : Same H (upd H e0 (.lst [])) := same_new he0
    have s2 : Same H (upd (upd H e0 (.lst [])) S0 (.lst [.ref e0])) := s1.trans (same_new hS0)
    have s3 : Same H (upd (upd (upd H e0 (.lst [])) S0 (.lst [.ref e0])) E0 (.lst [])) := s2.trans (same_new hE0)
    let FL : Nat → List (List Nat) := fun j => (Uw63.choices j L).filter (enoughK ks x)
    let J : Nat → L2.St → Hp → Prop := fun s σ H' => ∃ (v5 : Option V) (S En : Addr) (ss es : List Addr) (E : List (List Nat)), σ = [some (.ref l), some (.ref a), some (.ref p), some (.ref S), some (.ref En), v5] ∧ Same H H' ∧ H' S = some (.lst (ss.map V.ref)) ∧ SetsAt H' ss (Uw63.choices s L) ∧
      H' En = some (.lst (es.map V.ref)) ∧ SetsAt H' es E ∧ s ≤ L.length + 1 ∧ ((s = 0 ∧ E = []) ∨ ∃ s', s = s' + 1 ∧ E = FL s' ∧ ∀ j < s', FL j = [])
    refine ⟨fun m σ H' => ∃ s, m = L.length + 1 - s ∧ J s σ H', ⟨_, 0, rfl, none, S0, E0, [e0], [], [], rfl, s3, ?_, ?_, upd_same, .nil, Nat.zero_le _, .inl ⟨rfl, rfl⟩⟩, ?_⟩
    · rw [upd_ne (ne_of_none upd_same hE0), upd_same]
      rfl
    · rw [choices_zero]
      refine .cons ?_ .nil
      refine (same_new hE0) _ _ ((same_new hS0) _ _ upd_same)
    · rintro m σ H1 ⟨s, rfl, v5, S, En, ss, es, E, rfl, t1, hS, hSS, hEn, hE, hs, hcase⟩
      refine ⟨_, rfl, _, .inl ⟨_, SqL.of hEn, rfl⟩, ?_⟩
      have hlen := hE.len
      cases es with
      | cons b es =>
        refine iteF ⟨_, rfl, En, _, _, _, rfl, rfl, SqL.of hEn, atI_nat' (i := 0) rfl, ?_⟩
        cases hE with
        | cons hb ht =>
          rename_i y r
          rcases hcase with ⟨_, z⟩ | ⟨s', rfl, hz, h0⟩
          · cases z
          · exact k1 s' y r (by omega) h0 hz.symm H1 b t1 hb
      | nil =>
        cases hE
        have h0 : ∀ j < s, FL j = [] := by
          rcases hcase with ⟨rfl, _⟩ | ⟨s', rfl, hz, h0⟩
          · intro j hj
            omega
          · intro j hj
            by_cases z : j = s'
            · rw [z]
              exact hz.symm
            · exact h0 j (by omega)
        have hsl : s ≤ L.length := by
          refine Nat.le_of_not_lt fun z => ?_
          have := h0 L.length z
          have e : FL L.length = [L] := by
            show (Uw63.choices L.length L).filter (enoughK ks x) = [L]
            rw [choices_all, List.filter_cons, if_pos hall]
            rfl
          rw [e] at this
          cases this
        refine iteT ?_
        refine ⟨fun σ' H' => ∃ s', L.length + 1 - s' < L.length + 1 - s ∧ J s' σ' H', ?_, ?_⟩
        · rintro σ' H' ⟨s', lt, j⟩
          exact ⟨_, lt, s', rfl, j⟩
        have hcl := choices_len s L
        have hpow : 2 ^ L.length ≤ 2 ^ 10 := Nat.pow_le_pow_right (by decide) hlL
        have hcl2 : (Uw63.choices s L).length ≤ 1024 := Nat.le_trans hcl hpow
        refine ⟨_, rfl, S, rfl, ⟨_, SqL.of hS⟩, fun D hD0 => ?_⟩
        refine lc_list (K := K) (xs := ss.map V.ref) (fun j H' => Same H1 H' ∧ ∃ es : List Addr, H' D = some (.lst (es.map V.ref)) ∧ SetsAt H' es (((Uw63.choices s L).take j).filter (enoughK ks x)) ∧ D ∉ es) ⟨same_new hD0, [], upd_same, .nil, by simp⟩ (fun j H' _ ⟨s5, _⟩ => SqL.of (s5 _ _ hS)) ?_ ?_
        · rintro j v H2 hj ⟨t2, es, hD1, hE1, hN1⟩
          obtain ⟨b, hb, rfl⟩ := refs_get hj
          obtain ⟨c, hc, hbc⟩ := hSS.get hb
          have hcm := mem_choices (List.mem_of_getElem? hc)
          have tH : Same H H2 := t1.trans t2
          refine ⟨rfl, _, rfl, _, rfl, _, rfl, b, a, p, ds, x, ks, c, rfl, t2 _ _ hbc, tH _ _ ha, tH _ _ hp, hD.same tH, hx.sub hcm.2, fun k hk => (hks k hk).sub hcm.2, by rw [hcm.1]; omega, hlk, fun H3 t3 => ⟨_, rfl, ?_⟩⟩
          have hD2 := t3 _ _ hD1
          have hfl := filter_take_len (Uw63.choices s L) (enoughK ks x) j
          refine ite2 (fun h1 => ⟨_, rfl, _, hD2, ?_, same_upd (t2.trans t3) hD0, es ++ [b], ?_, ?_, ?_⟩) fun h1 => ⟨t2.trans t3, es, hD2, ?_, hN1⟩
          · rw [List.length_map, hE1.len]
            exact small1000' (by omega)
          · rw [upd_same, List.map_append]
            rfl
          · rw [filter_snoc hc, if_pos h1]
            refine ObAt.updN (ObAt.snoc (ObAt.same hE1 t3) (t3 _ _ (t2 _ _ hbc))) ?_
            intro z
            rcases List.mem_append.mp z with u | u
            · exact hN1 u
            · exact ne_of_none hbc hD0 (List.mem_singleton.mp u).symm
          · intro z
            rcases List.mem_append.mp z with u | u
            · exact hN1 u
            · exact ne_of_none hbc hD0 (List.mem_singleton.mp u).symm
          · rw [filter_snoc hc, if_neg h1, List.append_nil]
            exact ObAt.same hE1 t3
        · rintro H2 ⟨t2, es, hD1, hE1, hN1⟩
          rw [List.length_map, hSS.len, List.take_length] at hE1
          have tH : Same H H2 := t1.trans t2
          refine ⟨_, rfl, _, rfl, S, l, ss, Uw63.choices s L, L, rfl, t2 _ _ hS, hSS.same t2, tH _ _ hl, by omega, by omega, fun c hc => by rw [(mem_choices hc).1]; omega, fun H3 r rs t3 hr0 hr1 hR => ?_⟩
          rw [oneMore_choices hpw] at hR
          exact ⟨s + 1, by omega, _, r, D, rs, es, _, rfl, tH.trans t3, hr1, hR, t3 _ _ hD1, ObAt.same hE1 t3, by omega, .inr ⟨s, rfl, rfl, h0⟩⟩
end
end LX
end
section
set_option Elab.async false
set_option linter.all false
set_option maxRecDepth 100000
set_option maxHeartbeats 2000000
namespace LX
open PySem PySem.Spec PyProof.Rows L2 LM1
noncomputable abbrev sBitsOf : Stmt := top 7
noncomputable abbrev sBeside : Stmt := top 8
noncomputable abbrev sReadable : Stmt := top 9
noncomputable abbrev sSets : Stmt := top 10
noncomputable abbrev sFewestLeft : Stmt := top 11
theorem bitAnd_nat (a b : Nat) : Builtin.bitAnd (a : Int) (b : Int) = ((a &&& b : Nat) : Int) := by
  rw [bitAnd_pp (by omega) (by omega)]
  rfl
theorem bitOr_nat (a b : Nat) : Builtin.bitOr (a : Int) (b : Int) = ((a ||| b : Nat) : Int) := by
  unfold Builtin.bitOr Builtin.bitAnd
  have h1 : decide (0 ≤ Builtin.bitNot (a : Int)) = false := decide_eq_false (by unfold Builtin.bitNot; omega)
  have h2 : decide (0 ≤ Builtin.bitNot (b : Int)) = false := decide_eq_false (by unfold Builtin.bitNot; omega)
  rw [h1, h2]
  have e : ∀ x : Int, Builtin.bitNot (Builtin.bitNot x) = x := fun x => by
    unfold Builtin.bitNot
    omega
  show Builtin.bitNot (Builtin.bitNot ((Builtin.bitNot (Builtin.bitNot (a : Int))).toNat ||| (Builtin.bitNot (Builtin.bitNot (b : Int))).toNat : Nat)) = _
  rw [e, e, e]
  rfl
theorem shl_nat (n : Nat) : (1 * 2 ^ ((n : Int)).toNat : Int) = ((2 ^ n : Nat) : Int) := by
  rw [Int.toNat_natCast, Int.one_mul, Int.natCast_pow]
  rfl
theorem shr_nat (a n : Nat) : ((a : Int) / 2 ^ ((n : Int)).toNat : Int) = ((a / 2 ^ n : Nat) : Int) := by
  rw [Int.toNat_natCast, Int.natCast_ediv, Int.natCast_pow]
  rfl
theorem bit_truth (a n : Nat) : ((Builtin.bitAnd ((a / 2 ^ n : Nat) : Int) 1) != 0) = a.testBit n := by
  rw [PyProof.Rows.bitAnd_m1, Nat.testBit_eq_decide_div_mod_eq, Bool.eq_iff_iff, bne_iff_ne, decide_eq_true_eq]
  have : (((a / 2 ^ n : Nat) : Int) % 2) = ((a / 2 ^ n % 2 : Nat) : Int) := by omega
  rw [this]
  omega
inductive IspBitsOf (K : PySem.W.Frag) (vs : List V) (H : Hp) (Q : VK) : Prop
  | mk (p : Addr) (l : List Nat) (h0 : vs = [.ref p]) (h1 : SqL K H p (zs l)) (h2 : (∀ n ∈ l, n ≤ 1000)) (h3 : Q (.int (bitsOf l)) H)
noncomputable def spBitsOf (K : PySem.W.Frag) : Sp := fun vs H Q _ => IspBitsOf K  vs H Q
section
variable {P : Program} {w : World} {K : PySem.W.Frag} {mg : Str → Option Value} {base : Heap}
theorem scBitsOf : FnScope ["numbers", "bits", "number"] ["numbers"] (defScope sBitsOf) := ⟨rfl, rfl, rfl, by decide +kernel, rfl, by decide +kernel, by decide +kernel⟩
theorem ok_bitsOf {f : Addr} {fd : FuncData} (F : Fun K "bits_of" "bits_of" sBitsOf f fd) : FnOk P w K mg base CX0 1 f fd ["numbers"] (spBitsOf K) := by
  refine F.ok scBitsOf (fun vs H Q E h => ?_) (fun cdv A outer s H vs Q E hr h => ?_)
  · obtain ⟨p, l, rfl, _⟩ := h
    rfl
  · obtain ⟨p, l, rfl, hp, hl, k1⟩ := h
    refine ⟨_, pss_cons (ps_set (i := 1) scBitsOf.nd rfl (Or.inl rfl) pe_int)
      (pss_cons (ps_for PassesOwn.never rfl (pi_list (pv 0)) (pg_name (i := 2) scBitsOf.nd rfl (Or.inl rfl)) (pss_one (ps_set (i := 1) scBitsOf.nd rfl (Or.inl rfl) (pe_op op_or (pv 1) (pe_op op_shl pe_int (pv 2))))))
      (pss_one (ps_ret (pv 1)))), ?_⟩
    refine ⟨_, rfl, p, rfl, ⟨_, hp⟩, for_list (K := K) (a := p) (xs := zs l) (fun i σ H' => H' = H ∧ ∃ v : Option V, σ = [some (.ref p), some (.int (bitsOf (l.take i) : Nat)), v]) ⟨rfl, none, rfl⟩ (fun i σ H' _ ⟨e, _⟩ => by rw [e]; exact hp) ?_ ?_⟩
    · rintro i v σ H' hi ⟨rfl, u, rfl⟩
      obtain ⟨n, hn, rfl⟩ := zs_inv hi
      refine ⟨_, rfl, _, rfl, _, _, rfl, rfl, ⟨by omega, by have := hl n (List.mem_of_getElem? hn); omega, by decide⟩, _, _, rfl, rfl, rfl, some (V.int (n : Int)), ?_⟩
      rw [shl_nat]
      show ([some (V.ref p), some (V.int (Builtin.bitOr (bitsOf (l.take i) : Int) ((2 ^ n : Nat) : Int))), some (V.int (n : Int))] : L2.St) = _
      rw [bitOr_nat]
      have e : bitsOf (l.take (i + 1)) = bitsOf (l.take i) ||| 2 ^ n := by
        unfold bitsOf
        rw [take_snoc hn, List.foldl_append]
        rfl
      rw [e]
    · rintro σ H' ⟨rfl, u, rfl⟩
      rw [zs_len, List.take_length]
      exact ⟨_, rfl, k1⟩
inductive IspSets (vs : List V) (H : Hp) (Q : VK) : Prop
  | mk (m k : Nat) (h0 : vs = [.int m, .int k]) (h1 : m ≤ 8) (h2 : ∀ (H' : Hp) (r : Addr) (es : List Addr), Same H H' → H r = none → H' r = some (.lst (es.map V.ref)) → SetsAt H' es (setsP m k) → (∀ e ∈ es, H e = none) → Q (.ref r) H')
noncomputable def spSets : Sp := fun vs H Q _ => IspSets  vs H Q
theorem scSets : FnScope ["total", "count", "sets", "bits", "places", "place"] ["total", "count"] (defScope sSets) := ⟨rfl, rfl, rfl, by decide +kernel, rfl, by decide +kernel, by decide +kernel⟩
theorem setsP_len (m k i : Nat) : (((List.range i).map (plc m)).filter fun l => l.length == k).length ≤ i := by
  have := List.length_filter_le (fun l : List Nat => l.length == k) ((List.range i).map (plc m))
  rw [List.length_map, List.length_range] at this
  exact this
theorem pow8 {m : Nat} (h : m ≤ 8) : 2 ^ m ≤ 256 := Nat.pow_le_pow_right (by decide) h
theorem ok_sets {f : Addr} {fd : FuncData} (F : Fun K "sets_of_places" "sets_of_places" sSets f fd) (T : TxtA mg) (V' : TxtC mg) : FnOk P w K mg base CX0 1 f fd ["total", "count"] spSets := by
  refine F.ok scSets (fun vs H Q E h => ?_) (fun cdv A outer s H vs Q E hr h => ?_)
  · obtain ⟨m, k, rfl, _⟩ := h
    rfl
  · obtain ⟨m, k, rfl, hm, k1⟩ := h
    have hm2 := pow8 hm
    refine ⟨_, pss_cons (ps_set (i := 2) scSets.nd rfl (Or.inl rfl) (pe_lst pa_nil))
      (pss_cons (ps_for PassesOwn.never rfl (pi_range1 rfl V'.range (pa_cons (pe_op op_shl pe_int (pv 0)) pa_nil)) (pg_name (i := 3) scSets.nd rfl (Or.inr rfl))
        (pss_cons (ps_setLc (i := 4) (own := [("place", 5)]) (g := gName 5) rfl scSets.nd rfl rfl (sw_true rfl rfl rfl rfl) (pi_range1 rfl V'.range (pa_cons (pv 0) pa_nil)) (blkOk_by (by rfl)) (fun _ _ _ _ _ => pg_name (i := 5) scSets.nd rfl (Or.inl rfl) (hf := Or.inr rfl))
          (tt := tTru K (tOp (rI0 fun i j => .int (Builtin.bitAnd i j)) (tOp (rI (fun _ j => 0 ≤ j) fun i j => .int (i / 2 ^ j.toNat)) (tVar 3) (tVar 5)) (tC (V.int 1))))
          (fun _ _ _ _ _ => pts_one (pt_truth (pe_op op_and (pe_op op_shr (pv 3) (pv 5)) pe_int) (fun _ => rfl))) (fun _ _ _ _ _ => pv 5))
        (pss_one (ps_if (pt_cmpR op_eq (pe_callB call_len_seq (by rfl) T.len PySem.boot_len (pa_cons (pv 4) pa_nil)) (pv 1) (nomark _)) (pss_one (ps_expr (pe_bm PySem.F.plainAttrs_list PySem.F.slot_list_append PySem.F.type_list_append mt_append (pv 2) (pa_cons (pv 4) pa_nil)))) pss_nil))))
      (pss_one (ps_ret (pv 2)))), ?_⟩
    refine ⟨Nat.zero_le _, fun r hr0 => ?_⟩
    have s0 : Same H (upd H r (.lst [])) := same_new hr0
    have hp62 : (2 : Int) ^ 62 = 4611686018427387904 := by decide
    refine ⟨_, rfl, _, _, rfl, rfl, ⟨by omega, by omega, by decide⟩, ((2 ^ m : Nat) : Int), ?_, Int.le_trans (by decide) (Int.natCast_nonneg _), by omega, ?_⟩
    · show [V.int (1 * 2 ^ ((m : Int)).toNat : Int)] = _
      rw [shl_nat]
    let J : Nat → L2.St → Hp → Prop := fun i σ H' => ∃ (v3 v4 v5 : Option V) (es : List Addr), σ = [some (.int m), some (.int k), some (.ref r), v3, v4, v5] ∧ Same H H' ∧ H' r = some (.lst (es.map V.ref)) ∧ SetsAt H' es (((List.range i).map (plc m)).filter fun l => l.length == k) ∧ r ∉ es ∧ ∀ e ∈ es, H e = none
    refine for_range (lo := 0) (n := 2 ^ m) J ⟨none, none, none, [], rfl, s0, upd_same, .nil, by simp, by simp⟩ ?_ ?_
    · rintro i σ H1 hi ⟨v3, v4, v5, es, rfl, s1, hr1, hE, hN, hO⟩
      have e0 : (0 : Int) + (i : Int) = (i : Int) := by omega
      rw [e0]
      refine ⟨_, rfl, (m : Int), rfl, by omega, by omega, fun D hD => ?_⟩
      refine lc_range (lo := 0) (n := m) (fun j H' => Same H1 H' ∧ H' D = some (.lst (zs ((List.range j).filter fun q => i.testBit q)))) ⟨same_new hD, upd_same⟩ ?_ ?_
      · rintro j H2 hj ⟨s2, hD2⟩
        have e1 : (0 : Int) + (j : Int) = (j : Int) := by omega
        rw [e1]
        have er : (List.range (j + 1)).filter (fun q => i.testBit q) = (List.range j).filter (fun q => i.testBit q) ++ (if i.testBit j then [j] else []) := by
          rw [List.range_succ, List.filter_append, List.filter_cons, List.filter_nil]
        refine ⟨rfl, _, rfl, _, rfl, _, _, rfl, rfl, by omega, _, _, rfl, rfl, _, rfl, ?_⟩
        rw [shr_nat, bit_truth]
        refine ite2 (fun h1 => ⟨_, rfl, _, hD2, ?_, same_upd s2 hD, ?_⟩) fun h1 => ⟨s2, ?_⟩
        · rw [zs_len]
          have := List.length_filter_le (fun q => i.testBit q) (List.range j)
          rw [List.length_range] at this
          exact small1000' (by omega)
        · rw [upd_same, er, if_pos h1, zs_append]
          rfl
        · rw [er, if_neg h1, List.append_nil]
          exact hD2
      · rintro H2 ⟨s2, hD2⟩
        have hD3 : H2 D = some (.lst (zs (plc m i))) := hD2
        have hr2 := s2 _ _ hr1
        have hDr : r ≠ D := ne_of_none hr1 hD
        have es2 : ((List.range (i + 1)).map (plc m)).filter (fun l => l.length == k) = ((List.range i).map (plc m)).filter (fun l => l.length == k) ++ (if (plc m i).length == k then [plc m i] else []) := by
          rw [List.range_succ, List.map_append, List.filter_append, List.map_cons, List.map_nil, List.filter_cons, List.filter_nil]
        refine ⟨_, rfl, D, _, rfl, .inl (SqL.of hD3), _, rfl, rfl, _, rfl, ?_⟩
        rw [zs_len]
        have hsl := setsP_len m k i
        refine ite2 (fun h1 => ⟨_, rfl, .inl ⟨rfl, _, SqL.of hr2⟩, _, rfl, r, _, _, rfl, rfl, hr2, ?_, ?_⟩) fun h1 => ⟨_, _, _, es, rfl, s1.trans s2, hr2, ?_, hN, hO⟩
        · rw [List.length_map, hE.len]
          exact small1000' (by omega)
        · have h2 : (plc m i).length = k := by
            have := of_decide_eq_true h1
            injection this with this
            omega
          have hne : r ∉ es ++ [D] := by
            intro z
            rcases List.mem_append.mp z with u | u
            · exact hN u
            · exact hDr (List.mem_singleton.mp u)
          refine ⟨_, _, _, es ++ [D], rfl, same_upd (s1.trans s2) hr0, ?_, ?_, hne, fun e he => ?_⟩
          · rw [upd_same, List.map_append]
            rfl
          · rw [es2, if_pos (by rw [h2]; simp)]
            exact ObAt.updN (ObAt.snoc (ObAt.same hE s2) hD3) hne
          · rcases List.mem_append.mp he with u | u
            · exact hO e u
            · rw [List.mem_singleton.mp u]
              exact s1.free hD
        · rw [es2, if_neg, List.append_nil]
          · exact ObAt.same hE s2
          · intro z
            refine h1 (decide_eq_true ?_)
            have : (plc m i).length = k := by simpa using z
            rw [this]
    · rintro σ H1 ⟨v3, v4, v5, es, rfl, s1, hr1, hE, hN, hO⟩
      exact ⟨_, rfl, k1 H1 r es s1 hr0 hr1 hE hO⟩
end
end LX
end
section
set_option Elab.async false
set_option linter.all false
set_option maxRecDepth 100000
set_option maxHeartbeats 2000000
namespace LX
open PySem PySem.Spec PyProof.Rows L2 LM1
noncomputable def rowKV (row : List (Nat × List Nat)) (ls : List Addr) : List (L2.Key × V) := List.zipWith (fun x l => (Sum.inl (x.1 : Int), V.ref l)) row ls
noncomputable def RowX (r : Addr) (H : Hp) (a : Addr) (row : List (Nat × List Nat)) : Prop := ∃ ls : List Addr, H a = some (.dK (rowKV row ls)) ∧ SetsAt H ls (row.map (·.2)) ∧ r ∉ ls ∧ a ≠ r
theorem RowX.same {r : Addr} {H H' : Hp} {a : Addr} {row : List (Nat × List Nat)} (h : RowX r H a row) (s : Same H H') : RowX r H' a row := by
  obtain ⟨ls, h1, h2, h3, h4⟩ := h
  exact ⟨ls, s _ _ h1, h2.same s, h3, h4⟩
theorem RowX.upd {r : Addr} {o : HO} {H : Hp} {a : Addr} {row : List (Nat × List Nat)} (h : RowX r H a row) : RowX r (L2.upd H r o) a row := by
  obtain ⟨ls, h1, h2, h3, h4⟩ := h
  exact ⟨ls, by rw [upd_ne h4]; exact h1, h2.updN h3, h3, h4⟩
noncomputable def RowsX (r : Addr) (H : Hp) : List Addr → List (List (Nat × List Nat)) → Prop := Paired (RowX r H)
theorem RowsX.same {r : Addr} {H H' : Hp} : ∀ {as : List Addr} {rows : List (List (Nat × List Nat))}, RowsX r H as rows → Same H H' → RowsX r H' as rows
  | _, _, .nil, _ => .nil
  | _, _, .cons h t, s => .cons (h.same s) (RowsX.same t s)
theorem RowsX.upd {r : Addr} {o : HO} {H : Hp} : ∀ {as : List Addr} {rows : List (List (Nat × List Nat))}, RowsX r H as rows → RowsX r (L2.upd H r o) as rows
  | _, _, .nil => .nil
  | _, _, .cons h t => .cons h.upd (RowsX.upd t)
theorem RowsX.snoc {r : Addr} {H : Hp} : ∀ {as : List Addr} {rows : List (List (Nat × List Nat))} {a : Addr} {row : List (Nat × List Nat)}, RowsX r H as rows → RowX r H a row → RowsX r H (as ++ [a]) (rows ++ [row])
  | _, _, _, _, .nil, h => .cons h .nil
  | _, _, _, _, .cons q t, h => .cons q (RowsX.snoc t h)
theorem RowsX.len {r : Addr} {H : Hp} {as : List Addr} {rows : List (List (Nat × List Nat))} (h : RowsX r H as rows) : as.length = rows.length := Paired.length h
theorem RowsX.get {r : Addr} {H : Hp} : ∀ {as : List Addr} {rows : List (List (Nat × List Nat))} {i : Nat} {a : Addr}, RowsX r H as rows → as[i]? = some a → ∃ row, rows[i]? = some row ∧ RowX r H a row
  | _, _, 0, _, .cons q _, e => by
    injection e with e
    subst e
    exact ⟨_, rfl, q⟩
  | _, _, i + 1, a, .cons _ t, e => RowsX.get (i := i) (a := a) t e
theorem rowKV_snoc : ∀ {row : List (Nat × List Nat)} {ls : List Addr} {x : Nat × List Nat} {l : Addr}, ls.length = row.length → rowKV (row ++ [x]) (ls ++ [l]) = rowKV row ls ++ [(Sum.inl (x.1 : Int), V.ref l)]
  | [], [], _, _, _ => rfl
  | [], _ :: _, _, _, h => by cases h
  | _ :: _, [], _, _, h => by cases h
  | a :: row, b :: ls, x, l, h => by
    show _ :: rowKV (row ++ [x]) (ls ++ [l]) = _ :: (rowKV row ls ++ _)
    rw [rowKV_snoc (by simpa using h)]
theorem rowKV_len : ∀ (row : List (Nat × List Nat)) (ls : List Addr), ls.length = row.length → (rowKV row ls).length = row.length := fun row ls h => by
  unfold rowKV
  rw [List.length_zipWith, h, Nat.min_self]
theorem rowKV_new : ∀ {row : List (Nat × List Nat)} {ls : List Addr} {u : Nat} {v : V}, u ∉ row.map (·.1) → putK (rowKV row ls) (Sum.inl (u : Int)) v = rowKV row ls ++ [(Sum.inl (u : Int), v)] := fun {row ls u v} h => by
  unfold putK
  rw [if_neg]
  intro z
  obtain ⟨kv, hm, he⟩ := List.any_eq_true.mp z
  have he := of_decide_eq_true he
  unfold rowKV at hm
  obtain ⟨i, hi, e⟩ := List.mem_iff_getElem.mp hm
  rw [List.getElem_zipWith] at e
  rw [← e] at he
  injection he with he
  refine h (List.mem_map.mpr ⟨row[i]'(by rw [List.length_zipWith] at hi; omega), List.getElem_mem _, ?_⟩)
  exact Int.ofNat.inj he
theorem fits_rise (list : List (List Nat)) (k : Uw63.Key) (c : List Nat) : (fits list k c).Pairwise (· < ·) := by
  unfold fits
  rw [List.pairwise_map]
  exact List.Pairwise.sublist List.filter_sublist (zipIdx_lt list)
theorem rise_new {l : List Nat} (h : l.Pairwise (· < ·)) {j u : Nat} (e : l[j]? = some u) : u ∉ l.take j := by
  intro z
  obtain ⟨i, hi, ei⟩ := List.mem_iff_getElem.mp z
  rw [List.length_take] at hi
  obtain ⟨hj, ej⟩ := List.getElem?_eq_some_iff.mp e
  rw [List.getElem_take] at ei
  have := (List.pairwise_iff_getElem.mp h) i j (by omega) hj (by omega)
  omega
noncomputable def rowOf (list text : List (List Nat)) (h : Uw63.Key) (c : List Nat) : List (Nat × List Nat) := (fits list h c).map fun u => (u, text.map fun o => bitsOf (fits list ((Uw63.putWord h c (list.getD u [])).getD []) o))
theorem beside_rows (list text : List (List Nat)) (h : Uw63.Key) : besideOf list text h = text.map (rowOf list text h) := rfl
inductive IspBeside (vs : List V) (H : Hp) (Q : VK) : Prop
  | mk (t q d : Addr) (ts as : List Addr) (text list : List (List Nat)) (h : Uw63.Key) (h0 : vs = [.ref t, .ref q, .ref d]) (h1 : H t = some (.lst (ts.map V.ref))) (h2 : TupsAt H ts text) (h3 : H q = some (.lst (as.map V.ref))) (h4 : TupsAt H as list) (h5 : H d = some (.dK (kvs h))) (h6 : keysND h) (h7 : valsND h) (h8 : h.length ≤ 100) (h9 : text.length ≤ 8) (h10 : (∀ c ∈ text, c.length ≤ 8)) (h11 : list.length ≤ 1000) (h12 : ∀ (H' : Hp) (r : Addr) (bs : List Addr), Same H H' → H r = none → H' r = some (.lst (bs.map V.ref)) → RowsX r H' bs (besideOf list text h) → bs.Nodup → Q (.ref r) H')
noncomputable def spBeside : Sp := fun vs H Q _ => IspBeside  vs H Q
section
variable {P : Program} {w : World} {K : PySem.W.Frag} {mg : Str → Option Value} {base : Heap}
theorem scBeside : FnScope ["text", "words", "hints", "beside", "written", "by_number", "number", "way", "other"] ["text", "words", "hints"] (defScope sBeside) := ⟨rfl, rfl, rfl, by decide +kernel, rfl, by decide +kernel, by decide +kernel⟩
theorem ok_beside {f fL fF fB : Addr} {fd fdL fdF fdB : FuncData} (F : Fun K "words_beside" "words_beside" sBeside f fd) (T : TxtA mg) (U : TxtB mg) (V' : TxtC mg) (FL : Fun K "longer_way" "longer_way" sLongerWay fL fdL) (bL : Binds K fdL ["way", "written", "word"] []) (mL : mg "longer_way" = some (.ref fL))
    (FF : Fun K "fitting_numbers" "fitting_numbers" sFitting fF fdF) (bF : Binds K fdF ["way", "written", "words"] []) (mF : mg "fitting_numbers" = some (.ref fF)) (FB : Fun K "bits_of" "bits_of" sBitsOf fB fdB) (bB : Binds K fdB ["numbers"] []) (mB : mg "bits_of" = some (.ref fB)) :
    FnOk P w K mg base CX0 3 f fd ["text", "words", "hints"] spBeside := by
  have GF : FnOk P w K mg base CX0 2 fF fdF ["way", "written", "words"] (spFitting K) := ok_fitting FF T U V' FL bL mL
  have GL : FnOk P w K mg base CX0 2 fL fdL ["way", "written", "word"] spLongerWay := (ok_longerWay FL T U).mono (by decide)
  have GB : FnOk P w K mg base CX0 2 fB fdB ["numbers"] (spBitsOf K) := (ok_bitsOf FB).mono (by decide)
  refine F.ok scBeside (fun vs H Q E h => ?_) (fun cdv A outer s H vs Q E hr h => ?_)
  · obtain ⟨t, q, d, ts, as, text, list, h, rfl, _⟩ := h
    rfl
  · obtain ⟨t, q, d, ts, as, text, list, h, rfl, ht, hT, hq, hA, hd, kn, kv, hlh, hlt, hlc, hll, k1⟩ := h
    have hu := hu_of hr
    refine ⟨_, pss_cons (ps_set (i := 3) scBeside.nd rfl (Or.inl rfl) (pe_lst pa_nil))
      (pss_cons (ps_for PassesOwn.never rfl (pi_list (pv 0)) (pg_name (i := 4) scBeside.nd rfl (Or.inl rfl))
        (pss_cons (ps_set (i := 5) scBeside.nd rfl (Or.inl rfl) pe_dnewK)
        (pss_cons (ps_for PassesOwn.never rfl (pi_list (pe_call GF hr rfl mF FF.kp bF .nil pass0 (pa_cons (pv 2) (pa_cons (pv 4) (pa_cons (pv 1) pa_nil))))) (pg_name (i := 6) scBeside.nd rfl (Or.inl rfl))
          (pss_cons (ps_set (i := 7) scBeside.nd rfl (Or.inr rfl) (pe_call GL hr rfl mL FL.kp bL .nil pass0 (pa_cons (pv 2) (pa_cons (pv 4) (pa_cons (pe_ix ix_list (pv 1) (pv 6) (fun _ _ => rfl)) pa_nil)))))
          (pss_one (ps_dput hu (pv 5) (pv 6) (pe_lc (own := [("other", 8)]) (g := gName 8) (tt := tYes) rfl scBeside.nd (pi_list (pv 0)) (blkOk_by (by rfl)) (fun _ _ _ _ _ => pg_name (i := 8) scBeside.nd rfl (Or.inl rfl) (hf := Or.inr rfl)) (fun _ _ _ _ _ => pts_nil)
            (fun _ _ _ _ _ => pe_call GB hr rfl mB FB.kp bB .nil pass0 (pa_cons (pe_call GF hr rfl mF FF.kp bF .nil pass0 (pa_cons (pv 7) (pa_cons (pv 8) (pa_cons (pv 1) pa_nil)))) pa_nil))) rfl))))
        (pss_one (ps_expr (pe_bm PySem.F.plainAttrs_list PySem.F.slot_list_append PySem.F.type_list_append mt_append (pv 3) (pa_cons (pv 5) pa_nil)))))))
      (pss_one (ps_ret (pv 3)))), ?_⟩
    refine ⟨Nat.zero_le _, fun r hr0 => ?_⟩
    have s0 : Same H (upd H r (.lst [])) := same_new hr0
    let J : Nat → L2.St → Hp → Prop := fun i σ H' => ∃ (v4 v5 v6 v7 v8 : Option V) (bs : List Addr), σ = [some (.ref t), some (.ref q), some (.ref d), some (.ref r), v4, v5, v6, v7, v8] ∧ Same H H' ∧ H' r = some (.lst (bs.map V.ref)) ∧ RowsX r H' bs ((text.take i).map (rowOf list text h)) ∧ bs.Nodup
    refine ⟨_, rfl, t, rfl, ⟨_, SqL.of (s0 _ _ ht)⟩, for_list (K := K) (a := t) (xs := ts.map V.ref) J ⟨none, none, none, none, none, [], rfl, s0, upd_same, .nil, List.nodup_nil⟩ (fun i σ H' _ ⟨_, _, _, _, _, _, _, s1, _⟩ => SqL.of (s1 _ _ ht)) ?_ ?_⟩
    · rintro i v σ H1 hi ⟨v4, v5, v6, v7, v8, bs, rfl, s1, hr1, hR, hN⟩
      obtain ⟨c, hc, rfl⟩ := refs_get hi
      obtain ⟨cs, hcs, hcc⟩ := hT.get hc
      have hil : i < text.length := (List.getElem?_eq_some_iff.mp hcs).1
      have hcl := hlc cs (List.mem_of_getElem? hcs)
      have hfl := fits_len list h cs
      refine fun pb hpb => ?_
      have a1 : Same H1 (upd H1 pb (.dK [])) := same_new hpb
      have a2 : Same H (upd H1 pb (.dK [])) := s1.trans a1
      let J2 : Nat → L2.St → Hp → Prop := fun j σ H' => ∃ (v6 v7 v8 : Option V) (ls : List Addr), σ = [some (.ref t), some (.ref q), some (.ref d), some (.ref r), some (.ref c), some (.ref pb), v6, v7, v8] ∧ Same H1 H' ∧ H' pb = some (.dK (rowKV ((rowOf list text h cs).take j) ls)) ∧ SetsAt H' ls (((rowOf list text h cs).take j).map (·.2)) ∧ r ∉ ls
      refine ⟨_, rfl, _, rfl, _, rfl, d, c, q, as, list, h, cs, rfl, a2 _ _ hd, a2 _ _ hcc, a2 _ _ hq, hA.same a2, kn, kv, by omega, by omega, by omega, fun H3 l s3 hl hl3 => ⟨l, rfl, ⟨_, SqL.of hl3⟩, for_list (K := K) (a := l) (xs := zs (fits list h cs)) (fun j σ H' => J2 j σ H' ∧ H' l = some (.lst (zs (fits list h cs)))) ⟨⟨v6, v7, v8, [], rfl, a1.trans s3, ?_, .nil, by simp⟩, hl3⟩ (fun j σ H' _ z => SqL.of z.2) ?_ ?_⟩⟩
      · exact s3 _ _ upd_same
      · rintro j v σ H4 hj ⟨⟨v6, v7, v8, ls, rfl, s4, hpb4, hS4, hN4⟩, hl4⟩
        obtain ⟨u, hu1, rfl⟩ := zs_inv hj
        have hul := fits_lt (List.mem_of_getElem? hu1)
        have hjl := (List.getElem?_eq_some_iff.mp hu1).1
        obtain ⟨wd, hwd, hfit⟩ := mem_fits.mp (List.mem_of_getElem? hu1)
        obtain ⟨b, hb⟩ : ∃ b, as[u]? = some b := ⟨_, List.getElem?_eq_getElem (by rw [hA.len]; exact hul)⟩
        obtain ⟨wd', hwd', hbw⟩ := hA.get hb
        rw [hwd] at hwd'
        cases hwd'
        have b4 : Same H H4 := s1.trans s4
        have hrow : (rowOf list text h cs)[j]? = some (u, text.map fun o => bitsOf (fits list ((Uw63.putWord h cs (list.getD u [])).getD []) o)) := by
          unfold rowOf
          rw [List.getElem?_map, hu1]
          rfl
        refine ⟨_, rfl, _, rfl, _, rfl, _, rfl, q, _, _, _, rfl, rfl, SqL.of (b4 _ _ hq), atI_nat' (x := V.ref b) (by rw [List.getElem?_map, hb]; rfl), d, c, b, h, cs, wd, rfl, b4 _ _ hd, b4 _ _ hcc, b4 _ _ hbw, kn, kv, by omega, by omega, fun e => ?_, fun x e H5 wy s5 hwy hx => ?_⟩
        · rw [e] at hfit
          cases hfit
        have ew : (Uw63.putWord h cs (list.getD u [])).getD [] = x := by
          rw [getD_some hwd, e]
          rfl
        rw [ew] at hrow
        have okx := putWord_ok kn kv e
        have hxl := putWord_len2 e
        have b5 : Same H H5 := b4.trans s5
        refine ⟨_, rfl, t, rfl, ⟨_, SqL.of (b5 _ _ ht)⟩, fun D hD => ?_⟩
        refine lc_list (K := K) (xs := ts.map V.ref) (fun e H' => Same H5 H' ∧ H' D = some (.lst (zs ((text.take e).map fun o => bitsOf (fits list x o))))) ⟨same_new hD, upd_same⟩ (fun e H' _ z => SqL.of (z.1 _ _ (b5 _ _ ht))) ?_ ?_
        · rintro e v H6 he ⟨s6, hD6⟩
          obtain ⟨oa, hoa, rfl⟩ := refs_get he
          obtain ⟨os, hos, hoo⟩ := hT.get hoa
          have hel := (List.getElem?_eq_some_iff.mp hos).1
          have hol := hlc os (List.mem_of_getElem? hos)
          have b6 : Same H H6 := b5.trans s6
          refine ⟨rfl, tYes_i ⟨_, rfl, _, rfl, _, rfl, wy, oa, q, as, list, x, os, rfl, s6 _ _ hx, b6 _ _ hoo, b6 _ _ hq, hA.same b6, okx.1, okx.2, by omega, by omega, by omega, fun H7 l2 s7 hl2 hl27 => ⟨l2, _, rfl, SqL.of hl27, fun n hn => ?_, ?_⟩⟩⟩
          · have := fits_lt hn
            omega
          · refine ⟨_, s7 _ _ hD6, ?_, same_upd (s6.trans s7) hD, ?_⟩
            · rw [zs_len, List.length_map, List.length_take]
              exact small1000' (by omega)
            · rw [upd_same, take_snoc hos, List.map_append, zs_append]
              rfl
        · rintro H6 ⟨s6, hD6⟩
          rw [List.length_map, hT.len, List.take_length] at hD6
          have s46 : Same H4 H6 := s5.trans s6
          have hpb6 := s46 _ _ hpb4
          have hls : ls.length = ((rowOf list text h cs).take j).length := by
            rw [hS4.len, List.length_map]
          have hrl : (rowOf list text h cs).length = (fits list h cs).length := List.length_map _
          have hnew : u ∉ ((rowOf list text h cs).take j).map (·.1) := by
            have em : ((rowOf list text h cs).take j).map (·.1) = (fits list h cs).take j := by
              unfold rowOf
              rw [← List.map_take, List.map_map]
              exact List.map_id'' (fun _ => rfl) _
            rw [em]
            exact rise_new (fits_rise _ _ _) hu1
          have hDl : l ≠ D := ne_of_none (s5 _ _ hl4) hD
          have hDr : r ≠ D := ne_of_none (s5 _ _ (s4 _ _ hr1)) hD
          have hpl : l ≠ pb := fun z => by
            rw [z] at hl4
            rw [hpb4] at hl4
            cases hl4
          refine ⟨_, rfl, _, rfl, pb, _, rfl, DPut.k (k := Sum.inl (u : Int)) hpb6 (by rw [rowKV_len _ _ hls, List.length_take]; exact small1000' (by omega)), ⟨_, _, _, ls ++ [D], rfl, same_upd (s4.trans s46) hpb, ?_, ?_, ?_⟩, ?_⟩
          · rw [upd_same, rowKV_new hnew, take_snoc hrow, rowKV_snoc hls]
          · rw [take_snoc hrow, List.map_append]
            refine ObAt.upd (ObAt.snoc (hS4.same s46) hD6) fun y z => ?_
            rw [hpb6] at z
            cases z
          · intro z
            rcases List.mem_append.mp z with z | z
            · exact hN4 z
            · exact hDr (List.mem_singleton.mp z)
          · rw [upd_ne hpl]
            exact s46 _ _ hl4
      · rintro σ H4 ⟨⟨v6, v7, v8, ls, rfl, s4, hpb4, hS4, hN4⟩, hl4⟩
        have e1 : (zs (fits list h cs)).length = (rowOf list text h cs).length := by
          rw [zs_len]
          unfold rowOf
          rw [List.length_map]
        rw [e1, List.take_length] at hpb4 hS4
        have hr4 := s4 _ _ hr1
        have hpr : pb ≠ r := fun z => by
          rw [z, hr1] at hpb
          cases hpb
        refine ⟨_, rfl, .inl ⟨rfl, _, SqL.of hr4⟩, _, rfl, r, _, _, rfl, rfl, hr4, ?_, ?_⟩
        · rw [List.length_map, hR.len, List.length_map, List.length_take]
          exact small1000' (by omega)
        · refine ⟨_, _, _, _, _, bs ++ [pb], rfl, same_upd (s1.trans s4) hr0, ?_, ?_, ?_⟩
          · rw [upd_same, List.map_append]
            rfl
          · rw [take_snoc hcs, List.map_append]
            exact RowsX.upd (RowsX.snoc (hR.same s4) ⟨ls, hpb4, hS4, hN4, hpr⟩)
          · refine List.nodup_append.mpr ⟨hN, by simp, fun x hx y hy => ?_⟩
            rw [List.mem_singleton.mp hy]
            intro z
            obtain ⟨k, hk⟩ := List.mem_iff_getElem?.mp hx
            obtain ⟨row, _, ls', hx', _⟩ := hR.get hk
            rw [z, hpb] at hx'
            cases hx'
    · rintro σ H1 ⟨v4, v5, v6, v7, v8, bs, rfl, s1, hr1, hR, hN⟩
      rw [List.length_map, hT.len, List.take_length] at hR
      exact ⟨_, rfl, k1 H1 r bs s1 hr0 hr1 hR hN⟩
end
end LX
end
section
set_option Elab.async false
set_option linter.all false
set_option maxRecDepth 100000
set_option maxHeartbeats 2000000
namespace LX
open PySem PySem.Spec PyProof.Rows L2 LM1
noncomputable def RowH (H : Hp) (a : Addr) (row : List (Nat × List Nat)) : Prop := ∃ ls : List Addr, H a = some (.dK (rowKV row ls)) ∧ SetsAt H ls (row.map (·.2))
theorem RowX.h {r : Addr} {H : Hp} {a : Addr} {row : List (Nat × List Nat)} (h : RowX r H a row) : RowH H a row := by
  obtain ⟨ls, h1, h2, _⟩ := h
  exact ⟨ls, h1, h2⟩
theorem RowH.same {H H' : Hp} {a : Addr} {row : List (Nat × List Nat)} (h : RowH H a row) (s : Same H H') : RowH H' a row := by
  obtain ⟨ls, h1, h2⟩ := h
  exact ⟨ls, s _ _ h1, h2.same s⟩
theorem RowH.lock {H : Hp} {a b : Addr} {row : List (Nat × List Nat)} {o : HO} {kv : List (L2.Key × V)} (h : RowH H b row) (hne : b ≠ a) (ha : H a = some (.dK kv)) : RowH (upd H a o) b row := by
  obtain ⟨ls, h1, h2⟩ := h
  exact ⟨ls, by rw [upd_ne hne]; exact h1, h2.upd fun x z => by rw [ha] at z; cases z⟩
theorem same_unlock {H H' : Hp} {a : Addr} {x u : HO} (s : Same (upd H a x) H') (h : H a = some u) : Same H (upd H' a u) := fun b v e => by
  by_cases z : b = a
  · subst z
    rw [upd_same, ← h, e]
  · rw [upd_ne z]
    exact s b v (by rw [upd_ne z]; exact e)
theorem rowKV_get : ∀ {row : List (Nat × List Nat)} {ls : List Addr} {i : Nat} {k : L2.Key} {v : V}, (rowKV row ls)[i]? = some (k, v) → ∃ x l, row[i]? = some x ∧ ls[i]? = some l ∧ k = Sum.inl (x.1 : Int) ∧ v = .ref l := fun {row ls i k v} h => by
  unfold rowKV at h
  rw [List.getElem?_zipWith] at h
  cases e1 : row[i]? with
  | none =>
    rw [e1] at h
    cases h
  | some x =>
    cases e2 : ls[i]? with
    | none =>
      rw [e1, e2] at h
      cases h
    | some l =>
      rw [e1, e2] at h
      cases h
      exact ⟨x, l, rfl, rfl, rfl, rfl⟩
noncomputable def tryOne (B : List (List (Nat × List Nat))) (p : Nat) (rest free : List Nat) (x : Nat × List Nat) : Bool := (free.getD p 0).testBit x.1 && (rest.all (fun q => (List.zipWith (· &&& ·) free x.2).getD q 0 != 0) && LM1.readable B rest (List.zipWith (· &&& ·) free x.2))
theorem readable_cons (B : List (List (Nat × List Nat))) (p : Nat) (rest free : List Nat) : LM1.readable B (p :: rest) free = (B.getD p []).any (tryOne B p rest free) := by
  rw [LM1.readable]
  rfl
theorem readable_nil (B : List (List (Nat × List Nat))) (free : List Nat) : LM1.readable B [] free = true := by rw [LM1.readable]
theorem cut_tail (p0 : Nat) (rest : List Nat) : cutV (zs (p0 :: rest)) (some (1 : Int)) none = zs rest := by
  have e1 : HT.sIx (zs (p0 :: rest)).length 0 (some (1 : Int)) = 1 := by
    unfold HT.sIx
    rw [zs_len, List.length_cons]
    dsimp only
    rw [if_neg (by omega)]
    omega
  have e2 : HT.sIx (zs (p0 :: rest)).length (zs (p0 :: rest)).length none = (zs (p0 :: rest)).length := rfl
  unfold cutV
  rw [e1, e2, zs_len, zs_drop, zs_take, List.length_cons]
  show zs (rest.take (rest.length + 1 - 1)) = zs rest
  rw [Nat.add_sub_cancel, List.take_length]
theorem zip_len {a b : List Nat} (h : b.length = a.length) : (List.zipWith (· &&& ·) a b).length = a.length := by
  rw [List.length_zipWith, h, Nat.min_self]
inductive IspReadable (n : Nat) (vs : List V) (H : Hp) (Q : VK) : Prop
  | mk (p fr b : Addr) (places free : List Nat) (bs : List Addr) (B : List (List (Nat × List Nat))) (h0 : vs = [.ref p, .ref fr, .ref b]) (h1 : H p = some (.lst (zs places))) (h2 : H fr = some (.lst (zs free))) (h3 : H b = some (.lst (bs.map V.ref))) (h4 : bs.Nodup) (h5 : places.Nodup) (h6 : places.length < n) (h7 : places.length ≤ 8) (h8 : free.length ≤ 8) (h9 : (∀ q ∈ places, ∃ a row, bs[q]? = some a ∧ B[q]? = some row ∧ RowH H a row)) (h10 : (∀ q ∈ places, q < free.length)) (h11 : (∀ row ∈ B, ∀ x ∈ row, x.2.length = free.length)) (h12 : ∀ H', Same H H' → Q (.bl (LM1.readable B places free)) H')
noncomputable def spReadable (n : Nat) : Sp := fun vs H Q _ => IspReadable n  vs H Q
section
variable {P : Program} {w : World} {K : PySem.W.Frag} {mg : Str → Option Value} {base : Heap}
theorem scReadable : FnScope ["places", "free", "beside", "rest", "number", "others", "left", "bits", "more", "place"] ["places", "free", "beside"] (defScope sReadable) := ⟨rfl, rfl, rfl, by decide +kernel, rfl, by decide +kernel, by decide +kernel⟩
theorem ok_readable {f : Addr} {fd : FuncData} (F : Fun K "readable" "readable" sReadable f fd) (U : TxtB mg) (V' : TxtC mg) (bR : Binds K fd ["places", "free", "beside"] []) (mR : mg "readable" = some (.ref f)) :
    ∀ n, FnOk P w K mg base CX0 n f fd ["places", "free", "beside"] (spReadable n)
  | 0 => ⟨fun vs H Q E h => by
      obtain ⟨p, fr, b, places, free, bs, B, _, _, _, _, _, _, z, _⟩ := h
      omega, fun A outer s H args us vs Q E hr he hb hv hs => by
      obtain ⟨p, fr, b, places, free, bs, B, _, _, _, _, _, _, z, _⟩ := hs
      omega⟩
  | n + 1 => by
    have G := ok_readable F U V' bR mR n
    refine F.ok scReadable (fun vs H Q E h => ?_) (fun cdv A outer s H vs Q E hr h => ?_)
    · obtain ⟨p, fr, b, places, free, bs, B, rfl, _⟩ := h
      rfl
    · obtain ⟨p, fr, b, places, free, bs, B, rfl, hp, hfr, hb, hbn, hpn, hlp, hl8, hf8, hrow, hpf, hlen, k1⟩ := h
      refine ⟨_, pss_cons (ps_if (pt_not (pt_truth (pv 0) (fun _ => rfl))) (pss_one (ps_ret pe_bl)) pss_nil)
        (pss_cons (ps_set (i := 3) scReadable.nd rfl (Or.inl rfl) (pe_slice sl_list (pv 0) (po_some pe_int) po_none))
        (pss_cons (ps_lock (ps_for PassesOwn.never rfl (pi_items (pe_ix ix_list (pv 2) (pe_ix ix_list (pv 0) pe_int (fun _ _ => rfl)) (fun _ _ => rfl))) (pg_tup rfl (pgs_cons (pg_name (i := 4) scReadable.nd rfl (Or.inl rfl)) (pgs_cons (pg_name (i := 5) scReadable.nd rfl (Or.inl rfl)) pgs_nil)))
          (pss_one (ps_if (pt_truth (pe_op op_and (pe_op op_shr (pe_ix ix_list (pv 1) (pe_ix ix_list (pv 0) pe_int (fun _ _ => rfl)) (fun _ _ => rfl)) (pv 4)) pe_int) (fun _ => rfl))
            (pss_cons (ps_set (i := 6) scReadable.nd rfl (Or.inr rfl) (pe_lc (own := [("bits", 7), ("more", 8)]) (g := gTup K 2 (gCons (gName 7) (gCons (gName 8) gNil))) (tt := tYes) rfl scReadable.nd (pi_zip rfl U.zip (pa_cons (pv 1) (pa_cons (pv 5) pa_nil))) (blkOk_by (by rfl))
                (fun _ _ _ _ _ => pg_tup rfl (pgs_cons (pg_name (i := 7) scReadable.nd rfl (Or.inl rfl) (hf := Or.inr rfl)) (pgs_cons (pg_name (i := 8) scReadable.nd rfl (Or.inl rfl) (hf := Or.inr rfl)) pgs_nil))) (fun _ _ _ _ _ => pts_nil) (fun _ _ _ _ _ => pe_op op_and (pv 7) (pv 8))))
            (pss_one (ps_if (PW.pt (pw_and (pt_val (pe_callB (cr_allI rfl) (by rfl) V'.all boot_all5 (pa_cons (pe_lc (own := [("place", 9)]) (g := gName 9) (tt := tYes) (te := tOp (rIxL K) (tVar 6) (tVar 9)) rfl scReadable.nd (pi_list (pv 3)) (blkOk_by (by rfl))
                (fun _ _ _ _ _ => pg_name (i := 9) scReadable.nd rfl (Or.inl rfl) (hf := Or.inr rfl)) (fun _ _ _ _ _ => pts_nil) (fun _ _ _ _ _ => pe_ix ix_list (pv 6) (pv 9) (fun _ _ => rfl))) pa_nil)))
                (pw_and1 (pt_val (pe_call G hr rfl mR F.kp bR .nil pass0 (pa_cons (pv 3) (pa_cons (pv 6) (pa_cons (pv 2) pa_nil))))))))
              (pss_one (ps_ret pe_bl)) pss_nil)))
            pss_nil))))
        (pss_one (ps_ret pe_bl)))), ?_⟩
      refine ⟨_, rfl, _, .inl ⟨_, SqL.of hp, rfl⟩, ?_⟩
      cases places with
      | nil =>
        rw [readable_nil] at k1
        exact iteT (k1 H (Same.refl H))
      | cons p0 rest =>
        refine iteF ⟨_, rfl, _, rfl, p, _, rfl, SqL.of hp, fun rs hrs => ?_⟩
        rw [cut_tail]
        obtain ⟨a, row, hba, hBa, ls, hda, hls⟩ := hrow p0 (by simp)
        have hp0 : p0 < free.length := hpf p0 (by simp)
        obtain ⟨f0, hf0⟩ : ∃ f0, free[p0]? = some f0 := ⟨_, List.getElem?_eq_getElem hp0⟩
        have s1 : Same H (upd H rs (.lst (zs rest))) := same_new hrs
        generalize hH1 : upd H rs (.lst (zs rest)) = H1 at s1 ⊢
        have hrs1 : H1 rs = some (.lst (zs rest)) := by rw [← hH1, upd_same]
        have hda1 := s1 _ _ hda
        have hrB : row ∈ B := List.mem_of_getElem? hBa
        have hpn' := List.nodup_cons.mp hpn
        refine ⟨a, _, hda1, trivial, fun od => ?_⟩
        have lst_ne : ∀ (z : Addr) (xs : List V), H1 z = some (.lst xs) → z ≠ a := fun z xs hz e => by
          rw [e, hda1] at hz
          cases hz
        have stay : ∀ (z : Addr) (xs : List V), H1 z = some (.lst xs) → (upd H1 a (.frz od (.dK (rowKV row ls)))) z = some (.lst xs) := fun z xs hz => by
          rw [upd_ne (lst_ne z xs hz)]
          exact hz
        have hls1 : SetsAt (upd H1 a (.frz od (.dK (rowKV row ls)))) ls (row.map (·.2)) := (hls.same s1).upd fun x z => by
          rw [hda1] at z
          cases z
        have hlock : (upd H1 a (.frz od (.dK (rowKV row ls)))) a = some (.frz od (.dK (rowKV row ls))) := upd_same
        have hpL := stay p _ (s1 _ _ hp)
        have hfL := stay fr _ (s1 _ _ hfr)
        have hbL := stay b _ (s1 _ _ hb)
        have hrL := stay rs _ hrs1
        have hrowL : ∀ q ∈ rest, ∃ a' row', bs[q]? = some a' ∧ B[q]? = some row' ∧ RowH (upd H1 a (.frz od (.dK (rowKV row ls)))) a' row' := fun q hq => by
          obtain ⟨a', row', h1, h2, h3⟩ := hrow q (by simp [hq])
          refine ⟨a', row', h1, h2, (h3.same s1).lock (fun e => ?_) hda1⟩
          rw [e] at h1
          have : q = p0 := nd_ix hbn h1 hba
          rw [this] at hq
          exact hpn'.1 hq
        have fin : ∀ (v : Bool) (H' : Hp), Same (upd H1 a (.frz od (.dK (rowKV row ls)))) H' → LM1.readable B (p0 :: rest) free = v → H' a = some (.frz od (.dK (rowKV row ls))) ∧ Q (.bl v) (upd H' a (.dK (rowKV row ls))) := fun v H' s' e => ⟨s' _ _ hlock, by
          rw [← e]
          exact k1 _ (s1.trans (same_unlock s' hda1))⟩
        generalize upd H1 a (.frz od (.dK (rowKV row ls))) = HL at hls1 hlock hpL hfL hbL hrL hrowL fin ⊢
        refine ⟨_, rfl, _, rfl, p, _, _, _, rfl, rfl, SqL.of hpL, atI_nat' (i := 0) rfl, b, _, _, _, rfl, rfl, SqL.of hbL, atI_nat' (x := V.ref a) (by rw [List.getElem?_map, hba]; rfl), a, od, _, rfl, hlock, ?_⟩
        let J : Nat → L2.St → Hp → Prop := fun i σ H' => ∃ (v4 v5 v6 v7 v8 v9 : Option V), σ = [some (.ref p), some (.ref fr), some (.ref b), some (.ref rs), v4, v5, v6, v7, v8, v9] ∧ Same HL H' ∧ ∀ x ∈ row.take i, tryOne B p0 rest free x = false
        have hll : ls.length = row.length := by
          rw [hls.len, List.length_map]
        have hkl : (rowKV row ls).length = row.length := rowKV_len row ls hll
        refine for_items (d := a) (o := od) (kvs := rowKV row ls) J ⟨none, none, none, none, none, none, rfl, Same.refl HL, fun x hx => by simp at hx⟩ (fun i σ H' _ ⟨_, _, _, _, _, _, _, s', _⟩ => s' _ _ hlock) ?_ ?_
        · rintro i k v T' σ H2 hkv hT' ⟨v4, v5, v6, v7, v8, v9, rfl, s2, hno⟩
          obtain ⟨x, l, hx, hl, rfl, rfl⟩ := rowKV_get hkv
          have hxl : x.2.length = free.length := hlen row hrB x (List.mem_of_getElem? hx)
          have hnext : ∀ y ∈ row.take (i + 1), tryOne B p0 rest free x = false → tryOne B p0 rest free y = false := fun y hy z => by
            rw [take_snoc hx] at hy
            rcases List.mem_append.mp hy with u | u
            · exact hno y u
            · rw [List.mem_singleton.mp u]
              exact z
          obtain ⟨l', hl', hxl2⟩ := hls1.get' (i := i) (x := x.2) (by rw [List.getElem?_map, hx]; rfl)
          rw [hl] at hl'
          cases hl'
          have s3 : Same HL (upd H2 T' (.tup [kV (Sum.inl (x.1 : Int)), .ref l])) := s2.trans (same_new hT')
          refine ⟨T', _, rfl, SqT.of upd_same, rfl, _, _, rfl, _, _, rfl, rfl, ?_⟩
          have e0 : free.getD p0 0 = f0 := getD_some hf0
          generalize (upd H2 T' (.tup [kV (Sum.inl (x.1 : Int)), .ref l])) = H3 at s3 ⊢
          refine ⟨_, rfl, _, rfl, p, _, _, _, rfl, rfl, SqL.of (s3 _ _ hpL), atI_nat' (i := 0) rfl, fr, _, _, _, rfl, rfl, SqL.of (s3 _ _ hfL), atI_nat' (zs_get hf0), _, rfl, _, _, rfl, rfl, Int.natCast_nonneg _, _, _, rfl, rfl, _, rfl, ?_⟩
          rw [shr_nat, bit_truth]
          refine ite2 (fun h1 => ?_) fun h1 => ?_
          · refine ⟨_, rfl, _, rfl, fr, l, _, _, rfl, SqL.of (s3 _ _ hfL), SqL.of (s3 _ _ hxl2), fun Dl hDl => ?_⟩
            refine lc_zip (K := K) (xs := zs free) (ys := zs x.2) (fun e H' => Same H3 H' ∧ H' Dl = some (.lst (zs ((List.zipWith (· &&& ·) free x.2).take e)))) ⟨same_new hDl, upd_same⟩ (by rw [zs_len, zs_len, hxl]) (fun e H' _ z => ⟨SqL.of (z.1 _ _ (s3 _ _ hfL)), SqL.of (z.1 _ _ (s3 _ _ hxl2))⟩) ?_ ?_
            · rintro e v v' T2 H4 he he' hT2 ⟨s4, hD4⟩
              obtain ⟨n1, hn1, rfl⟩ := zs_inv he
              obtain ⟨n2, hn2, rfl⟩ := zs_inv he'
              have hel := (List.getElem?_eq_some_iff.mp hn1).1
              have hz : (List.zipWith (· &&& ·) free x.2)[e]? = some (n1 &&& n2) := by
                rw [List.getElem?_zipWith, hn1, hn2]
              have s5 : Same H3 (upd H4 T2 (.tup [.int (n1 : Int), .int (n2 : Int)])) := s4.trans (same_new hT2)
              have hD5 : (upd H4 T2 (.tup [.int (n1 : Int), .int (n2 : Int)])) Dl = some (.lst (zs ((List.zipWith (· &&& ·) free x.2).take e))) := by
                rw [upd_ne (ne_of_none hD4 hT2)]
                exact hD4
              refine ⟨T2, _, rfl, SqT.of upd_same, rfl, _, _, rfl, _, _, rfl, rfl, rfl, tYes_i ⟨_, rfl, _, rfl, _, _, rfl, rfl, _, hD5, ?_, same_upd s5 hDl, ?_⟩⟩
              · rw [zs_len, List.length_take, zip_len hxl]
                exact small1000' (by omega)
              · rw [upd_same, take_snoc hz, zs_append]
                show some (HO.lst (_ ++ [V.int (Builtin.bitAnd (n1 : Int) (n2 : Int))])) = _
                rw [bitAnd_nat]
                rfl
            · rintro H4 ⟨s4, hD4⟩
              rw [zs_len] at hD4
              have hzl := zip_len hxl
              rw [← hzl, List.take_length] at hD4
              generalize hleft : List.zipWith (· &&& ·) free x.2 = left at hD4 hzl
              have s5 : Same HL H4 := s3.trans s4
              refine ⟨_, rfl, rs, rfl, ⟨_, SqL.of (s5 _ _ hrL)⟩, fun D2 hD2 => ?_⟩
              refine lc_list (K := K) (xs := zs rest) (fun e H' => Same H4 H' ∧ H' D2 = some (.lst (zs ((rest.take e).map fun q => left.getD q 0)))) ⟨same_new hD2, upd_same⟩ (fun e H' _ z => SqL.of (z.1 _ _ (s5 _ _ hrL))) ?_ ?_
              · rintro e v H5 he ⟨s6, hD5⟩
                obtain ⟨q, hq, rfl⟩ := zs_inv he
                have hqm := List.mem_of_getElem? hq
                have hql : q < left.length := by
                  rw [hzl]
                  exact hpf q (by simp [hqm])
                have hel := (List.getElem?_eq_some_iff.mp hq).1
                have hlq : left[q]? = some (left.getD q 0) := by
                  rw [List.getD_eq_getElem?_getD, List.getElem?_eq_getElem hql]
                  rfl
                refine ⟨rfl, tYes_i ⟨_, rfl, _, rfl, Dl, _, _, _, rfl, rfl, SqL.of (s6 _ _ hD4), atI_nat' (zs_get hlq), _, hD5, ?_, same_upd s6 hD2, ?_⟩⟩
                · rw [zs_len, List.length_map, List.length_take]
                  simp only [List.length_cons] at hl8
                  exact small1000' (by omega)
                · rw [upd_same, take_snoc hq, List.map_append, zs_append]
                  rfl
              · rintro H5 ⟨s6, hD5⟩
                rw [zs_len, List.take_length] at hD5
                have s7 : Same HL H5 := s5.trans s6
                refine ⟨D2, zi (rest.map fun q => left.getD q 0), rfl, SqL.of hD5, _, rfl, ?_⟩
                have eall : ((zi (rest.map fun q => left.getD q 0)).all fun n => n != 0) = rest.all fun q => left.getD q 0 != 0 := by
                  unfold zi
                  rw [List.map_map, List.all_map]
                  congr 1
                  funext q
                  show (((left.getD q 0 : Nat) : Int) != 0) = (left.getD q 0 != 0)
                  rw [Bool.eq_iff_iff, bne_iff_ne, bne_iff_ne]
                  omega
                rw [eall]
                have etry : tryOne B p0 rest free x = (rest.all (fun q => left.getD q 0 != 0) && LM1.readable B rest left) := by
                  unfold tryOne
                  rw [e0, h1, hleft, Bool.true_and]
                refine ite2 (fun h2 => ?_) fun h2 => ?_
                · refine ⟨_, rfl, _, rfl, _, rfl, rs, Dl, b, rest, left, bs, B, rfl, s7 _ _ hrL, s6 _ _ hD4, s7 _ _ hbL, hbn, hpn'.2, ?_, ?_, by omega, ?_, ?_, ?_, fun H6 s8 => ⟨_, rfl, ?_⟩⟩
                  · simp only [List.length_cons] at hlp
                    omega
                  · simp only [List.length_cons] at hl8
                    omega
                  · intro q hq
                    obtain ⟨a', row', g1, g2, g3⟩ := hrowL q hq
                    exact ⟨a', row', g1, g2, g3.same s7⟩
                  · intro q hq
                    rw [hzl]
                    exact hpf q (by simp [hq])
                  · intro row' hr' x' hx'
                    rw [hzl]
                    exact hlen row' hr' x' hx'
                  · refine ite2 (fun h3 => ?_) fun h3 => ?_
                    · refine fin true H6 (s7.trans s8) ?_
                      rw [readable_cons, getD_some hBa, List.any_eq_true]
                      exact ⟨x, List.mem_of_getElem? hx, by rw [etry, h2, h3]; rfl⟩
                    · refine ⟨_, _, _, _, _, _, rfl, s7.trans s8, fun y hy => hnext y hy ?_⟩
                      rw [etry, Bool.eq_false_iff.mpr h3, Bool.and_false]
                · refine iteF ⟨_, _, _, _, _, _, rfl, s7, fun y hy => hnext y hy ?_⟩
                  rw [etry, Bool.eq_false_iff.mpr h2, Bool.false_and]
          · refine ⟨_, _, _, _, _, _, rfl, s3, fun y hy => hnext y hy ?_⟩
            unfold tryOne
            rw [e0, Bool.eq_false_iff.mpr h1, Bool.false_and]
        · rintro σ H2 ⟨v4, v5, v6, v7, v8, v9, rfl, s2, hno⟩
          rw [hkl, List.take_length] at hno
          have := fin false H2 s2 (by
            rw [readable_cons, getD_some hBa, List.any_eq_false]
            intro x hx
            rw [hno x hx]
            exact Bool.false_ne_true)
          exact this
end
end LX
end
section
set_option Elab.async false
set_option linter.all false
set_option maxRecDepth 100000
set_option maxHeartbeats 2000000
namespace LX
open PySem PySem.Spec PyProof.Rows L2 LM1
theorem flat_zs (l : List Nat) : (zs l).all flatV = true := by
  rw [List.all_eq_true]
  intro v hv
  unfold zs at hv
  obtain ⟨i, _, rfl⟩ := List.mem_map.mp hv
  rfl
theorem inV_zs (c : Nat) (l : List Nat) : inV (V.int (c : Int)) (zs l) = l.contains c := by
  unfold inV zs zi
  rw [Bool.eq_iff_iff, List.contains_iff_mem, List.any_eq_true]
  constructor
  · rintro ⟨v, hv, e⟩
    obtain ⟨i, hi, rfl⟩ := List.mem_map.mp hv
    obtain ⟨n, hn, rfl⟩ := List.mem_map.mp hi
    have e' : ((n : Int) == (c : Int)) = true ∨ ((c : Int) == (n : Int)) = true := by
      first
        | exact .inl e
        | exact .inr e
    have : n = c := by
      rcases e' with e' | e' <;> (have := beq_iff_eq.mp e'; omega)
    rw [← this]
    exact hn
  · intro h
    refine ⟨V.int (c : Int), List.mem_map.mpr ⟨(c : Int), List.mem_map.mpr ⟨c, h, rfl⟩, rfl⟩, ?_⟩
    show ((c : Int) == (c : Int)) = true
    simp
inductive IspFewestLeft (vs : List V) (H : Hp) (Q : VK) : Prop
  | mk (t q d : Addr) (ts as : List Addr) (D : Uw63.Desk) (h0 : vs = [.ref t, .ref q, .ref d]) (h1 : H t = some (.lst (ts.map V.ref))) (h2 : TupsAt H ts D.text) (h3 : H q = some (.lst (as.map V.ref))) (h4 : TupsAt H as D.list) (h5 : H d = some (.dK (kvs D.hints))) (h6 : keysND D.hints) (h7 : valsND D.hints) (h8 : D.hints.length ≤ 100) (h9 : D.text.length ≤ 5) (h10 : (∀ c ∈ D.text, c.length ≤ 8)) (h11 : D.list.length ≤ 1000) (h12 : ∀ (k : Nat) (y : List Nat) (r : List (List Nat)), (∀ j < k, enoughP D j = []) → enoughP D k = y :: r → ∀ (H' : Hp) (p : Addr) (es : List Addr), Same H H' → H' p = some (.lst (es.map V.ref)) → SetsAt H' es (y :: r) → Q (.ref p) H')
noncomputable def spFewestLeft : Sp := fun vs H Q _ => IspFewestLeft  vs H Q
theorem rows_lens {list text : List (List Nat)} {h : Uw63.Key} : ∀ row ∈ besideOf list text h, ∀ x ∈ row, x.2.length = (LM1.freeOf list text h).length := by
  intro row hr x hx
  obtain ⟨c, _, rfl⟩ := List.mem_map.mp hr
  obtain ⟨u, _, rfl⟩ := List.mem_map.mp hx
  unfold LM1.freeOf
  rw [List.length_map, List.length_map]
theorem kept_nd (m : Nat) (l : List Nat) : (kept m l).Nodup := by
  unfold kept
  exact List.Nodup.sublist List.filter_sublist List.nodup_range
theorem kept_lt {m : Nat} {l : List Nat} {p : Nat} (h : p ∈ kept m l) : p < m := by
  unfold kept at h
  exact List.mem_range.mp (List.mem_filter.mp h).1
theorem kept_len (m : Nat) (l : List Nat) : (kept m l).length ≤ m := by
  unfold kept
  have := List.length_filter_le (fun p => !l.contains p) (List.range m)
  rw [List.length_range] at this
  exact this
section
variable {P : Program} {w : World} {K : PySem.W.Frag} {mg : Str → Option Value} {base : Heap}
theorem scFewestLeft : FnScope ["text", "words", "hints", "beside", "free", "enough", "count", "left_out", "kept", "by_number", "place"] ["text", "words", "hints"] (defScope sFewestLeft) := ⟨rfl, rfl, rfl, by decide +kernel, rfl, by decide +kernel, by decide +kernel⟩
theorem ok_fewestLeft {f fBs fB fS fR : Addr} {fd fdBs fdB fdS fdR : FuncData} (F : Fun K "fewest_left_out" "fewest_left_out" sFewestLeft f fd) (T : TxtA mg) (U : TxtB mg) (V' : TxtC mg) (GBs : FnOk P w K mg base CX0 3 fBs fdBs ["text", "words", "hints"] spBeside)
    (kBs : PySem.W.keepIn K (.ref fBs) = true) (bBs : Binds K fdBs ["text", "words", "hints"] []) (mBs : mg "words_beside" = some (.ref fBs))
    (FB : Fun K "bits_of" "bits_of" sBitsOf fB fdB) (bB : Binds K fdB ["numbers"] []) (mB : mg "bits_of" = some (.ref fB)) (FS : Fun K "sets_of_places" "sets_of_places" sSets fS fdS) (bS : Binds K fdS ["total", "count"] []) (mS : mg "sets_of_places" = some (.ref fS))
    (FR : Fun K "readable" "readable" sReadable fR fdR) (bR : Binds K fdR ["places", "free", "beside"] []) (mR : mg "readable" = some (.ref fR)) :
    FnOk P w K mg base CX0 7 f fd ["text", "words", "hints"] spFewestLeft := by
  have GBs : FnOk P w K mg base CX0 6 fBs fdBs ["text", "words", "hints"] spBeside := GBs.mono (by decide)
  have GB : FnOk P w K mg base CX0 6 fB fdB ["numbers"] (spBitsOf K) := (ok_bitsOf FB).mono (by decide)
  have GS : FnOk P w K mg base CX0 6 fS fdS ["total", "count"] spSets := (ok_sets FS T V').mono (by decide)
  have GR : FnOk P w K mg base CX0 6 fR fdR ["places", "free", "beside"] (spReadable 6) := ok_readable FR U V' bR mR 6
  refine F.ok scFewestLeft (fun vs H Q E h => ?_) (fun cdv A outer s H vs Q E hr h => ?_)
  · obtain ⟨t, q, d, ts, as, D, rfl, _⟩ := h
    rfl
  · obtain ⟨t, q, d, ts, as, D, rfl, ht, hT, hq, hA, hd, kn, kv, hlh, hlt, hlc, hll, k1⟩ := h
    refine ⟨_, pss_cons (ps_set (i := 3) scFewestLeft.nd rfl (Or.inl rfl) (pe_call GBs hr rfl mBs kBs bBs .nil pass0 (pa_cons (pv 0) (pa_cons (pv 1) (pa_cons (pv 2) pa_nil)))))
      (pss_cons (ps_setLc (i := 4) (own := [("by_number", 9)]) (g := gName 9) (tt := tYes) rfl scFewestLeft.nd rfl rfl (sw_true rfl rfl rfl rfl) (pi_list (pv 3)) (blkOk_by (by rfl)) (fun _ _ _ _ _ => pg_name (i := 9) scFewestLeft.nd rfl (Or.inl rfl) (hf := Or.inr rfl)) (fun _ _ _ _ _ => pts_nil)
        (fun _ _ _ _ _ => pe_call GB hr rfl mB FB.kp bB .nil pass0 (pa_cons (pe_callTy (call_listD rfl) (by rfl) U.list boot_list5 (pa_cons (pv 9) pa_nil)) pa_nil)))
      (pss_cons (ps_set (i := 5) scFewestLeft.nd rfl (Or.inl rfl) (pe_lst pa_nil))
      (pss_cons (ps_set (i := 6) scFewestLeft.nd rfl (Or.inl rfl) pe_int)
      (pss_cons (ps_while PassesOwn.never (pt_not (pt_truth (pv 5) (fun _ => rfl)))
        (pss_cons (ps_for PassesOwn.never rfl (pi_list (pe_call GS hr rfl mS FS.kp bS .nil pass0 (pa_cons (pe_callB call_len_seq (by rfl) T.len PySem.boot_len (pa_cons (pv 0) pa_nil)) (pa_cons (pv 6) pa_nil)))) (pg_name (i := 7) scFewestLeft.nd rfl (Or.inr rfl))
          (pss_cons (ps_setLc (i := 8) (own := [("place", 10)]) (g := gName 10) (tt := tTest (tOp (rIn K true) (tVar 10) (tVar 7))) rfl scFewestLeft.nd rfl rfl (sw_true rfl rfl rfl rfl) (pi_range1 rfl V'.range (pa_cons (pe_callB call_len_seq (by rfl) T.len PySem.boot_len (pa_cons (pv 0) pa_nil)) pa_nil)) (blkOk_by (by rfl))
            (fun _ _ _ _ _ => pg_name (i := 10) scFewestLeft.nd rfl (Or.inl rfl) (hf := Or.inr rfl)) (fun _ _ _ _ _ => pts_one (pt_cmpR op_notIn_seq (pv 10) (pv 7) rfl)) (fun _ _ _ _ _ => pv 10))
          (pss_one (ps_if (pt_val (pe_call GR hr rfl mR FR.kp bR .nil pass0 (pa_cons (pv 8) (pa_cons (pv 4) (pa_cons (pv 3) pa_nil))))) (pss_one (ps_expr (pe_bm PySem.F.plainAttrs_list PySem.F.slot_list_append PySem.F.type_list_append mt_append (pv 5) (pa_cons (pv 7) pa_nil)))) pss_nil))))
        (pss_one (ps_set (i := 6) scFewestLeft.nd rfl (Or.inl rfl) (pe_op op_add (pv 6) pe_int)))))
      (pss_one (ps_ret (pv 5))))))), ?_⟩
    refine ⟨_, rfl, _, rfl, _, rfl, t, q, d, ts, as, D.text, D.list, D.hints, rfl, ht, hT, hq, hA, hd, kn, kv, hlh, by omega, hlc, hll, fun H1 b bs s1 hb0 hb1 hR hbn => ?_⟩
    refine ⟨_, rfl, b, rfl, ⟨_, SqL.of hb1⟩, fun fr hfr0 => ?_⟩
    refine lc_list (K := K) (xs := bs.map V.ref) (fun j H' => Same H1 H' ∧ H' fr = some (.lst (zs ((LM1.freeOf D.list D.text D.hints).take j)))) ⟨same_new hfr0, upd_same⟩ (fun j H' _ z => SqL.of (z.1 _ _ hb1)) ?_ ?_
    · rintro j v H2 hj ⟨s2, hfr2⟩
      obtain ⟨a, ha, rfl⟩ := refs_get hj
      obtain ⟨row, hrow, ls, hda, hls, _⟩ := hR.get ha
      rw [beside_rows, List.getElem?_map] at hrow
      obtain ⟨c, hc, rfl⟩ := Option.map_eq_some_iff.mp hrow
      have hjl := (List.getElem?_eq_some_iff.mp hc).1
      have hll' : ls.length = (rowOf D.list D.text D.hints c).length := by
        rw [hls.len, List.length_map]
      have hkeys : (rowKV (rowOf D.list D.text D.hints c) ls).map (fun kv => kV kv.1) = zs (fits D.list D.hints c) := by
        have g : ∀ (row : List (Nat × List Nat)) (ls : List Addr), ls.length = row.length → (rowKV row ls).map (fun kv => kV kv.1) = zs (row.map (·.1)) := by
          intro row
          induction row with
          | nil =>
            intro ls h
            have : ls = [] := List.eq_nil_of_length_eq_zero h
            subst this
            rfl
          | cons x row ih =>
            intro ls h
            cases ls with
            | nil => cases h
            | cons l ls =>
              show _ :: (rowKV row ls).map _ = _ :: zs (row.map (·.1))
              rw [ih ls (by simpa using h)]
              rfl
        rw [g _ _ hll']
        congr 1
        unfold rowOf
        rw [List.map_map]
        exact List.map_id'' (fun _ => rfl) _
      refine ⟨rfl, tYes_i ⟨_, rfl, a, _, rfl, .inl (s2 _ _ hda), fun l hl => ?_⟩⟩
      rw [hkeys]
      refine ⟨l, fits D.list D.hints c, rfl, SqL.of upd_same, fun n hn => ?_, _, (same_new hl) _ _ hfr2, ?_, same_upd (s2.trans (same_new hl)) hfr0, ?_⟩
      · have := fits_lt hn
        omega
      · rw [zs_len, List.length_take]
        exact small1000' (by omega)
      · have hz : (LM1.freeOf D.list D.text D.hints)[j]? = some (bitsOf (fits D.list D.hints c)) := by
          unfold LM1.freeOf
          rw [List.getElem?_map, hc]
          rfl
        rw [upd_same, take_snoc hz, zs_append]
        rfl
    · rintro H2 ⟨s2, hfr2⟩
      have hrl : bs.length = D.text.length := by
        rw [hR.len, beside_rows, List.length_map]
      have hfl : (LM1.freeOf D.list D.text D.hints).length = D.text.length := List.length_map _
      rw [List.length_map, hrl, ← hfl, List.take_length] at hfr2
      have hR2 := hR.same s2
      have hb2 := s2 _ _ hb1
      have b2 : Same H H2 := s1.trans s2
      refine ⟨Nat.zero_le _, fun En hEn0 => ?_⟩
      let J : Nat → L2.St → Hp → Prop := fun k σ H' => ∃ (v7 v8 v9 v10 : Option V) (es : List Addr) (E : List (List Nat)), σ = [some (.ref t), some (.ref q), some (.ref d), some (.ref b), some (.ref fr), some (.ref En), some (.int k), v7, v8, v9, v10] ∧ Same H2 H' ∧ H' En = some (.lst (es.map V.ref)) ∧ SetsAt H' es E ∧ En ∉ es ∧ k ≤ D.text.length + 1 ∧ ((k = 0 ∧ E = []) ∨ ∃ k', k = k' + 1 ∧ E = enoughP D k' ∧ ∀ j < k', enoughP D j = [])
      refine ⟨fun m σ H' => ∃ k, m = D.text.length + 1 - k ∧ J k σ H', ⟨_, 0, rfl, _, _, _, _, [], [], rfl, same_new hEn0, upd_same, .nil, by simp, Nat.zero_le _, .inl ⟨rfl, rfl⟩⟩, ?_⟩
      rintro m σ H3 ⟨k, rfl, v7, v8, v9, v10, es, E, rfl, s3, hEn, hE, hN, hk, hcase⟩
      refine ⟨_, rfl, _, .inl ⟨_, SqL.of hEn, rfl⟩, ?_⟩
      cases es with
      | cons e0 es =>
        refine iteF ⟨_, rfl, ?_⟩
        cases hE with
        | cons hb' ht' =>
          rename_i y r
          rcases hcase with ⟨_, z⟩ | ⟨k', rfl, hz, h0⟩
          · cases z
          · exact k1 k' y r h0 hz.symm H3 En (e0 :: es) (b2.trans s3) hEn (.cons hb' ht')
      | nil =>
        cases hE
        have h0 : ∀ j < k, enoughP D j = [] := by
          rcases hcase with ⟨rfl, _⟩ | ⟨k', rfl, hz, h0⟩
          · intro j hj
            omega
          · intro j hj
            by_cases z : j = k'
            · rw [z]
              exact hz.symm
            · exact h0 j (by omega)
        have hkl : k ≤ D.text.length := by
          refine Nat.le_of_not_lt fun z => ?_
          have := h0 D.text.length z
          rw [enoughP_eq, List.map_eq_nil_iff] at this
          exact setsOf_all D this
        refine iteT ?_
        refine ⟨fun σ' H' => ∃ k', D.text.length + 1 - k' < D.text.length + 1 - k ∧ J k' σ' H', ?_, ?_⟩
        · rintro σ' H' ⟨k', lt, j⟩
          exact ⟨_, lt, k', rfl, j⟩
        have b3 : Same H H3 := b2.trans s3
        have hm2 := pow8 (show D.text.length ≤ 8 by omega)
        refine ⟨_, rfl, t, _, rfl, .inl (SqL.of (b3 _ _ ht)), ?_⟩
        rw [List.length_map, hT.len]
        refine ⟨_, rfl, D.text.length, k, rfl, by omega, fun H4 S ss s4 hS0 hS4 hSS hSo => ⟨S, rfl, ⟨_, SqL.of hS4⟩, ?_⟩⟩
        let can' : List Nat → Bool := fun l => Uw63.can D.list D.hints ((kept D.text.length l).map fun p => D.text.getD p [])
        let J2 : Nat → L2.St → Hp → Prop := fun i σ H' => ∃ (v7 v8 v9 v10 : Option V) (es : List Addr), σ = [some (.ref t), some (.ref q), some (.ref d), some (.ref b), some (.ref fr), some (.ref En), some (.int k), v7, v8, v9, v10] ∧ Same H2 H' ∧ H' En = some (.lst (es.map V.ref)) ∧ SetsAt H' es (((setsP D.text.length k).take i).filter can') ∧ En ∉ es ∧ H' S = some (.lst (ss.map V.ref)) ∧ SetsAt H' ss (setsP D.text.length k)
        have hEnS : S ≠ En := fun z => by
          rw [z, hEn] at hS0
          cases hS0
        have hSne : En ∉ ss := fun z => by
          have := hSo En z
          rw [hEn] at this
          cases this
        have hsl : (setsP D.text.length k).length ≤ 2 ^ D.text.length := setsP_len _ _ _
        refine for_list (K := K) (a := S) (xs := ss.map V.ref) J2 ⟨_, _, _, _, [], rfl, s3.trans s4, s4 _ _ hEn, .nil, by simp, hS4, hSS⟩ (fun i σ H' _ ⟨_, _, _, _, _, _, _, _, _, _, hS', _⟩ => SqL.of hS') ?_ ?_
        · rintro i v σ H5 hi ⟨v7, v8, v9, v10, es, rfl, s5, hEn5, hE5, hN5, hS5, hSS5⟩
          obtain ⟨lo, hlo, rfl⟩ := refs_get hi
          obtain ⟨L, hL, hloL⟩ := hSS5.get hlo
          have b5 : Same H H5 := b2.trans s5
          have hil := (List.getElem?_eq_some_iff.mp hL).1
          refine ⟨_, rfl, t, _, rfl, .inl (SqL.of (b5 _ _ ht)), ?_⟩
          rw [List.length_map, hT.len]
          refine ⟨(D.text.length : Int), rfl, by omega, by omega, fun Kp hKp0 => ?_⟩
          refine lc_range (lo := 0) (n := D.text.length) (fun j H' => Same H5 H' ∧ H' Kp = some (.lst (zs ((List.range j).filter fun p => !L.contains p)))) ⟨same_new hKp0, upd_same⟩ ?_ ?_
          · rintro j H6 hj ⟨s6, hK6⟩
            have e1 : (0 : Int) + (j : Int) = (j : Int) := by omega
            rw [e1]
            have er : (List.range (j + 1)).filter (fun p => !L.contains p) = (List.range j).filter (fun p => !L.contains p) ++ (if (!L.contains j) then [j] else []) := by
              rw [List.range_succ, List.filter_append, List.filter_cons, List.filter_nil]
            refine ⟨rfl, _, rfl, _, rfl, lo, _, rfl, .inl (SqL.of (s6 _ _ hloL)), rfl, flat_zs L, _, rfl, ?_⟩
            rw [inV_zs]
            show if (!L.contains j) = true then _ else _
            refine ite2 (fun h1 => ⟨_, rfl, _, hK6, ?_, same_upd s6 hKp0, ?_⟩) fun h1 => ⟨s6, ?_⟩
            · rw [zs_len]
              have := List.length_filter_le (fun p => !L.contains p) (List.range j)
              rw [List.length_range] at this
              exact small1000' (by omega)
            · rw [upd_same, er, if_pos h1, zs_append]
              rfl
            · rw [er, if_neg h1, List.append_nil]
              exact hK6
          · rintro H6 ⟨s6, hK6⟩
            have hK6' : H6 Kp = some (.lst (zs (kept D.text.length L))) := hK6
            have s26 : Same H2 H6 := s5.trans s6
            have hkn := kept_len D.text.length L
            have ecan : LM1.readable (besideOf D.list D.text D.hints) (kept D.text.length L) (LM1.freeOf D.list D.text D.hints) = can' L := readable_eq (PI.of kn kv) fun p hp => kept_lt hp
            refine ⟨_, rfl, _, rfl, _, rfl, Kp, fr, b, kept D.text.length L, LM1.freeOf D.list D.text D.hints, bs, besideOf D.list D.text D.hints, rfl, hK6', s26 _ _ hfr2, s26 _ _ hb2, hbn, kept_nd _ _, by omega, by omega, by omega, fun p hp => ?_, fun p hp => ?_, rows_lens, fun H7 s7 => ⟨_, rfl, ?_⟩⟩
            · have hpl := kept_lt hp
              obtain ⟨a, ha⟩ : ∃ a, bs[p]? = some a := ⟨_, List.getElem?_eq_getElem (by omega)⟩
              obtain ⟨row, hrow, hx⟩ := (hR2.same s26).get ha
              exact ⟨a, row, ha, hrow, hx.h⟩
            · rw [hfl]
              exact kept_lt hp
            · rw [ecan]
              have s57 := s6.trans s7
              have hEn7 := s57 _ _ hEn5
              have hflt := filter_take_len (setsP D.text.length k) can' i
              refine ite2 (fun h1 => ⟨_, rfl, .inl ⟨rfl, _, SqL.of hEn7⟩, _, rfl, En, _, _, rfl, rfl, hEn7, ?_, ?_⟩) fun h1 => ⟨_, _, _, _, es, rfl, s26.trans s7, hEn7, ?_, hN5, s57 _ _ hS5, hSS5.same s57⟩
              · rw [List.length_map, hE5.len]
                exact small1000' (by omega)
              · have hne : En ∉ es ++ [lo] := by
                  intro z
                  rcases List.mem_append.mp z with u | u
                  · exact hN5 u
                  · rw [List.mem_singleton.mp u] at hSne
                    exact hSne (List.mem_of_getElem? hlo)
                refine ⟨_, _, _, _, es ++ [lo], rfl, same_upd (s26.trans s7) hEn0, ?_, ?_, hne, ?_, ?_⟩
                · rw [upd_same, List.map_append]
                  rfl
                · rw [filter_snoc hL, if_pos h1]
                  exact ObAt.updN (ObAt.snoc (hE5.same s57) (s57 _ _ hloL)) hne
                · rw [upd_ne hEnS]
                  exact s57 _ _ hS5
                · exact ObAt.updN (hSS5.same s57) hSne
              · rw [filter_snoc hL, if_neg h1, List.append_nil]
                exact hE5.same s57
        · rintro σ H5 ⟨v7, v8, v9, v10, es, rfl, s5, hEn5, hE5, hN5, hS5, hSS5⟩
          rw [List.length_map, hSS.len, List.take_length] at hE5
          refine ⟨_, rfl, _, _, rfl, rfl, k + 1, by omega, v7, v8, v9, v10, es, enoughP D k, ?_, s5, hEn5, hE5, hN5, by omega, .inr ⟨k, rfl, rfl, h0⟩⟩
          rfl
end
end LX
end
section
set_option Elab.async false
set_option linter.all false
set_option maxRecDepth 100000
set_option maxHeartbeats 2000000
namespace LX
open PySem PySem.Spec PyProof.Rows L2 LM1
noncomputable abbrev sInit : Stmt := inClass (top 50) 0
noncomputable abbrev sBegins : Stmt := inClass (top 50) 1
noncomputable abbrev sWord : Stmt := inClass (top 50) 2
noncomputable abbrev sText : Stmt := inClass (top 50) 3
noncomputable abbrev sHint : Stmt := inClass (top 50) 4
noncomputable abbrev sNearest : Stmt := inClass (top 50) 5
noncomputable abbrev sShapes : Stmt := inClass (top 50) 6
noncomputable abbrev sReadings : Stmt := inClass (top 50) 7
noncomputable abbrev sSure : Stmt := inClass (top 50) 8
noncomputable abbrev sSureM : Stmt := inClass (top 50) 9
noncomputable abbrev sMay : Stmt := inClass (top 50) 10
noncomputable abbrev sTells : Stmt := inClass (top 50) 11
noncomputable abbrev sNumber : Stmt := inClass (top 50) 12
noncomputable abbrev sNeed : Stmt := inClass (top 50) 13
noncomputable def df (n : Nat) (W T D : Addr) : List (Str × V) := [("n", .int n), ("words", .ref W), ("written", .ref T), ("hints", .ref D)]
theorem df_n {n : Nat} {W T D : Addr} : (df n W T D).lookup ("n" : Str) = some (.int n) := by rfl
theorem df_words {n : Nat} {W T D : Addr} : (df n W T D).lookup ("words" : Str) = some (.ref W) := by rfl
theorem df_written {n : Nat} {W T D : Addr} : (df n W T D).lookup ("written" : Str) = some (.ref T) := by rfl
theorem df_hints {n : Nat} {W T D : Addr} : (df n W T D).lookup ("hints" : Str) = some (.ref D) := by rfl
theorem df_put_n {n m : Nat} {W T D : Addr} : putF "n" (.int m) (df n W T D) = df m W T D := by rfl
theorem df_put_words {n : Nat} {W T D X : Addr} : putF "words" (.ref X) (df n W T D) = df n X T D := by rfl
theorem df_put_written {n : Nat} {W T D X : Addr} : putF "written" (.ref X) (df n W T D) = df n W X D := by rfl
theorem df_put_hints {n : Nat} {W T D X : Addr} : putF "hints" (.ref X) (df n W T D) = df n W T X := by rfl
structure TxtK (K : PySem.W.Frag) (mg : Str → Option Value) (C : Addr) : Prop where
  cl : Cls K C
  nN : NoAttr K C "n"
  nW : NoAttr K C "words"
  nT : NoAttr K C "written"
  nH : NoAttr K C "hints"
  mgC : mg "Desk" = some (.ref C)
structure TxtN (mg : Str → Option Value) : Prop where
  begins : ∃ t, mg "BEGINS" = some (.int 0 t)
  word : ∃ t, mg "WORD" = some (.int 1 t)
  text : ∃ t, mg "TEXT" = some (.int 2 t)
  hint : ∃ t, mg "HINT" = some (.int 3 t)
  readings : ∃ t, mg "READINGS" = some (.int 4 t)
  sure : ∃ t, mg "SURE" = some (.int 5 t)
  may : ∃ t, mg "MAY" = some (.int 6 t)
  tells : ∃ t, mg "TELLS" = some (.int 7 t)
  nearest : ∃ t, mg "NEAREST" = some (.int 9 t)
  shapes : ∃ t, mg "SHAPES" = some (.int 10 t)
  wrong : ∃ t, mg "TOLD_WRONG" = some (.int (-1) t)
  notIn : ∃ t, mg "NOT_IN_TEXT" = some (.int (-2) t)
  noText : ∃ t, mg "NO_TEXT" = some (.int (-3) t)
  there : ∃ t, mg "THERE_ALREADY" = some (.int (-4) t)
  full : ∃ t, mg "LIST_FULL" = some (.int (-5) t)
  large : ∃ t, mg "TOO_LARGE" = some (.int (-5) t)
  noReading : ∃ t, mg "NO_READING" = some (.int (-6) t)
  many : ∃ t, mg "MANY" = some (.int (-7) t)
  noSuch : ∃ t, mg "NO_SUCH_READING" = some (.int (-8) t)
  leastN : ∃ t, mg "LEAST_N" = some (.int 2 t)
  mostN : ∃ t, mg "MOST_N" = some (.int 26 t)
  mostW : ∃ t, mg "MOST_WORDS" = some (.int 40 t)
  mostL : ∃ t, mg "MOST_LETTERS_FOR_NEED" = some (.int 10 t)
  mostR : ∃ t, mg "MOST_READINGS_FOR_NEED" = some (.int 100 t)
  mostX : ∃ t, mg "MOST_WORDS_FOR_NEAREST" = some (.int 5 t)
structure DeskAt (C : Addr) (H : Hp) (a W T D : Addr) (d : Uw63.Desk) : Prop where
  ins : ∃ dx, H a = some (.ins C dx (df d.n W T D))
  words : ∃ ws : List Addr, H W = some (.lst (ws.map V.ref)) ∧ TupsAt H ws d.list
  text : ∃ ts : List Addr, H T = some (.lst (ts.map V.ref)) ∧ TupsAt H ts d.text
  hints : H D = some (.dK (kvs d.hints))
  ne : W ≠ T
theorem DeskAt.same {C : Addr} {H H' : Hp} {a W T D : Addr} {d : Uw63.Desk} (h : DeskAt C H a W T D d) (s : Same H H') : DeskAt C H' a W T D d := by
  obtain ⟨⟨dx, h1⟩, ⟨ws, h2, h3⟩, ⟨ts, h4, h5⟩, h6, h7⟩ := h
  exact ⟨⟨dx, s _ _ h1⟩, ⟨ws, s _ _ h2, h3.same s⟩, ⟨ts, s _ _ h4, h5.same s⟩, s _ _ h6, h7⟩
theorem set_new {H : Hp} {p W : Addr} {x o o' : HO} (hp : H p = some x) (hW : H W = none) : (upd (upd H W o) p o') p = some o' ∧ (upd (upd H W o) p o') W = some o ∧ (∀ b v, H b = some v → b ≠ p → (upd (upd H W o) p o') b = some v) ∧ p ≠ W := by
  have h : p ≠ W := ne_of_none hp hW
  refine ⟨upd_same, ?_, fun b v e hb => ?_, h⟩
  · rw [upd_ne h.symm, upd_same]
  · rw [upd_ne hb, upd_ne (ne_of_none e hW)]
    exact e
theorem but_free {H H' : Hp} {p b : Addr} {x : HO} (s : ∀ b v, H b = some v → b ≠ p → H' b = some v) (hp : H' p = some x) (h : H' b = none) : H b = none := by
  cases e : H b with
  | none => rfl
  | some v =>
    have hb : b ≠ p := fun z => by
      rw [z, hp] at h
      cases h
    rw [s b v e hb] at h
    cases h
noncomputable def Ans (C : Addr) (H : Hp) (a W T D : Addr) (Q : VK) (x : Uw63.Desk × List Int) : Prop := ∀ (H' : Hp) (p W' T' D' : Addr), H' p = some (.lst (x.2.map V.int)) → H p = none → DeskAt C H' a W' T' D' x.1 → (∀ b o, H b = some o → b ≠ a → b ≠ W → b ≠ D → H' b = some o) →
  (W' = W ∨ H W' = none) → (T' = T ∨ H T' = none) → (D' = D ∨ H D' = none) → Q (.ref p) H'
theorem Ans.keep {C : Addr} {H : Hp} {a W T D : Addr} {Q : VK} {d : Uw63.Desk} {x : List Int} (k : Ans C H a W T D Q (d, x)) (h : DeskAt C H a W T D d) {H' : Hp} {p : Addr} (s : Same H H') (hp : H' p = some (.lst (x.map V.int))) (hn : H p = none) : Q (.ref p) H' :=
  k H' p W T D hp hn (h.same s) (fun b o e _ _ _ => s b o e) (.inl rfl) (.inl rfl) (.inl rfl)
theorem Ans.one {C : Addr} {H : Hp} {a W T D : Addr} {Q : VK} {d : Uw63.Desk} {x : Int} (k : Ans C H a W T D Q (d, [x])) (h : DeskAt C H a W T D d) {H' : Hp} (s : Same H H') : 1 ≤ sizeLine ∧ ∀ p, H' p = none → Q (.ref p) (upd H' p (.lst [.int x])) :=
  ⟨by decide, fun p hp => k.keep h (s.trans (same_new hp)) upd_same (s.free hp)⟩
inductive IspInit (C : Addr) (vs : List V) (H : Hp) (Q : VK) : Prop
  | mk (p dx : Addr) (h0 : vs = [.ref p]) (h1 : H p = some (.ins C dx [])) (h2 : ∀ (H' : Hp) (W T D : Addr), DeskAt C H' p W T D Uw63.init → (∀ b o, H b = some o → b ≠ p → H' b = some o) → H W = none → H T = none → H D = none → Q .non H')
noncomputable def spInit (C : Addr) : Sp := fun vs H Q _ => IspInit C  vs H Q
inductive IspBegins (C : Addr) (vs : List V) (H : Hp) (Q : VK) : Prop
  | mk (a W T D : Addr) (d : Uw63.Desk) (n : Nat) (h0 : vs = [.ref a, .int n]) (h1 : DeskAt C H a W T D d) (h2 : Ans C H a W T D Q (Uw63.step d (.begins n)))
noncomputable def spBegins (C : Addr) : Sp := fun vs H Q _ => IspBegins C  vs H Q
section
variable {P : Program} {w : World} {K : PySem.W.Frag} {mg : Str → Option Value} {base : Heap}
theorem scInit : FnScope ["self"] ["self"] (defScope sInit) := ⟨rfl, rfl, rfl, by decide +kernel, rfl, by decide +kernel, by decide +kernel⟩
theorem ok_init {f C : Addr} {fd : FuncData} (F : Fun K "__init__" "Desk.__init__" sInit f fd) (S : TxtK K mg C) (N : TxtN mg) : FnOk P w K mg base CX0 1 f fd ["self"] (spInit C) := by
  obtain ⟨tn, en⟩ := N.mostN
  refine F.ok scInit (fun vs H Q E h => ?_) (fun cdv A outer s H vs Q E hr h => ?_)
  · obtain ⟨p, dx, rfl, _⟩ := h
    rfl
  · obtain ⟨p, dx, rfl, hp, k⟩ := h
    refine ⟨_, pss_cons (ps_fld (pv 0) (pe_glob (by rfl) en (v := .int 26) ⟨_, rfl⟩) rfl) (pss_cons (ps_fld (pv 0) (pe_lst pa_nil) rfl) (pss_cons (ps_fld (pv 0) (pe_lst pa_nil) rfl) (pss_one (ps_fld (pv 0) pe_dnewK rfl)))), ?_⟩
    refine ⟨_, rfl, p, C, dx, _, rfl, hp, S.cl, S.nN, (by show 0 < 1000; decide), ?_⟩
    have q0 : (upd H p (.ins C dx (putF "n" (.int 26) []))) p = some (.ins C dx (putF "n" (.int 26) [])) := upd_same
    have z0 : ∀ b v, H b = some v → b ≠ p → (upd H p (.ins C dx (putF "n" (.int 26) []))) b = some v := fun b v e hb => by
      rw [upd_ne hb]
      exact e
    generalize upd H p (.ins C dx (putF "n" (.int 26) [])) = H0 at q0 z0 ⊢
    refine ⟨Nat.zero_le _, fun W hW => ⟨_, rfl, p, C, dx, putF "n" (.int 26) [], rfl, (same_new hW) _ _ q0, S.cl, S.nW, (by show 1 < 1000; decide), ?_⟩⟩
    obtain ⟨q1, w1, z1, n1⟩ := set_new (o := .lst []) (o' := .ins C dx (putF "words" (.ref W) (putF "n" (.int 26) []))) q0 hW
    generalize upd (upd H0 W (.lst [])) p (.ins C dx (putF "words" (.ref W) (putF "n" (.int 26) []))) = H1 at q1 w1 z1 ⊢
    refine ⟨Nat.zero_le _, fun T hT => ⟨_, rfl, p, C, dx, putF "words" (.ref W) (putF "n" (.int 26) []), rfl, (same_new hT) _ _ q1, S.cl, S.nT, (by show 2 < 1000; decide), ?_⟩⟩
    have nWT : W ≠ T := ne_of_none w1 hT
    obtain ⟨q2, t2, z2, n2⟩ := set_new (o := .lst []) (o' := .ins C dx (putF "written" (.ref T) (putF "words" (.ref W) (putF "n" (.int 26) [])))) q1 hT
    have hT0 := hT
    generalize upd (upd H1 T (.lst [])) p (.ins C dx (putF "written" (.ref T) (putF "words" (.ref W) (putF "n" (.int 26) [])))) = H2 at q2 t2 z2 ⊢
    have w2 := z2 _ _ w1 n1.symm
    refine fun D hD => ⟨_, rfl, p, C, dx, putF "written" (.ref T) (putF "words" (.ref W) (putF "n" (.int 26) [])), rfl, (same_new hD) _ _ q2, S.cl, S.nH, (by show 3 < 1000; decide), ?_⟩
    obtain ⟨q3, d3, z3, n3⟩ := set_new (o := .dK []) (o' := .ins C dx (putF "hints" (.ref D) (putF "written" (.ref T) (putF "words" (.ref W) (putF "n" (.int 26) []))))) q2 hD
    generalize upd (upd H2 D (.dK [])) p (.ins C dx (putF "hints" (.ref D) (putF "written" (.ref T) (putF "words" (.ref W) (putF "n" (.int 26) []))))) = H3 at q3 d3 z3 ⊢
    exact k H3 W T D ⟨⟨dx, q3⟩, ⟨[], z3 _ _ w2 n1.symm, .nil⟩, ⟨[], z3 _ _ t2 n2.symm, .nil⟩, d3, nWT⟩ (fun b o e hb => z3 _ _ (z2 _ _ (z1 _ _ (z0 _ _ e hb) hb) hb) hb) (but_free z0 q0 hW) (but_free z0 q0 (but_free z1 q1 hT)) (but_free z0 q0 (but_free z1 q1 (but_free z2 q2 hD)))
theorem scBegins : FnScope ["self", "n"] ["self", "n"] (defScope sBegins) := ⟨rfl, rfl, rfl, by decide +kernel, rfl, by decide +kernel, by decide +kernel⟩
theorem ok_begins {f C : Addr} {fd : FuncData} (F : Fun K "begins" "Desk.begins" sBegins f fd) (S : TxtK K mg C) (N : TxtN mg) : FnOk P w K mg base CX0 1 f fd ["self", "n"] (spBegins C) := by
  obtain ⟨tn, en⟩ := N.mostN
  obtain ⟨tl, el⟩ := N.leastN
  obtain ⟨tw, ew⟩ := N.wrong
  refine F.ok scBegins (fun vs H Q E h => ?_) (fun cdv A outer s H vs Q E hr h => ?_)
  · obtain ⟨a, W, T, D, d, n, rfl, _⟩ := h
    rfl
  · obtain ⟨a, W, T, D, d, n, rfl, hd, k⟩ := h
    refine ⟨_, pss_cons (ps_if (pt_not (pt_chain op_le op_le (pe_glob (by rfl) el (v := .int 2) ⟨_, rfl⟩) (pv 1) (pe_glob (by rfl) en (v := .int 26) ⟨_, rfl⟩))) (pss_one (ps_ret (pe_lst (pa_cons (pe_glob (by rfl) ew (v := .int (-1)) ⟨_, rfl⟩) pa_nil)))) pss_nil)
      (pss_cons (ps_fld (pv 0) (pv 1) rfl) (pss_cons (ps_fld (pv 0) (pe_lst pa_nil) rfl) (pss_cons (ps_fld (pv 0) (pe_lst pa_nil) rfl) (pss_cons (ps_fld (pv 0) pe_dnewK rfl) (pss_one (ps_ret (pe_lst (pa_cons pe_int pa_nil)))))))), ?_⟩
    refine ⟨_, rfl, _, _, rfl, rfl, _, rfl, ?_⟩
    rw [step_begins] at k
    have no : n < 2 ∨ 26 < n → 1 ≤ sizeLine ∧ ∀ p, H p = none → Q (.ref p) (upd H p (.lst [.int (-1)])) := fun z => by
      rw [if_pos z] at k
      exact k.one hd (Same.refl H)
    refine ite2 (fun h1 => ?_) fun h1 => ?_
    · have h1' : 2 ≤ n := by
        have := of_decide_eq_true h1
        omega
      refine ⟨_, _, rfl, rfl, _, rfl, ?_⟩
      refine ite2 (fun h2 => ?_) fun h2 => ?_
      · refine no (.inr ?_)
        have h2 : decide ((n : Int) ≤ 26) = false := by simpa using h2
        have := of_decide_eq_false h2
        omega
      · have h2' : n ≤ 26 := by
          have h2 : decide ((n : Int) ≤ 26) = true := by simpa using h2
          have := of_decide_eq_true h2
          omega
        rw [if_neg (by omega)] at k
        obtain ⟨⟨dx, h0⟩, _, _, _, _⟩ := hd
        refine ⟨_, rfl, _, rfl, a, C, dx, _, rfl, h0, S.cl, S.nN, (by show 4 < 1000; decide), ?_⟩
        have q0 : (upd H a (.ins C dx (putF "n" (.int n) (df d.n W T D)))) a = some (.ins C dx (df n W T D)) := by
          rw [upd_same, df_put_n]
        have z0 : ∀ b v, H b = some v → b ≠ a → (upd H a (.ins C dx (putF "n" (.int n) (df d.n W T D)))) b = some v := fun b v e hb => by
          rw [upd_ne hb]
          exact e
        generalize upd H a (.ins C dx (putF "n" (.int n) (df d.n W T D))) = H0 at q0 z0 ⊢
        refine ⟨Nat.zero_le _, fun W' hW => ⟨_, rfl, a, C, dx, _, rfl, (same_new hW) _ _ q0, S.cl, S.nW, (by show 4 < 1000; decide), ?_⟩⟩
        rw [df_put_words]
        obtain ⟨q1, w1, z1, n1⟩ := set_new (o := .lst []) (o' := .ins C dx (df n W' T D)) q0 hW
        generalize upd (upd H0 W' (.lst [])) a (.ins C dx (df n W' T D)) = H1 at q1 w1 z1 ⊢
        refine ⟨Nat.zero_le _, fun T' hT => ⟨_, rfl, a, C, dx, _, rfl, (same_new hT) _ _ q1, S.cl, S.nT, (by show 4 < 1000; decide), ?_⟩⟩
        rw [df_put_written]
        have nWT : W' ≠ T' := ne_of_none w1 hT
        obtain ⟨q2, t2, z2, n2⟩ := set_new (o := .lst []) (o' := .ins C dx (df n W' T' D)) q1 hT
        generalize upd (upd H1 T' (.lst [])) a (.ins C dx (df n W' T' D)) = H2 at q2 t2 z2 ⊢
        have w2 := z2 _ _ w1 n1.symm
        refine fun D' hD => ⟨_, rfl, a, C, dx, _, rfl, (same_new hD) _ _ q2, S.cl, S.nH, (by show 4 < 1000; decide), ?_⟩
        rw [df_put_hints]
        obtain ⟨q3, d3, z3, n3⟩ := set_new (o := .dK []) (o' := .ins C dx (df n W' T' D')) q2 hD
        generalize upd (upd H2 D' (.dK [])) a (.ins C dx (df n W' T' D')) = H3 at q3 d3 z3 ⊢
        have f0 : ∀ b, H3 b = none → H b = none := fun b hb => but_free z0 q0 (but_free z1 q1 (but_free z2 q2 (but_free z3 q3 hb)))
        refine ⟨by show 1 ≤ sizeLine; decide, fun p hp => ?_⟩
        have s4 := same_new (o := .lst [.int 0]) hp
        refine k _ p W' T' D' upd_same (f0 p hp) (DeskAt.same ⟨⟨dx, q3⟩, ⟨[], z3 _ _ w2 n1.symm, .nil⟩, ⟨[], z3 _ _ t2 n2.symm, .nil⟩, d3, nWT⟩ s4) (fun b o e hb _ _ => s4 _ _ (z3 _ _ (z2 _ _ (z1 _ _ (z0 _ _ e hb) hb) hb) hb)) (.inr (but_free z0 q0 hW)) (.inr (but_free z0 q0 (but_free z1 q1 hT))) (.inr (but_free z0 q0 (but_free z1 q1 (but_free z2 q2 hD))))
    · refine ⟨_, rfl, iteT (no (.inl ?_))⟩
      have q : ¬ ((2 : Int) ≤ (n : Int)) := fun z => h1 (decide_eq_true z)
      omega
end
end LX
end
section
set_option Elab.async false
set_option linter.all false
set_option maxRecDepth 100000
set_option maxHeartbeats 2000000
namespace LX
open PySem PySem.Spec PyProof.Rows L2 LM1
theorem TupsAt.rows {K : PySem.W.Frag} {H : Hp} : ∀ {as : List Addr} {ws : List (List Nat)}, TupsAt H as ws → Rows K H as (ws.map zi)
  | _, _, .nil => .nil
  | _, _, .cons r t => .cons (SqT.of r) (TupsAt.rows t)
theorem zi_inj {a b : List Nat} (h : zi a = zi b) : a = b := (List.map_inj_right fun x y z => Int.ofNat.inj z).mp h
theorem mem_zi {l : List Nat} {ws : List (List Nat)} : decide (zi l ∈ ws.map zi) = ws.contains l := by
  rw [Bool.eq_iff_iff, decide_eq_true_eq, List.contains_iff_mem]
  constructor
  · intro h
    obtain ⟨x, hx, e⟩ := List.mem_map.mp h
    rw [← zi_inj e]
    exact hx
  · intro h
    exact List.mem_map.mpr ⟨l, h, rfl⟩
inductive IspWord (K : PySem.W.Frag) (C : Addr) (vs : List V) (H : Hp) (Q : VK) : Prop
  | mk (a W T D l : Addr) (d : Uw63.Desk) (ms : List Nat) (h0 : vs = [.ref a, .ref l]) (h1 : DeskAt C H a W T D d) (h2 : WF d) (h3 : SqL K H l (zs ms)) (h4 : Ans C H a W T D Q (Uw63.step d (.word ms)))
noncomputable def spWord (K : PySem.W.Frag) (C : Addr) : Sp := fun vs H Q _ => IspWord K  C  vs H Q
inductive IspText (K : PySem.W.Frag) (C : Addr) (vs : List V) (H : Hp) (Q : VK) : Prop
  | mk (a W T D l : Addr) (d : Uw63.Desk) (ms : List Nat) (h0 : vs = [.ref a, .ref l]) (h1 : DeskAt C H a W T D d) (h2 : WF d) (h3 : SqL K H l (zs ms)) (h4 : ms.length ≤ 7000) (h5 : Ans C H a W T D Q (Uw63.step d (.text ms)))
noncomputable def spText (K : PySem.W.Frag) (C : Addr) : Sp := fun vs H Q _ => IspText K  C  vs H Q
inductive IspHint (C : Addr) (vs : List V) (H : Hp) (Q : VK) : Prop
  | mk (a W T D : Addr) (d : Uw63.Desk) (c p : Nat) (h0 : vs = [.ref a, .int c, .int p]) (h1 : DeskAt C H a W T D d) (h2 : WF d) (h3 : d.text ≠ []) (h4 : Ans C H a W T D Q (Uw63.step d (.hint c p)))
noncomputable def spHint (C : Addr) : Sp := fun vs H Q _ => IspHint C  vs H Q
section
variable {P : Program} {w : World} {K : PySem.W.Frag} {mg : Str → Option Value} {base : Heap}
theorem scWord : FnScope ["self", "letters"] ["self", "letters"] (defScope sWord) := ⟨rfl, rfl, rfl, by decide +kernel, rfl, by decide +kernel, by decide +kernel⟩
theorem ok_word {f C fW : Addr} {fd fdW : FuncData} (F : Fun K "word" "Desk.word" sWord f fd) (S : TxtK K mg C) (N : TxtN mg) (T : TxtA mg) (FW : Fun K "is_word" "is_word" sIsWord fW fdW) (bW : Binds K fdW ["letters", "n"] []) (mW : mg "is_word" = some (.ref fW)) :
    FnOk P w K mg base CX0 2 f fd ["self", "letters"] (spWord K C) := by
  have GW : FnOk P w K mg base CX0 1 fW fdW ["letters", "n"] (spIsWord K) := ok_isWord FW T
  obtain ⟨tw, ew⟩ := N.wrong
  obtain ⟨tt, et⟩ := N.there
  obtain ⟨tf, ef⟩ := N.full
  obtain ⟨tm, em⟩ := N.mostW
  refine F.ok scWord (fun vs H Q E h => ?_) (fun cdv A outer s H vs Q E hr h => ?_)
  · obtain ⟨a, W, Tx, D, l, d, ms, rfl, _⟩ := h
    rfl
  · obtain ⟨a, W, Tx, D, l, d, ms, rfl, hd, hw, hl, k⟩ := h
    have hu := hu_of hr
    refine ⟨_, pss_cons (ps_if (pt_not (pt_val (pe_call GW hr rfl mW FW.kp bW .nil pass0 (pa_cons (pv 1) (pa_cons (pe_fld (pv 0) rfl) pa_nil))))) (pss_one (ps_ret (pe_lst (pa_cons (pe_glob (by rfl) ew (v := .int (-1)) ⟨_, rfl⟩) pa_nil)))) pss_nil)
      (pss_cons (ps_if (pt_cmpR (op_in_rows hu) (pe_callTy call_tuple_of (by rfl) T.tuple boot_tuple5 (pa_cons (pv 1) pa_nil)) (pe_fld (pv 0) rfl) rfl) (pss_one (ps_ret (pe_lst (pa_cons (pe_glob (by rfl) et (v := .int (-4)) ⟨_, rfl⟩) pa_nil)))) pss_nil)
      (pss_cons (ps_if (pt_cmpR op_eq (pe_callB call_len_seq (by rfl) T.len PySem.boot_len (pa_cons (pe_fld (pv 0) rfl) pa_nil)) (pe_glob (by rfl) em (v := .int 40) ⟨_, rfl⟩) (nomark _)) (pss_one (ps_ret (pe_lst (pa_cons (pe_glob (by rfl) ef (v := .int (-5)) ⟨_, rfl⟩) pa_nil)))) pss_nil)
      (pss_cons (ps_expr (pe_bm PySem.F.plainAttrs_list PySem.F.slot_list_append PySem.F.type_list_append mt_append (pe_fld (pv 0) rfl) (pa_cons (pe_callTy call_tuple_of (by rfl) T.tuple boot_tuple5 (pa_cons (pv 1) pa_nil)) pa_nil)))
      (pss_one (ps_ret (pe_lst (pa_cons (pe_op op_sub (pe_callB call_len_seq (by rfl) T.len PySem.boot_len (pa_cons (pe_fld (pv 0) rfl) pa_nil)) pe_int) pa_nil))))))), ?_⟩
    have hd0 := hd
    obtain ⟨⟨dx, h0⟩, ⟨ws, hW, hWs⟩, ⟨ts, hT, hTs⟩, hD, hne⟩ := hd
    rw [step_word] at k
    refine ⟨_, rfl, _, rfl, a, C, dx, _, _, rfl, h0, S.cl, S.nN, df_n, l, ms, d.n, rfl, hl, _, rfl, ?_⟩
    refine ite2 (fun h1 => ?_) fun h1 => ?_
    · rw [if_pos (by simpa using h1)] at k
      exact k.one hd0 (Same.refl H)
    rw [if_neg (by simpa using h1)] at k
    refine ⟨_, rfl, l, _, rfl, .inl ⟨hl, fun tp htp => ⟨_, rfl, a, C, dx, _, _, rfl, (same_new htp) _ _ h0, S.cl, S.nW, df_words, tp, W, ws, zi ms, d.list.map zi, rfl, SqT.of upd_same, rfl, SqL.of ((same_new htp) _ _ hW), (hWs.same (same_new htp)).rows, _, rfl, ?_⟩⟩⟩
    have s1 := same_new (o := .tup (zs ms)) htp
    generalize upd H tp (.tup (zs ms)) = H1 at s1 ⊢
    have e1 : (if false = true then !decide (zi ms ∈ d.list.map zi) else decide (zi ms ∈ d.list.map zi)) = d.list.contains ms := by
      rw [if_neg Bool.false_ne_true, mem_zi]
    rw [e1]
    refine ite2 (fun h2 => ?_) fun h2 => ?_
    · rw [if_pos h2] at k
      exact k.one hd0 s1
    rw [if_neg h2] at k
    refine ⟨_, rfl, a, C, dx, _, _, rfl, s1 _ _ h0, S.cl, S.nW, df_words, W, _, rfl, .inl (SqL.of (s1 _ _ hW)), rfl, _, rfl, ?_⟩
    rw [List.length_map, hWs.len]
    have hll := hw.ll
    refine ite2 (fun h3 => ?_) fun h3 => ?_
    · have h3' : d.list.length = 40 := by
        have := of_decide_eq_true h3
        injection this with this
        omega
      rw [if_pos (by omega)] at k
      exact k.one hd0 s1
    have h3' : d.list.length < 40 := by
      refine Nat.lt_of_not_le fun z => h3 (decide_eq_true ?_)
      have : d.list.length = 40 := by omega
      rw [this]
      rfl
    rw [if_neg (by omega)] at k
    refine ⟨_, rfl, a, C, dx, _, _, rfl, s1 _ _ h0, S.cl, S.nW, df_words, .inl ⟨rfl, _, SqL.of (s1 _ _ hW)⟩, _, rfl, l, _, rfl, .inl ⟨s1.seq hl, fun t2 ht2 => ?_⟩⟩
    have s2 := s1.trans (same_new (o := .tup (zs ms)) ht2)
    have hq2 : (upd H1 t2 (.tup (zs ms))) t2 = some (.tup (zs ms)) := upd_same
    have ht2n : H t2 = none := s1.free ht2
    generalize upd H1 t2 (.tup (zs ms)) = H2 at s2 hq2 ⊢
    refine ⟨W, _, _, rfl, rfl, s2 _ _ hW, by rw [List.length_map, hWs.len]; exact small1000' (by omega), ?_⟩
    have naW : a ≠ W := fun z => by
      rw [z, hW] at h0
      cases h0
    have nDW : D ≠ W := fun z => by
      rw [z, hW] at hD
      cases hD
    have z3 : ∀ b v, H b = some v → b ≠ W → (upd H2 W (.lst (ws.map V.ref ++ [V.ref t2]))) b = some v := fun b v e hb => by
      rw [upd_ne hb]
      exact s2 _ _ e
    have w3 : (upd H2 W (.lst (ws.map V.ref ++ [V.ref t2]))) W = some (.lst ((ws ++ [t2]).map V.ref)) := by
      rw [upd_same, List.map_append]
      rfl
    have tu3 : TupsAt (upd H2 W (.lst (ws.map V.ref ++ [V.ref t2]))) (ws ++ [t2]) (d.list ++ [ms]) := (TupsAt.snoc (hWs.same s2) hq2).upd fun xs z => by
      rw [s2 _ _ hW] at z
      cases z
    have tt3 : TupsAt (upd H2 W (.lst (ws.map V.ref ++ [V.ref t2]))) ts d.text := (hTs.same s2).upd fun xs z => by
      rw [s2 _ _ hW] at z
      cases z
    have f3 : ∀ b, (upd H2 W (.lst (ws.map V.ref ++ [V.ref t2]))) b = none → H b = none := fun b hb => by
      by_cases e : b = W
      · rw [e, upd_same] at hb
        cases hb
      · rw [upd_ne e] at hb
        exact s2.free hb
    generalize upd H2 W (.lst (ws.map V.ref ++ [V.ref t2])) = H3 at z3 w3 tu3 tt3 f3 ⊢
    refine ⟨_, rfl, a, C, dx, _, _, rfl, z3 _ _ h0 naW, S.cl, S.nW, df_words, W, _, rfl, .inl (SqL.of w3), _, _, rfl, rfl, by show 1 ≤ sizeLine; decide, fun p hp => ?_⟩
    have s4 := same_new (o := .lst [V.int ((((ws ++ [t2]).map V.ref).length : Int) - 1)]) hp
    refine k _ p W Tx D ?_ (f3 p hp) (DeskAt.same ⟨⟨dx, z3 _ _ h0 naW⟩, ⟨ws ++ [t2], w3, tu3⟩, ⟨ts, z3 _ _ hT hne.symm, tt3⟩, z3 _ _ hD nDW, hne⟩ s4) (fun b o e _ hb _ => s4 _ _ (z3 _ _ e hb)) (.inl rfl) (.inl rfl) (.inl rfl)
    rw [upd_same, List.length_map, List.length_append, hWs.len]
    show some (HO.lst [V.int (((d.list.length + 1 : Nat) : Int) - 1)]) = some (HO.lst [V.int (d.list.length : Int)])
    congr 4
    omega
end
end LX
end
section
set_option Elab.async false
set_option linter.all false
set_option maxRecDepth 100000
set_option maxHeartbeats 2000000
namespace LX
open PySem PySem.Spec PyProof.Rows L2 LM1
theorem kvs_in {k : Uw63.Key} {c p : Nat} : (k.any fun x => x.1 == c || x.2 == p) = ((Uw63.standsFor k c).isSome || (k.map (·.2)).contains p) := by
  rw [Bool.eq_iff_iff, List.any_eq_true, Bool.or_eq_true, List.contains_iff_mem]
  constructor
  · rintro ⟨x, hx, e⟩
    rcases (Bool.or_eq_true _ _).mp e with e | e
    · refine .inl ?_
      cases h : Uw63.standsFor k c with
      | none => exact absurd (List.mem_map.mpr ⟨x, hx, by simpa using e⟩) (stands_none.mp h)
      | some q => rfl
    · exact .inr (List.mem_map.mpr ⟨x, hx, by simpa using e⟩)
  · rintro (h | h)
    · obtain ⟨q, hq⟩ := Option.isSome_iff_exists.mp h
      exact ⟨_, stands_mem hq, by simp⟩
    · obtain ⟨x, hx, e⟩ := List.mem_map.mp h
      exact ⟨x, hx, by simp [e]⟩
section
variable {P : Program} {w : World} {K : PySem.W.Frag} {mg : Str → Option Value} {base : Heap}
theorem scText : FnScope ["self", "told", "written"] ["self", "told"] (defScope sText) := ⟨rfl, rfl, rfl, by decide +kernel, rfl, by decide +kernel, by decide +kernel⟩
theorem ok_text {f C fT fU fW : Addr} {fd fdT fdU fdW : FuncData} (F : Fun K "text" "Desk.text" sText f fd) (S : TxtK K mg C) (N : TxtN mg) (T : TxtA mg) (FT : Fun K "words_told" "words_told" sWordsTold fT fdT) (bT : Binds K fdT ["told", "n"] []) (mT : mg "words_told" = some (.ref fT))
    (FU : Fun K "unlike_letters" "unlike_letters" sUnlike fU fdU) (bU : Binds K fdU ["words"] []) (mU : mg "unlike_letters" = some (.ref fU)) (FW : Fun K "is_word" "is_word" sIsWord fW fdW) (bW : Binds K fdW ["letters", "n"] []) (mW : mg "is_word" = some (.ref fW)) :
    FnOk P w K mg base CX0 3 f fd ["self", "told"] (spText K C) := by
  have GT : FnOk P w K mg base CX0 2 fT fdT ["told", "n"] (spWordsTold K) := ok_wordsTold FT T FW bW mW
  have GU : FnOk P w K mg base CX0 2 fU fdU ["words"] (spUnlike K) := (ok_unlike FU T).mono (by decide)
  obtain ⟨tw, ew⟩ := N.wrong
  refine F.ok scText (fun vs H Q E h => ?_) (fun cdv A outer s H vs Q E hr h => ?_)
  · obtain ⟨a, W, Tx, D, l, d, ms, rfl, _⟩ := h
    rfl
  · obtain ⟨a, W, Tx, D, l, d, ms, rfl, hd, hw, hl, hlm, k⟩ := h
    refine ⟨_, pss_cons (ps_set (i := 2) scText.nd rfl (Or.inl rfl) (pe_call GT hr rfl mT FT.kp bT .nil pass0 (pa_cons (pv 1) (pa_cons (pe_fld (pv 0) rfl) pa_nil))))
      (pss_cons (ps_if (pt_cmpR op_isN (pv 2) pe_non (nomark _)) (pss_one (ps_ret (pe_lst (pa_cons (pe_glob (by rfl) ew (v := .int (-1)) ⟨_, rfl⟩) pa_nil)))) pss_nil)
      (pss_cons (ps_fld (pv 0) (pv 2) rfl)
      (pss_cons (ps_fld (pv 0) pe_dnewK rfl)
      (pss_one (ps_ret (pe_lst (pa_cons (pe_callB call_len_seq (by rfl) T.len PySem.boot_len (pa_cons (pe_call GU hr rfl mU FU.kp bU .nil pass0 (pa_cons (pv 2) pa_nil)) pa_nil)) pa_nil))))))), ?_⟩
    have hd0 := hd
    obtain ⟨⟨dx, h0⟩, ⟨ws, hW, hWs⟩, ⟨ts, hT, hTs⟩, hD, hne⟩ := hd
    rw [textOf_step] at k
    refine ⟨_, rfl, _, rfl, a, C, dx, _, _, rfl, h0, S.cl, S.nN, df_n, l, ms, d.n, rfl, hl, hlm, fun e H1 s1 => ?_, fun wt e H1 T' ts' s1 hT'0 hT' hTs' hts'n => ?_⟩
    · rw [e] at k
      exact ⟨_, rfl, rfl, _, rfl, iteT (k.one hd0 s1)⟩
    rw [e] at k
    have q := textOf_ok e
    refine ⟨_, rfl, rfl, _, rfl, iteF ?_⟩
    refine ⟨_, rfl, _, rfl, a, C, dx, _, rfl, s1 _ _ h0, S.cl, S.nT, (by show 4 < 1000; decide), ?_⟩
    rw [df_put_written]
    have naT : a ≠ T' := ne_of_none h0 hT'0
    have nWT : W ≠ T' := ne_of_none hW hT'0
    have naW : a ≠ W := fun z => by
      rw [z, hW] at h0
      cases h0
    have q2 : (upd H1 a (.ins C dx (df d.n W T' D))) a = some (.ins C dx (df d.n W T' D)) := upd_same
    have z2 : ∀ b v, H1 b = some v → b ≠ a → (upd H1 a (.ins C dx (df d.n W T' D))) b = some v := fun b v e hb => by
      rw [upd_ne hb]
      exact e
    have t2 : TupsAt (upd H1 a (.ins C dx (df d.n W T' D))) ts' wt := hTs'.upd fun xs z => by
      rw [s1 _ _ h0] at z
      cases z
    have l2 : TupsAt (upd H1 a (.ins C dx (df d.n W T' D))) ws d.list := (hWs.same s1).upd fun xs z => by
      rw [s1 _ _ h0] at z
      cases z
    generalize upd H1 a (.ins C dx (df d.n W T' D)) = H2 at q2 z2 t2 l2 ⊢
    refine fun D' hD' => ⟨_, rfl, a, C, dx, _, rfl, (same_new hD') _ _ q2, S.cl, S.nH, (by show 4 < 1000; decide), ?_⟩
    rw [df_put_hints]
    obtain ⟨q3, d3, z3, n3⟩ := set_new (o := .dK []) (o' := .ins C dx (df d.n W T' D')) q2 hD'
    have t3 : TupsAt (upd (upd H2 D' (.dK [])) a (.ins C dx (df d.n W T' D'))) ts' wt := TupsAt.upd (t2.same (same_new hD')) fun xs z => by
      rw [(same_new hD') _ _ q2] at z
      cases z
    have l3 : TupsAt (upd (upd H2 D' (.dK [])) a (.ins C dx (df d.n W T' D'))) ws d.list := TupsAt.upd (l2.same (same_new hD')) fun xs z => by
      rw [(same_new hD') _ _ q2] at z
      cases z
    generalize upd (upd H2 D' (.dK [])) a (.ins C dx (df d.n W T' D')) = H3 at q3 d3 z3 t3 l3 ⊢
    have T3 : H3 T' = some (.lst (ts'.map V.ref)) := z3 _ _ (z2 _ _ hT' naT.symm) naT.symm
    have W3 : H3 W = some (.lst (ws.map V.ref)) := z3 _ _ (z2 _ _ (s1 _ _ hW) naW.symm) naW.symm
    refine ⟨_, rfl, T', ts', wt, d.n, rfl, T3, t3, q.2.2.1, hw.n, Nat.le_trans (flat8 q.2.1 q.2.2.2) (by decide), fun H4 u s4 hu4 hu5 => ⟨u, _, rfl, .inl (SqL.of hu5), by show 1 ≤ sizeLine; decide, fun p hp => ?_⟩⟩
    have s5 := s4.trans (same_new (o := .lst [V.int ((zs (lets d.n wt)).length : Int)]) hp)
    have f0 : ∀ b, H4 b = none → H b = none := fun b hb => s1.free (but_free z2 q2 (but_free z3 q3 (s4.free hb)))
    refine k _ p W T' D' ?_ (f0 p hp) (DeskAt.same ⟨⟨dx, q3⟩, ⟨ws, W3, l3⟩, ⟨ts', T3, t3⟩, d3, nWT⟩ s5) (fun b o e hb _ _ => s5 _ _ (z3 _ _ (z2 _ _ (s1 _ _ e) hb) hb)) (.inl rfl) (.inr hT'0) (.inr (s1.free (but_free z2 q2 hD')))
    rw [upd_same, zs_len]
    rfl
theorem scHint : FnScope ["self", "letter", "meant"] ["self", "letter", "meant"] (defScope sHint) := ⟨rfl, rfl, rfl, by decide +kernel, rfl, by decide +kernel, by decide +kernel⟩
theorem ok_hint {f C fU : Addr} {fd fdU : FuncData} (F : Fun K "hint" "Desk.hint" sHint f fd) (S : TxtK K mg C) (N : TxtN mg) (T : TxtA mg) (U : TxtB mg) (FU : Fun K "unlike_letters" "unlike_letters" sUnlike fU fdU) (bU : Binds K fdU ["words"] []) (mU : mg "unlike_letters" = some (.ref fU)) :
    FnOk P w K mg base CX0 2 f fd ["self", "letter", "meant"] (spHint C) := by
  have GU : FnOk P w K mg base CX0 1 fU fdU ["words"] (spUnlike K) := ok_unlike FU T
  obtain ⟨tw, ew⟩ := N.wrong
  obtain ⟨tt, et⟩ := N.there
  obtain ⟨ti, ei⟩ := N.notIn
  refine F.ok scHint (fun vs H Q E h => ?_) (fun cdv A outer s H vs Q E hr h => ?_)
  · obtain ⟨a, W, Tx, D, d, c, p, rfl, _⟩ := h
    rfl
  · obtain ⟨a, W, Tx, D, d, c, p, rfl, hd, hw, hne0, k⟩ := h
    have hu := hu_of hr
    refine ⟨_, pss_cons (ps_if (pt_cmpR op_notIn_seq (pv 1) (pe_call GU hr rfl mU FU.kp bU .nil pass0 (pa_cons (pe_fld (pv 0) rfl) pa_nil)) rfl) (pss_one (ps_ret (pe_lst (pa_cons (pe_glob (by rfl) ei (v := .int (-2)) ⟨_, rfl⟩) pa_nil)))) pss_nil)
      (pss_cons (ps_if (pt_cmpR op_ge (pv 2) (pe_fld (pv 0) rfl) (nomark _)) (pss_one (ps_ret (pe_lst (pa_cons (pe_glob (by rfl) ew (v := .int (-1)) ⟨_, rfl⟩) pa_nil)))) pss_nil)
      (pss_cons (ps_if (PW.pt (pw_or (pt_cmp (pc_din hu (pv 1) (pe_fld (pv 0) rfl))) (pw_or1 (pt_cmpR op_in_seq (pv 2) (pe_vals rfl (by rfl) U.list (pe_fld (pv 0) rfl)) rfl)))) (pss_one (ps_ret (pe_lst (pa_cons (pe_glob (by rfl) et (v := .int (-4)) ⟨_, rfl⟩) pa_nil)))) pss_nil)
      (pss_cons (ps_dput hu (pe_fld (pv 0) rfl) (pv 1) (pv 2) rfl)
      (pss_one (ps_ret (pe_lst (pa_cons pe_int pa_nil))))))), ?_⟩
    have hd0 := hd
    obtain ⟨⟨dx, h0⟩, ⟨ws, hW, hWs⟩, ⟨ts, hT, hTs⟩, hD, hne⟩ := hd
    have het : ¬ d.text.isEmpty = true := by
      cases e : d.text with
      | nil => exact absurd e hne0
      | cons x r => simp
    rw [step_hint, if_neg het] at k
    refine ⟨_, rfl, _, rfl, a, C, dx, _, _, rfl, h0, S.cl, S.nT, df_written, Tx, ts, d.text, d.n, rfl, hT, hTs, hw.tb, hw.n, hw.flat, fun H1 u s1 hu1 hu2 => ⟨u, _, rfl, .inl (SqL.of hu2), rfl, flat_zs _, _, rfl, ?_⟩⟩
    rw [inV_zs]
    show if (!(lets d.n d.text).contains c) = true then _ else _
    rw [letters_lets] at k
    refine ite2 (fun h1 => ?_) fun h1 => ?_
    · rw [if_pos (by simpa using h1)] at k
      exact k.one hd0 s1
    rw [if_neg (by simpa using h1)] at k
    refine ⟨_, rfl, _, rfl, a, C, dx, _, _, rfl, s1 _ _ h0, S.cl, S.nN, df_n, _, _, rfl, rfl, _, rfl, ?_⟩
    refine ite2 (fun h2 => ?_) fun h2 => ?_
    · have h2' : d.n ≤ p := by
        have := of_decide_eq_true h2
        omega
      rw [if_pos h2'] at k
      exact k.one hd0 s1
    have h2' : ¬ d.n ≤ p := fun z => h2 (decide_eq_true (by show (p : Int) ≥ (d.n : Int); omega))
    rw [if_neg h2', kvs_in] at k
    refine ⟨_, rfl, _, rfl, a, C, dx, _, _, rfl, s1 _ _ h0, S.cl, S.nH, df_hints, D, _, rfl, DGet.k (k := Sum.inl (c : Int)) (s1 _ _ hD), _, rfl, ?_⟩
    rw [kvs_val]
    cases es : Uw63.standsFor d.hints c with
    | some r =>
      rw [es] at k
      exact iteT (iteT (k.one hd0 s1))
    | none =>
      rw [es] at k
      refine iteF ⟨_, rfl, _, rfl, a, C, dx, _, _, rfl, s1 _ _ h0, S.cl, S.nH, df_hints, D, _, rfl, .inl (s1 _ _ hD), fun vl hvl => ?_⟩
      rw [kvs_vals]
      have s2 := s1.trans (same_new (o := .lst (zs (d.hints.map (·.2)))) hvl)
      have hvl2 : (upd H1 vl (.lst (zs (d.hints.map (·.2))))) vl = some (.lst (zs (d.hints.map (·.2)))) := upd_same
      generalize upd H1 vl (.lst (zs (d.hints.map (·.2)))) = H2 at s2 hvl2 ⊢
      refine ⟨vl, _, rfl, .inl (SqL.of hvl2), rfl, flat_zs _, _, rfl, ?_⟩
      rw [inV_zs]
      show if ((d.hints.map (·.2)).contains p) = true then _ else _
      refine ite2 (fun h3 => ?_) fun h3 => ?_
      · rw [if_pos (by rw [h3]; rfl)] at k
        exact k.one hd0 s2
      rw [if_neg (by rw [Bool.eq_false_iff.mpr h3]; exact Bool.false_ne_true)] at k
      have hhl := hw.hl
      refine ⟨_, rfl, _, rfl, a, C, dx, _, _, rfl, s2 _ _ h0, S.cl, S.nH, df_hints, _, rfl, D, _, rfl, DPut.k (k := Sum.inl (c : Int)) (s2 _ _ hD) (by rw [kvs_len]; exact small1000' (by omega)), ?_⟩
      have eput : putK (kvs d.hints) (Sum.inl (c : Int)) (V.int (p : Int)) = kvs (d.hints ++ [(c, p)]) := kvs_put hw.kn (by unfold add1; rw [es])
      rw [eput]
      have naD : a ≠ D := fun z => by
        rw [z, hD] at h0
        cases h0
      have nWD : W ≠ D := fun z => by
        rw [z, hD] at hW
        cases hW
      have nTD : Tx ≠ D := fun z => by
        rw [z, hD] at hT
        cases hT
      have z3 : ∀ b v, H b = some v → b ≠ D → (upd H2 D (.dK (kvs (d.hints ++ [(c, p)])))) b = some v := fun b v e hb => by
        rw [upd_ne hb]
        exact s2 _ _ e
      have d3 : (upd H2 D (.dK (kvs (d.hints ++ [(c, p)])))) D = some (.dK (kvs (d.hints ++ [(c, p)]))) := upd_same
      have l3 : TupsAt (upd H2 D (.dK (kvs (d.hints ++ [(c, p)])))) ws d.list := (hWs.same s2).upd fun xs z => by
        rw [s2 _ _ hD] at z
        cases z
      have t3 : TupsAt (upd H2 D (.dK (kvs (d.hints ++ [(c, p)])))) ts d.text := (hTs.same s2).upd fun xs z => by
        rw [s2 _ _ hD] at z
        cases z
      have f3 : ∀ b, (upd H2 D (.dK (kvs (d.hints ++ [(c, p)])))) b = none → H b = none := fun b hb => by
        by_cases e : b = D
        · rw [e, upd_same] at hb
          cases hb
        · rw [upd_ne e] at hb
          exact s2.free hb
      generalize upd H2 D (.dK (kvs (d.hints ++ [(c, p)]))) = H3 at z3 d3 l3 t3 f3 ⊢
      refine ⟨by show 1 ≤ sizeLine; decide, fun r hr0 => ?_⟩
      have s4 := same_new (o := .lst [V.int 0]) hr0
      exact k _ r W Tx D upd_same (f3 r hr0) (DeskAt.same ⟨⟨dx, z3 _ _ h0 naD⟩, ⟨ws, z3 _ _ hW nWD, l3⟩, ⟨ts, z3 _ _ hT nTD, t3⟩, d3, hne⟩ s4) (fun b o e _ _ hb => s4 _ _ (z3 _ _ e hb)) (.inl rfl) (.inl rfl) (.inl rfl)
end
end LX
end
section
set_option Elab.async false
set_option linter.all false
set_option maxRecDepth 100000
set_option maxHeartbeats 2000000
namespace LX
open PySem PySem.Spec PyProof.Rows L2 LM1
noncomputable def ansNearest (d : Uw63.Desk) : List Int := if 5 < d.text.length then [-5] else ((Uw63.nearest d).1 : Int) :: ((Uw63.nearest d).2.1 : Int) :: Uw63.ints (Uw63.nearest d).2.2
noncomputable def ansShapes (d : Uw63.Desk) (i : Nat) : List Int := match d.text[i]? with
  | none => [-2]
  | some c => Uw63.counted (fits d.list d.hints c)
noncomputable def ansReadings (d : Uw63.Desk) (l : List Uw63.Way) : List Int := (l.length : Int) :: (match l with
  | [] => []
  | w :: _ => Uw63.ints (Uw63.told d w))
structure Found (H : Hp) (p : Addr) (d : Uw63.Desk) (l : List Uw63.Way) : Prop where
  at_ : ∃ ds : List Addr, H p = some (.lst (ds.map V.ref)) ∧ DictsAt H ds (l.map (·.key))
  rd : Uw63.readings d = some l
theorem Found.len {H : Hp} {p : Addr} {d : Uw63.Desk} {l : List Uw63.Way} (f : Found H p d l) : l.length ≤ 2000 := by
  have e := readings_key d
  rw [f.rd] at e
  have := readK_len (by simp) e.symm
  rw [List.length_map] at this
  exact this
theorem Found.ok {H : Hp} {p : Addr} {d : Uw63.Desk} {l : List Uw63.Way} (f : Found H p d l) (w : WF d) : (∀ x ∈ l, WOk d.list d.hints d.text x) ∧ Apart l := readings_ok w.kn w.vn f.rd
theorem Found.has {H : Hp} {p : Addr} {d : Uw63.Desk} {l : List Uw63.Way} (f : Found H p d l) (w : WF d) {c : Nat} (hc : c ∈ Uw63.letters d) {x : Uw63.Way} (hx : x ∈ l) : ∃ v, Uw63.standsFor x.key c = some v ∧ v < d.n := by
  rw [letters_lets] at hc
  obtain ⟨o, ho, hco⟩ := (mem_lets w.tb c).mp hc
  have q := (f.ok w).1 x hx
  obtain ⟨v, hv⟩ := q.stands ho hco
  refine ⟨v, hv, ?_⟩
  rcases q.src _ (stands_mem hv) with z | ⟨t, ht, hm⟩
  · exact w.hv _ z
  · exact (w.lw t ht).2 v hm
inductive IspNearest (C : Addr) (vs : List V) (H : Hp) (Q : VK) : Prop
  | mk (a W T D : Addr) (d : Uw63.Desk) (h0 : vs = [.ref a]) (h1 : DeskAt C H a W T D d) (h2 : WF d) (h3 : Ans C H a W T D Q (d, ansNearest d))
noncomputable def spNearest (C : Addr) : Sp := fun vs H Q _ => IspNearest C  vs H Q
inductive IspShapes (C : Addr) (vs : List V) (H : Hp) (Q : VK) : Prop
  | mk (a W T D : Addr) (d : Uw63.Desk) (i : Nat) (h0 : vs = [.ref a, .int i]) (h1 : DeskAt C H a W T D d) (h2 : WF d) (h3 : Ans C H a W T D Q (d, ansShapes d i))
noncomputable def spShapes (C : Addr) : Sp := fun vs H Q _ => IspShapes C  vs H Q
inductive IspReadings (C : Addr) (vs : List V) (H : Hp) (Q : VK) : Prop
  | mk (a W T D p : Addr) (d : Uw63.Desk) (l : List Uw63.Way) (h0 : vs = [.ref a, .ref p]) (h1 : DeskAt C H a W T D d) (h2 : WF d) (h3 : Found H p d l) (h4 : Ans C H a W T D Q (d, ansReadings d l))
noncomputable def spReadings (C : Addr) : Sp := fun vs H Q _ => IspReadings C  vs H Q
section
variable {P : Program} {w : World} {K : PySem.W.Frag} {mg : Str → Option Value} {base : Heap}
theorem scNearest : FnScope ["self", "sets"] ["self"] (defScope sNearest) := ⟨rfl, rfl, rfl, by decide +kernel, rfl, by decide +kernel, by decide +kernel⟩
theorem ok_nearest {f C fX : Addr} {fd fdX : FuncData} (F : Fun K "nearest" "Desk.nearest" sNearest f fd) (S : TxtK K mg C) (N : TxtN mg) (T : TxtA mg) (GX : FnOk P w K mg base CX0 7 fX fdX ["text", "words", "hints"] spFewestLeft) (kX : PySem.W.keepIn K (.ref fX) = true) (bX : Binds K fdX ["text", "words", "hints"] []) (mX : mg "fewest_left_out" = some (.ref fX)) :
    FnOk P w K mg base CX0 8 f fd ["self"] (spNearest C) := by
  obtain ⟨tl, el⟩ := N.large
  obtain ⟨tm, em⟩ := N.mostX
  refine F.ok scNearest (fun vs H Q E h => ?_) (fun cdv A outer s H vs Q E hr h => ?_)
  · obtain ⟨a, W, Tx, D, d, rfl, _⟩ := h
    rfl
  · obtain ⟨a, W, Tx, D, d, rfl, hd, hw, k⟩ := h
    refine ⟨_, pss_cons (ps_if (pt_cmpR op_gt (pe_callB call_len_seq (by rfl) T.len PySem.boot_len (pa_cons (pe_fld (pv 0) rfl) pa_nil)) (pe_glob (by rfl) em (v := .int 5) ⟨_, rfl⟩) (nomark _)) (pss_one (ps_ret (pe_lst (pa_cons (pe_glob (by rfl) el (v := .int (-5)) ⟨_, rfl⟩) pa_nil)))) pss_nil)
      (pss_cons (ps_set (i := 1) scNearest.nd rfl (Or.inl rfl) (pe_call GX hr rfl mX kX bX .nil pass0 (pa_cons (pe_fld (pv 0) rfl) (pa_cons (pe_fld (pv 0) rfl) (pa_cons (pe_fld (pv 0) rfl) pa_nil)))))
      (pss_one (ps_ret (pe_op op_cat (pe_lst (pa_cons (pe_callB call_len_seq (by rfl) T.len PySem.boot_len (pa_cons (pe_ix ix_list (pv 1) pe_int (fun _ _ => rfl)) pa_nil)) (pa_cons (pe_callB call_len_seq (by rfl) T.len PySem.boot_len (pa_cons (pv 1) pa_nil)) pa_nil))) (pe_ix ix_list (pv 1) pe_int (fun _ _ => rfl)))))), ?_⟩
    have hd0 := hd
    obtain ⟨⟨dx, h0⟩, ⟨ws, hW, hWs⟩, ⟨ts, hT, hTs⟩, hD, hne⟩ := hd
    refine ⟨_, rfl, a, C, dx, _, _, rfl, h0, S.cl, S.nT, df_written, Tx, _, rfl, .inl (SqL.of hT), _, _, rfl, rfl, _, rfl, ?_⟩
    rw [List.length_map, hTs.len]
    unfold ansNearest at k
    refine ite2 (fun h1 => ?_) fun h1 => ?_
    · have h1' : 5 < d.text.length := by
        have := of_decide_eq_true h1
        omega
      rw [if_pos h1'] at k
      exact k.one hd0 (Same.refl H)
    have h1' : ¬ 5 < d.text.length := fun z => h1 (decide_eq_true (by show (5 : Int) < _; omega))
    rw [if_neg h1'] at k
    have hhl := hw.hl
    have hll := hw.ll
    refine ⟨_, rfl, a, C, dx, _, _, rfl, h0, S.cl, S.nT, df_written, _, rfl, a, C, dx, _, _, rfl, h0, S.cl, S.nW, df_words, _, rfl, a, C, dx, _, _, rfl, h0, S.cl, S.nH, df_hints, Tx, W, D, ts, ws, d, rfl, hT, hTs, hW, hWs, hD, hw.kn, hw.vn, by omega, by omega, hw.tw, by omega, fun j y r h0' h1'' H1 p es s1 hp hes => ?_⟩
    have en := nearest_at h0' h1''
    rw [en] at k
    have hel := hes.len
    cases es with
    | nil => cases hel
    | cons e0 es =>
      have hy : H1 e0 = some (.lst (zs y)) := by
        cases hes with
        | cons a b => exact a
      have hyl : y.length ≤ 8 := by
        have hm : y ∈ enoughP d j := by rw [h1'']; simp
        rw [enoughP_eq] at hm
        obtain ⟨s', _, rfl⟩ := List.mem_map.mp hm
        rw [placesOf_eq]
        unfold plc
        refine Nat.le_trans (List.length_filter_le _ _) ?_
        rw [List.length_range]
        exact hw.tl
      refine ⟨_, rfl, p, _, _, _, rfl, rfl, SqL.of hp, atI_nat' (i := 0) (x := V.ref e0) rfl, e0, _, rfl, .inl (SqL.of hy), _, rfl, p, _, rfl, .inl (SqL.of hp), by show 2 ≤ sizeLine; decide, fun q hq => ?_⟩
      have s2 := same_new (o := .lst [V.int ((zs y).length : Int), V.int (((e0 :: es).map V.ref).length : Int)]) hq
      have hq2 : (upd H1 q (.lst [V.int ((zs y).length : Int), V.int (((e0 :: es).map V.ref).length : Int)])) q = some (.lst [V.int ((zs y).length : Int), V.int (((e0 :: es).map V.ref).length : Int)]) := upd_same
      generalize upd H1 q (.lst [V.int ((zs y).length : Int), V.int (((e0 :: es).map V.ref).length : Int)]) = H2 at s2 hq2 ⊢
      refine ⟨_, rfl, p, _, _, _, rfl, rfl, SqL.of (s2 _ _ hp), atI_nat' (i := 0) (x := V.ref e0) rfl, q, e0, _, _, rfl, rfl, hq2, s2 _ _ hy, ?_, fun t ht => ?_⟩
      · rw [zs_len]
        show 2 + y.length ≤ sizeLine
        exact Nat.le_of_lt (small1000' (by omega))
      · have s3 : Same H (upd H2 t (.lst ([V.int ((zs y).length : Int), V.int (((e0 :: es).map V.ref).length : Int)] ++ zs y))) := s1.trans (s2.trans (same_new ht))
        refine k.keep hd0 s3 ?_ ((s1.trans s2).free ht)
        rw [upd_same, zs_len, List.length_map, hel]
        rfl
theorem scShapes : FnScope ["self", "place", "numbers"] ["self", "place"] (defScope sShapes) := ⟨rfl, rfl, rfl, by decide +kernel, rfl, by decide +kernel, by decide +kernel⟩
theorem counted_end {C : Addr} {H : Hp} {a W Tx D : Addr} {Q : VK} {d : Uw63.Desk} {y : List Nat} {H1 : Hp} {l q : Addr} (k : Ans C H a W Tx D Q (d, Uw63.counted y)) (hd : DeskAt C H a W Tx D d) (s : Same H H1) (hl : H1 l = some (.lst (zs y))) (hy : y.length ≤ 10000) (hq : H1 q = none) :
    rCat (.ref q) (.ref l) (upd H1 q (.lst [V.int ((zs y).length : Int)])) Q := by
  have s2 := same_new (o := .lst [V.int ((zs y).length : Int)]) hq
  refine ⟨q, l, _, _, rfl, rfl, upd_same, s2 _ _ hl, ?_, fun t ht => ?_⟩
  · rw [zs_len]
    show 1 + y.length ≤ sizeLine
    exact Nat.le_of_lt (small1000' (by omega))
  · refine k.keep hd (s.trans (s2.trans (same_new ht))) ?_ ((s.trans s2).free ht)
    rw [upd_same, zs_len]
    rfl
theorem ok_shapes {f C fF : Addr} {fd fdF : FuncData} (F : Fun K "shapes" "Desk.shapes" sShapes f fd) (S : TxtK K mg C) (N : TxtN mg) (T : TxtA mg) (GF : FnOk P w K mg base CX0 2 fF fdF ["way", "written", "words"] (spFitting K)) (kF : PySem.W.keepIn K (.ref fF) = true) (bF : Binds K fdF ["way", "written", "words"] []) (mF : mg "fitting_numbers" = some (.ref fF)) :
    FnOk P w K mg base CX0 3 f fd ["self", "place"] (spShapes C) := by
  obtain ⟨ti, ei⟩ := N.notIn
  refine F.ok scShapes (fun vs H Q E h => ?_) (fun cdv A outer s H vs Q E hr h => ?_)
  · obtain ⟨a, W, Tx, D, d, i, rfl, _⟩ := h
    rfl
  · obtain ⟨a, W, Tx, D, d, i, rfl, hd, hw, k⟩ := h
    refine ⟨_, pss_cons (ps_if (pt_cmpR op_ge (pv 1) (pe_callB call_len_seq (by rfl) T.len PySem.boot_len (pa_cons (pe_fld (pv 0) rfl) pa_nil)) (nomark _)) (pss_one (ps_ret (pe_lst (pa_cons (pe_glob (by rfl) ei (v := .int (-2)) ⟨_, rfl⟩) pa_nil)))) pss_nil)
      (pss_cons (ps_set (i := 2) scShapes.nd rfl (Or.inl rfl) (pe_call GF hr rfl mF kF bF .nil pass0 (pa_cons (pe_fld (pv 0) rfl) (pa_cons (pe_ix ix_list (pe_fld (pv 0) rfl) (pv 1) (fun _ _ => rfl)) (pa_cons (pe_fld (pv 0) rfl) pa_nil)))))
      (pss_one (ps_ret (pe_op op_cat (pe_lst (pa_cons (pe_callB call_len_seq (by rfl) T.len PySem.boot_len (pa_cons (pv 2) pa_nil)) pa_nil)) (pv 2))))), ?_⟩
    have hd0 := hd
    obtain ⟨⟨dx, h0⟩, ⟨ws, hW, hWs⟩, ⟨ts, hT, hTs⟩, hD, hne⟩ := hd
    refine ⟨_, rfl, _, rfl, a, C, dx, _, _, rfl, h0, S.cl, S.nT, df_written, Tx, _, rfl, .inl (SqL.of hT), _, _, rfl, rfl, _, rfl, ?_⟩
    rw [List.length_map, hTs.len]
    unfold ansShapes at k
    refine ite2 (fun h1 => ?_) fun h1 => ?_
    · have h1' : d.text.length ≤ i := by
        have := of_decide_eq_true h1
        omega
      rw [List.getElem?_eq_none_iff.mpr h1'] at k
      exact k.one hd0 (Same.refl H)
    have h1' : i < d.text.length := Nat.lt_of_not_le fun z => h1 (decide_eq_true (by show (i : Int) ≥ _; omega))
    obtain ⟨c, hc⟩ : ∃ c, ts[i]? = some c := ⟨_, List.getElem?_eq_getElem (by rw [hTs.len]; exact h1')⟩
    obtain ⟨cs, hcs, hcc⟩ := hTs.get hc
    rw [hcs] at k
    have hhl := hw.hl
    have hll := hw.ll
    have hcl := hw.tw cs (List.mem_of_getElem? hcs)
    refine ⟨_, rfl, a, C, dx, _, _, rfl, h0, S.cl, S.nH, df_hints, _, rfl, a, C, dx, _, _, rfl, h0, S.cl, S.nT, df_written, _, rfl, Tx, _, _, _, rfl, rfl, SqL.of hT, atI_nat' (x := V.ref c) (by rw [List.getElem?_map, hc]; rfl), _, rfl, a, C, dx, _, _, rfl, h0, S.cl, S.nW, df_words, D, c, W, ws, d.list, d.hints, cs, rfl, hD, hcc, hW, hWs, hw.kn, hw.vn, by omega, by omega, by omega, fun H1 l s1 hl0 hl1 => ?_⟩
    have hfl := fits_len d.list d.hints cs
    refine ⟨_, rfl, l, _, rfl, .inl (SqL.of hl1), by show 1 ≤ sizeLine; decide, fun q hq => ⟨_, rfl, counted_end k hd0 s1 hl1 (by omega) hq⟩⟩
theorem scReadings : FnScope ["self", "found", "first", "letter"] ["self", "found"] (defScope sReadings) := ⟨rfl, rfl, rfl, by decide +kernel, rfl, by decide +kernel, by decide +kernel⟩
theorem ok_readings {f C fU : Addr} {fd fdU : FuncData} (F : Fun K "readings" "Desk.readings" sReadings f fd) (S : TxtK K mg C) (T : TxtA mg) (FU : Fun K "unlike_letters" "unlike_letters" sUnlike fU fdU) (bU : Binds K fdU ["words"] []) (mU : mg "unlike_letters" = some (.ref fU)) :
    FnOk P w K mg base CX0 2 f fd ["self", "found"] (spReadings C) := by
  have GU : FnOk P w K mg base CX0 1 fU fdU ["words"] (spUnlike K) := ok_unlike FU T
  refine F.ok scReadings (fun vs H Q E h => ?_) (fun cdv A outer s H vs Q E hr h => ?_)
  · obtain ⟨a, W, Tx, D, p, d, l, rfl, _⟩ := h
    rfl
  · obtain ⟨a, W, Tx, D, p, d, l, rfl, hd, hw, hf, k⟩ := h
    have hu := hu_of hr
    refine ⟨_, pss_cons (ps_if (pt_not (pt_truth (pv 1) (fun _ => rfl))) (pss_one (ps_ret (pe_lst (pa_cons pe_int pa_nil)))) pss_nil)
      (pss_cons (ps_set (i := 2) scReadings.nd rfl (Or.inr rfl) (pe_ix ix_list (pv 1) pe_int (fun _ _ => rfl)))
      (pss_one (ps_ret (pe_op op_cat (pe_lst (pa_cons (pe_callB call_len_seq (by rfl) T.len PySem.boot_len (pa_cons (pv 1) pa_nil)) pa_nil))
        (pe_lc (own := [("letter", 3)]) (g := gName 3) (tt := tYes) rfl scReadings.nd (pi_list (pe_call GU hr rfl mU FU.kp bU .nil pass0 (pa_cons (pe_fld (pv 0) rfl) pa_nil))) (blkOk_by (by rfl)) (fun _ _ _ _ _ => pg_name (i := 3) scReadings.nd rfl (Or.inl rfl) (hf := Or.inr rfl)) (fun _ _ _ _ _ => pts_nil)
          (fun _ _ _ _ _ => pe_dget hu (pv 2) (pv 3) (fun _ _ => rfl))))))), ?_⟩
    have hd0 := hd
    obtain ⟨⟨dx, h0⟩, ⟨ws, hW, hWs⟩, ⟨ts, hT, hTs⟩, hD, hne⟩ := hd
    obtain ⟨ds, hp, hds⟩ := hf.at_
    have hll := hf.len
    have hdl := hds.len
    rw [List.length_map] at hdl
    refine ⟨_, rfl, _, .inl ⟨_, SqL.of hp, rfl⟩, ?_⟩
    cases l with
    | nil =>
      have : ds = [] := List.eq_nil_of_length_eq_zero hdl
      subst this
      exact iteT (k.one hd0 (Same.refl H))
    | cons w0 l =>
      cases ds with
      | nil => cases hdl
      | cons d0 ds =>
        have hd00 : H d0 = some (.dK (kvs w0.key)) := by
          cases hds with
          | cons x y => exact x
        refine iteF ⟨_, rfl, p, _, _, _, rfl, rfl, SqL.of hp, atI_nat' (i := 0) (x := V.ref d0) rfl, ?_⟩
        refine ⟨_, rfl, p, _, rfl, .inl (SqL.of hp), by show 1 ≤ sizeLine; decide, fun q hq => ?_⟩
        have s1 := same_new (o := .lst [V.int (((d0 :: ds).map V.ref).length : Int)]) hq
        have hq1 : (upd H q (.lst [V.int (((d0 :: ds).map V.ref).length : Int)])) q = some (.lst [V.int (((d0 :: ds).map V.ref).length : Int)]) := upd_same
        generalize upd H q (.lst [V.int (((d0 :: ds).map V.ref).length : Int)]) = H1 at s1 hq1 ⊢
        refine ⟨_, rfl, a, C, dx, _, _, rfl, s1 _ _ h0, S.cl, S.nT, df_written, Tx, ts, d.text, d.n, rfl, s1 _ _ hT, hTs.same s1, hw.tb, hw.n, hw.flat, fun H2 u s2 hu1 hu2 => ⟨u, rfl, ⟨_, SqL.of hu2⟩, fun L hL => ?_⟩⟩
        have hlets : (lets d.n d.text).length ≤ 26 := Nat.le_trans (lets_len _ _) hw.n
        refine lc_list (K := K) (xs := zs (lets d.n d.text)) (fun j H' => Same H2 H' ∧ H' L = some (.lst (zs (((lets d.n d.text).take j).map fun c => (Uw63.standsFor w0.key c).getD d.n)))) ⟨same_new hL, upd_same⟩ (fun j H' _ z => SqL.of (z.1 _ _ hu2)) ?_ ?_
        · rintro j v H3 hj ⟨s3, hL3⟩
          obtain ⟨c, hc, rfl⟩ := zs_inv hj
          obtain ⟨v, hv, _⟩ := hf.has hw (c := c) (List.mem_of_getElem? hc) (x := w0) (by simp)
          have hjl := (List.getElem?_eq_some_iff.mp hc).1
          refine ⟨rfl, tYes_i ⟨_, rfl, _, rfl, d0, _, rfl, dget_key ((s1.trans (s2.trans s3)) _ _ hd00) hv, _, hL3, ?_, same_upd s3 hL, ?_⟩⟩
          · rw [zs_len, List.length_map, List.length_take]
            exact small1000' (by omega)
          · rw [upd_same, take_snoc hc, List.map_append, zs_append, List.map_cons, List.map_nil, hv]
            rfl
        · rintro H3 ⟨s3, hL3⟩
          rw [zs_len, List.take_length] at hL3
          have s13 := s2.trans s3
          refine ⟨q, L, _, _, rfl, rfl, s13 _ _ hq1, hL3, ?_, fun t ht => ?_⟩
          · rw [zs_len]
            show 1 + ((lets d.n d.text).map _).length ≤ sizeLine
            rw [List.length_map]
            exact Nat.le_of_lt (small1000' (by omega))
          · refine k.keep hd0 (s1.trans (s13.trans (same_new ht))) ?_ (s1.free (s13.free ht))
            rw [upd_same, List.length_map, hdl]
            rfl
end
end LX
end
section
set_option Elab.async false
set_option linter.all false
set_option maxRecDepth 100000
set_option maxHeartbeats 2000000
namespace LX
open PySem PySem.Spec PyProof.Rows L2 LM1
noncomputable def ansSure (d : Uw63.Desk) (l : List Uw63.Way) : List Int := if l.isEmpty = true then [-6] else 0 :: Uw63.ints (Uw63.sureOf d l)
inductive IspSureM (C : Addr) (vs : List V) (H : Hp) (Q : VK) : Prop
  | mk (a W T D p : Addr) (d : Uw63.Desk) (c : Nat) (ds : List Addr) (ks : List Uw63.Key) (h0 : vs = [.ref a, .int c, .ref p]) (h1 : DeskAt C H a W T D d) (h2 : H p = some (.lst (ds.map V.ref))) (h3 : DictsAt H ds ks) (h4 : ks ≠ []) (h5 : (∀ k ∈ ks, ∃ v, Uw63.standsFor k c = some v)) (h6 : Q (.int (sureK d.n ks c)) H)
noncomputable def spSureM (C : Addr) : Sp := fun vs H Q _ => IspSureM C  vs H Q
inductive IspSure (C : Addr) (vs : List V) (H : Hp) (Q : VK) : Prop
  | mk (a W T D p : Addr) (d : Uw63.Desk) (l : List Uw63.Way) (h0 : vs = [.ref a, .ref p]) (h1 : DeskAt C H a W T D d) (h2 : WF d) (h3 : Found H p d l) (h4 : Ans C H a W T D Q (d, ansSure d l))
noncomputable def spSure (C : Addr) : Sp := fun vs H Q _ => IspSure C  vs H Q
inductive IspMay (C : Addr) (vs : List V) (H : Hp) (Q : VK) : Prop
  | mk (a W T D p : Addr) (d : Uw63.Desk) (l : List Uw63.Way) (c : Nat) (h0 : vs = [.ref a, .int c, .ref p]) (h1 : DeskAt C H a W T D d) (h2 : WF d) (h3 : Found H p d l) (h4 : c ∈ Uw63.letters d) (h5 : Ans C H a W T D Q (d, Uw63.counted (Uw63.mayBe d l c)))
noncomputable def spMay (C : Addr) : Sp := fun vs H Q _ => IspMay C  vs H Q
theorem val_of {k : Uw63.Key} {c v : Nat} (h : Uw63.standsFor k c = some v) : val k c = v := by
  unfold val
  rw [h]
  rfl
section
variable {P : Program} {w : World} {K : PySem.W.Frag} {mg : Str → Option Value} {base : Heap}
theorem scSureM : FnScope ["self", "letter", "found", "meant", "reading"] ["self", "letter", "found"] (defScope sSureM) := ⟨rfl, rfl, rfl, by decide +kernel, rfl, by decide +kernel, by decide +kernel⟩
theorem ok_sureM {f C : Addr} {fd : FuncData} (F : Fun K "sure_meaning" "Desk.sure_meaning" sSureM f fd) (S : TxtK K mg C) : FnOk P w K mg base CX0 1 f fd ["self", "letter", "found"] (spSureM C) := by
  refine F.ok scSureM (fun vs H Q E h => ?_) (fun cdv A outer s H vs Q E hr h => ?_)
  · obtain ⟨a, W, Tx, D, p, d, c, ds, ks, rfl, _⟩ := h
    rfl
  · obtain ⟨a, W, Tx, D, p, d, c, ds, ks, rfl, hd, hp, hds, hne0, hst, k⟩ := h
    have hu := hu_of hr
    refine ⟨_, pss_cons (ps_set (i := 3) scSureM.nd rfl (Or.inl rfl) (pe_dget hu (pe_ix ix_list (pv 2) pe_int (fun _ _ => rfl)) (pv 1) (fun _ _ => rfl)))
      (pss_cons (ps_for PassesOwn.never rfl (pi_list (pv 2)) (pg_name (i := 4) scSureM.nd rfl (Or.inl rfl)) (pss_one (ps_if (pt_cmpR op_ne (pe_dget hu (pv 4) (pv 1) (fun _ _ => rfl)) (pv 3) (nomark _)) (pss_one (ps_ret (pe_fld (pv 0) rfl))) pss_nil)))
      (pss_one (ps_ret (pv 3)))), ?_⟩
    obtain ⟨⟨dx, h0⟩, _, _, _, _⟩ := hd
    have hdl := hds.len
    cases ks with
    | nil => exact absurd rfl hne0
    | cons k0 ks =>
      cases ds with
      | nil => cases hdl
      | cons d0 ds =>
        have hd00 : H d0 = some (.dK (kvs k0)) := by
          cases hds with
          | cons x y => exact x
        obtain ⟨m0, hm0⟩ := hst k0 (by simp)
        refine ⟨_, rfl, p, _, _, _, rfl, rfl, SqL.of hp, atI_nat' (i := 0) (x := V.ref d0) rfl, _, rfl, d0, _, rfl, dget_key hd00 hm0, ?_⟩
        refine ⟨_, rfl, p, rfl, ⟨_, SqL.of hp⟩, for_list (K := K) (a := p) (xs := (d0 :: ds).map V.ref) (fun i σ H' => H' = H ∧ ∃ v : Option V, σ = [some (.ref a), some (.int c), some (.ref p), some (.int m0), v] ∧ ∀ o ∈ (k0 :: ks).take i, val o c = m0) ⟨rfl, _, rfl, fun o ho => by simp at ho⟩ (fun i σ H' _ ⟨e, _⟩ => by rw [e]; exact SqL.of hp) ?_ ?_⟩
        · rintro i y σ H' hi ⟨rfl, v, rfl, hall⟩
          obtain ⟨b, hb, rfl⟩ := refs_get hi
          obtain ⟨o, ho, hbo⟩ := hds.get hb
          obtain ⟨m, hm⟩ := hst o (List.mem_of_getElem? ho)
          refine ⟨_, rfl, _, rfl, b, _, rfl, dget_key hbo hm, _, rfl, rfl, _, rfl, ?_⟩
          by_cases z : m = m0
          · subst z
            refine iteNS rfl ⟨rfl, some (V.ref b), rfl, fun o' ho' => ?_⟩
            rw [take_snoc ho] at ho'
            rcases List.mem_append.mp ho' with u | u
            · exact hall o' u
            · rw [List.mem_singleton.mp u]
              exact val_of hm
          · have e1 : decide (V.int (m : Int) = V.int (m0 : Int)) = false := decide_eq_false fun e => z (by injection e with e; omega)
            rw [e1]
            refine iteT ⟨_, rfl, a, C, dx, _, _, rfl, h0, S.cl, S.nN, df_n, ?_⟩
            have e2 : sureK d.n (k0 :: ks) c = d.n := by
              unfold sureK
              dsimp only
              rw [if_neg]
              intro y
              have := List.all_eq_true.mp y o (List.mem_of_getElem? ho)
              have : val o c = val k0 c := by simpa using this
              rw [val_of hm, val_of hm0] at this
              exact z this
            rw [e2] at k
            exact k
        · rintro σ H' ⟨rfl, v, rfl, hall⟩
          refine ⟨_, rfl, ?_⟩
          have e2 : sureK d.n (k0 :: ks) c = m0 := by
            unfold sureK
            dsimp only
            rw [if_pos, val_of hm0]
            rw [List.all_eq_true]
            intro o ho
            rw [List.length_map, hdl, List.take_length] at hall
            rw [hall o ho, val_of hm0]
            simp
          rw [e2] at k
          exact k
theorem scSure : FnScope ["self", "found", "letter"] ["self", "found"] (defScope sSure) := ⟨rfl, rfl, rfl, by decide +kernel, rfl, by decide +kernel, by decide +kernel⟩
theorem ok_sure {f C fU fM : Addr} {fd fdU fdM : FuncData} (F : Fun K "sure" "Desk.sure" sSure f fd) (S : TxtK K mg C) (N : TxtN mg) (T : TxtA mg) (FU : Fun K "unlike_letters" "unlike_letters" sUnlike fU fdU) (bU : Binds K fdU ["words"] []) (mU : mg "unlike_letters" = some (.ref fU))
    (FM : Fun K "sure_meaning" "Desk.sure_meaning" sSureM fM fdM) (bM : Binds K fdM ["self", "letter", "found"] []) (mM : Meth K C "sure_meaning" fM) :
    FnOk P w K mg base CX0 2 f fd ["self", "found"] (spSure C) := by
  have GU : FnOk P w K mg base CX0 1 fU fdU ["words"] (spUnlike K) := ok_unlike FU T
  have GM : FnOk P w K mg base CX0 1 fM fdM ["self", "letter", "found"] (spSureM C) := ok_sureM FM S
  obtain ⟨tn, en⟩ := N.noReading
  refine F.ok scSure (fun vs H Q E h => ?_) (fun cdv A outer s H vs Q E hr h => ?_)
  · obtain ⟨a, W, Tx, D, p, d, l, rfl, _⟩ := h
    rfl
  · obtain ⟨a, W, Tx, D, p, d, l, rfl, hd, hw, hf, k⟩ := h
    refine ⟨_, pss_cons (ps_if (pt_not (pt_truth (pv 1) (fun _ => rfl))) (pss_one (ps_ret (pe_lst (pa_cons (pe_glob (by rfl) en (v := .int (-6)) ⟨_, rfl⟩) pa_nil)))) pss_nil)
      (pss_one (ps_ret (pe_op op_cat (pe_lst (pa_cons pe_int pa_nil))
        (pe_lc (own := [("letter", 2)]) (g := gName 2) (tt := tYes) rfl scSure.nd (pi_list (pe_call GU hr rfl mU FU.kp bU .nil pass0 (pa_cons (pe_fld (pv 0) rfl) pa_nil))) (blkOk_by (by rfl)) (fun _ _ _ _ _ => pg_name (i := 2) scSure.nd rfl (Or.inl rfl) (hf := Or.inr rfl)) (fun _ _ _ _ _ => pts_nil)
          (fun _ _ _ _ _ => pe_meth (pv 0) S.cl mM GM hr bM .nil pass0 (pa_cons (pv 2) (pa_cons (pv 1) pa_nil))))))), ?_⟩
    have hd0 := hd
    obtain ⟨⟨dx, h0⟩, ⟨ws, hW, hWs⟩, ⟨ts, hT, hTs⟩, hD, hne⟩ := hd
    obtain ⟨ds, hp, hds⟩ := hf.at_
    have hdl := hds.len
    rw [List.length_map] at hdl
    refine ⟨_, rfl, _, .inl ⟨_, SqL.of hp, rfl⟩, ?_⟩
    unfold ansSure at k
    cases hl : l with
    | nil =>
      rw [hl] at k hdl
      have : ds = [] := List.eq_nil_of_length_eq_zero hdl
      subst this
      exact iteT (k.one hd0 (Same.refl H))
    | cons w0 l' =>
      have hln : l ≠ [] := by rw [hl]; simp
      have hle : ¬ l.isEmpty = true := by rw [hl]; simp
      rw [if_neg hle, sureOf_eq hln fun c hc x hx => hf.has hw hc hx] at k
      have e1 : (!(!(ds.map V.ref).isEmpty)) = false := by
        cases ds with
        | nil =>
          rw [hl] at hdl
          cases hdl
        | cons x y => rfl
      rw [e1]
      refine iteF ⟨by show 1 ≤ sizeLine; decide, fun q hq => ?_⟩
      have s1 := same_new (o := .lst [V.int 0]) hq
      have hq1 : (upd H q (.lst [V.int 0])) q = some (.lst [V.int 0]) := upd_same
      generalize upd H q (.lst [V.int 0]) = H1 at s1 hq1 ⊢
      refine ⟨_, rfl, a, C, dx, _, _, rfl, s1 _ _ h0, S.cl, S.nT, df_written, Tx, ts, d.text, d.n, rfl, s1 _ _ hT, hTs.same s1, hw.tb, hw.n, hw.flat, fun H2 u s2 hu1 hu2 => ⟨u, rfl, ⟨_, SqL.of hu2⟩, fun L hL => ?_⟩⟩
      have hlets : (lets d.n d.text).length ≤ 26 := Nat.le_trans (lets_len _ _) hw.n
      refine lc_list (K := K) (xs := zs (lets d.n d.text)) (fun j H' => Same H2 H' ∧ H' L = some (.lst (zs (((lets d.n d.text).take j).map fun c => sureK d.n (l.map (·.key)) c)))) ⟨same_new hL, upd_same⟩ (fun j H' _ z => SqL.of (z.1 _ _ hu2)) ?_ ?_
      · rintro j v H3 hj ⟨s3, hL3⟩
        obtain ⟨c, hc, rfl⟩ := zs_inv hj
        have hjl := (List.getElem?_eq_some_iff.mp hc).1
        have sH := s1.trans (s2.trans s3)
        refine ⟨rfl, tYes_i ⟨_, rfl, a, dx, _, rfl, sH _ _ h0, rfl, _, rfl, _, rfl, a, W, Tx, D, p, d, c, ds, l.map (·.key), rfl, hd0.same sH, sH _ _ hp, hds.same sH, by rw [hl]; simp, fun o ho => ?_, _, hL3, ?_, same_upd s3 hL, ?_⟩⟩
        · obtain ⟨x, hx, rfl⟩ := List.mem_map.mp ho
          obtain ⟨v, hv, _⟩ := hf.has hw (c := c) (List.mem_of_getElem? hc) hx
          exact ⟨v, hv⟩
        · rw [zs_len, List.length_map, List.length_take]
          exact small1000' (by omega)
        · rw [upd_same, take_snoc hc, List.map_append, zs_append]
          rfl
      · rintro H3 ⟨s3, hL3⟩
        rw [zs_len, List.take_length] at hL3
        have s13 := s2.trans s3
        refine ⟨q, L, _, _, rfl, rfl, s13 _ _ hq1, hL3, ?_, fun t ht => ?_⟩
        · rw [zs_len]
          show 1 + ((lets d.n d.text).map _).length ≤ sizeLine
          rw [List.length_map]
          exact Nat.le_of_lt (small1000' (by omega))
        · refine k.keep hd0 (s1.trans (s13.trans (same_new ht))) ?_ (s1.free (s13.free ht))
          rw [upd_same]
          rfl
theorem scMay : FnScope ["self", "letter", "found", "meant", "reading"] ["self", "letter", "found"] (defScope sMay) := ⟨rfl, rfl, rfl, by decide +kernel, rfl, by decide +kernel, by decide +kernel⟩
theorem ok_may {f C : Addr} {fd : FuncData} (F : Fun K "may" "Desk.may" sMay f fd) (T : TxtA mg) : FnOk P w K mg base CX0 1 f fd ["self", "letter", "found"] (spMay C) := by
  refine F.ok scMay (fun vs H Q E h => ?_) (fun cdv A outer s H vs Q E hr h => ?_)
  · obtain ⟨a, W, Tx, D, p, d, l, c, rfl, _⟩ := h
    rfl
  · obtain ⟨a, W, Tx, D, p, d, l, c, rfl, hd, hw, hf, hcl, k⟩ := h
    have hu := hu_of hr
    refine ⟨_, pss_cons (ps_set (i := 3) scMay.nd rfl (Or.inl rfl) (pe_callB (cr_sortedSet rfl) (by rfl) T.sorted boot_sorted5 (pa_cons (pe_callTy (cr_set rfl) (by rfl) T.set boot_set5 (pa_cons
        (pe_lc (own := [("reading", 4)]) (g := gName 4) (tt := tYes) rfl scMay.nd (pi_list (pv 2)) (blkOk_by (by rfl)) (fun _ _ _ _ _ => pg_name (i := 4) scMay.nd rfl (Or.inl rfl) (hf := Or.inr rfl)) (fun _ _ _ _ _ => pts_nil) (fun _ _ _ _ _ => pe_dget hu (pv 4) (pv 1) (fun _ _ => rfl))) pa_nil)) pa_nil)))
      (pss_one (ps_ret (pe_op op_cat (pe_lst (pa_cons (pe_callB call_len_seq (by rfl) T.len PySem.boot_len (pa_cons (pv 3) pa_nil)) pa_nil)) (pv 3)))), ?_⟩
    obtain ⟨ds, hp, hds⟩ := hf.at_
    have hll := hf.len
    have hdl := hds.len
    rw [List.length_map] at hdl
    have hst : ∀ x ∈ l, ∃ v, Uw63.standsFor x.key c = some v ∧ v < d.n := fun x hx => hf.has hw hcl hx
    refine ⟨_, rfl, p, rfl, ⟨_, SqL.of hp⟩, fun L hL => ?_⟩
    refine lc_list (K := K) (xs := ds.map V.ref) (fun j H' => Same H H' ∧ H' L = some (.lst (zs ((l.take j).map fun x => val x.key c)))) ⟨same_new hL, upd_same⟩ (fun j H' _ z => SqL.of (z.1 _ _ hp)) ?_ ?_
    · rintro j v H1 hj ⟨s1, hL1⟩
      obtain ⟨b, hb, rfl⟩ := refs_get hj
      obtain ⟨o, ho, hbo⟩ := hds.get hb
      rw [List.getElem?_map] at ho
      obtain ⟨x, hx, rfl⟩ := Option.map_eq_some_iff.mp ho
      obtain ⟨v, hv, _⟩ := hst x (List.mem_of_getElem? hx)
      have hjl := (List.getElem?_eq_some_iff.mp hx).1
      refine ⟨rfl, tYes_i ⟨_, rfl, _, rfl, b, _, rfl, dget_key (s1 _ _ hbo) hv, _, hL1, ?_, same_upd s1 hL, ?_⟩⟩
      · rw [zs_len, List.length_map, List.length_take]
        exact small1000' (by omega)
      · rw [upd_same, take_snoc hx, List.map_append, zs_append, List.map_cons, List.map_nil, val_of hv]
        rfl
    · rintro H1 ⟨s1, hL1⟩
      rw [List.length_map, hdl, List.take_length] at hL1
      refine ⟨L, zi (l.map fun (x : Uw63.Way) => val x.key c), rfl, SqL.of hL1, by rw [zi_len, List.length_map]; omega, fun r ks hr' nd mem => ⟨r, ks, rfl, upd_same, Nat.lt_of_le_of_lt (vals_len hst nd mem) (by have := hw.n; omega), fun ns t p1 p2 ht => ?_⟩⟩
      have e := mayBe_of hst p1 p2 nd mem
      subst e
      have s2 := s1.trans ((same_new hr').trans (same_new (o := .lst (((Uw63.mayBe d l c).map fun (m : Nat) => (m : Int)).map V.int)) ht))
      have ht2 : (upd (upd H1 r (setO P w r ks)) t (.lst (((Uw63.mayBe d l c).map fun (m : Nat) => (m : Int)).map V.int))) t = some (.lst (zs (Uw63.mayBe d l c))) := upd_same
      have hml := mayBe_len d l c
      have hn := hw.n
      exact ⟨_, rfl, t, _, rfl, .inl (SqL.of ht2), by show 1 ≤ sizeLine; decide, fun q hq => ⟨_, rfl, counted_end k hd s2 ht2 (by omega) hq⟩⟩
end
end LX
end
section
set_option Elab.async false
set_option linter.all false
set_option maxRecDepth 100000
set_option maxHeartbeats 2000000
namespace LX
open PySem PySem.Spec PyProof.Rows L2 LM1
noncomputable def ansTells (l : List Uw63.Way) (k : Nat) : List Int := match l[k]? with
  | none => [-8]
  | some w => 0 :: Uw63.ints w.words
noncomputable def ansNeed (d : Uw63.Desk) (l : List Uw63.Way) (k : Nat) : List Int := match l[k]? with
  | none => [-8]
  | some w => if 10 < (Uw63.letters d).length ∨ 100 < l.length then [-5] else Uw63.counted (Uw63.fewest d l k w)
inductive IspNumber (C : Addr) (vs : List V) (H : Hp) (Q : VK) : Prop
  | mk (a W T D wa ra : Addr) (d : Uw63.Desk) (cs t : List Nat) (x : Uw63.Key) (u : Nat) (h0 : vs = [.ref a, .ref wa, .ref ra]) (h1 : DeskAt C H a W T D d) (h2 : H wa = some (.tup (zs cs))) (h3 : H ra = some (.dK (kvs x))) (h4 : cs.length ≤ 8) (h5 : d.list.Nodup) (h6 : d.list[u]? = some t) (h7 : cs.map (Uw63.standsFor x) = t.map some) (h8 : ∀ H', Same H H' → Q (.int u) H')
noncomputable def spNumber (C : Addr) : Sp := fun vs H Q _ => IspNumber C  vs H Q
inductive IspTells (C : Addr) (vs : List V) (H : Hp) (Q : VK) : Prop
  | mk (a W T D p : Addr) (d : Uw63.Desk) (l : List Uw63.Way) (k : Nat) (h0 : vs = [.ref a, .int k, .ref p]) (h1 : DeskAt C H a W T D d) (h2 : WF d) (h3 : Found H p d l) (h4 : Ans C H a W T D Q (d, ansTells l k))
noncomputable def spTells (C : Addr) : Sp := fun vs H Q _ => IspTells C  vs H Q
inductive IspNeed (C : Addr) (vs : List V) (H : Hp) (Q : VK) : Prop
  | mk (a W T D p : Addr) (d : Uw63.Desk) (l : List Uw63.Way) (k : Nat) (h0 : vs = [.ref a, .int k, .ref p]) (h1 : DeskAt C H a W T D d) (h2 : WF d) (h3 : Found H p d l) (h4 : Ans C H a W T D Q (d, ansNeed d l k))
noncomputable def spNeed (C : Addr) : Sp := fun vs H Q _ => IspNeed C  vs H Q
section
variable {P : Program} {w : World} {K : PySem.W.Frag} {mg : Str → Option Value} {base : Heap}
theorem scNumber : FnScope ["self", "word", "reading", "letter"] ["self", "word", "reading"] (defScope sNumber) := ⟨rfl, rfl, rfl, by decide +kernel, rfl, by decide +kernel, by decide +kernel⟩
theorem ok_number {f C : Addr} {fd : FuncData} (F : Fun K "number_read" "Desk.number_read" sNumber f fd) (S : TxtK K mg C) (T : TxtA mg) : FnOk P w K mg base CX0 1 f fd ["self", "word", "reading"] (spNumber C) := by
  refine F.ok scNumber (fun vs H Q E h => ?_) (fun cdv A outer s H vs Q E hr h => ?_)
  · obtain ⟨a, W, Tx, D, wa, ra, d, cs, t, x, u, rfl, _⟩ := h
    rfl
  · obtain ⟨a, W, Tx, D, wa, ra, d, cs, t, x, u, rfl, hd, hwa, hra, hcl, hnd, hu1, hct, k⟩ := h
    have hu := hu_of hr
    refine ⟨_, pss_one (ps_ret (pe_bm PySem.F.plainAttrs_list PySem.F.slot_list_index PySem.F.type_list_index (mt_indexRows hu) (pe_fld (pv 0) rfl) (pa_cons (pe_callTy call_tuple_of (by rfl) T.tuple boot_tuple5 (pa_cons
      (pe_lc (own := [("letter", 3)]) (g := gName 3) (tt := tYes) rfl scNumber.nd (pi_tup (pv 1)) (blkOk_by (by rfl)) (fun _ _ _ _ _ => pg_name (i := 3) scNumber.nd rfl (Or.inl rfl) (hf := Or.inr rfl)) (fun _ _ _ _ _ => pts_nil) (fun _ _ _ _ _ => pe_dget hu (pv 2) (pv 3) (fun _ _ => rfl))) pa_nil)) pa_nil))), ?_⟩
    obtain ⟨⟨dx, h0⟩, ⟨ws, hW, hWs⟩, ⟨ts, hT, hTs⟩, hD, hne⟩ := hd
    have hlen : cs.length = t.length := by
      have := congrArg List.length hct
      rw [List.length_map, List.length_map] at this
      exact this
    refine ⟨_, rfl, a, C, dx, _, _, rfl, h0, S.cl, S.nW, df_words, .inl ⟨rfl, _, SqL.of hW⟩, _, rfl, wa, rfl, ⟨_, SqT.of hwa⟩, fun L hL => ?_⟩
    refine lc_tup (K := K) (xs := zs cs) (fun j H' => Same H H' ∧ H' L = some (.lst (zs (t.take j)))) ⟨same_new hL, upd_same⟩ (fun j H' _ z => SqT.of (z.1 _ _ hwa)) ?_ ?_
    · rintro j v H1 hj ⟨s1, hL1⟩
      obtain ⟨c, hc, rfl⟩ := zs_inv hj
      have hjl := (List.getElem?_eq_some_iff.mp hc).1
      obtain ⟨m, hm⟩ : ∃ m, t[j]? = some m := ⟨_, List.getElem?_eq_getElem (by omega)⟩
      have hv : Uw63.standsFor x c = some m := by
        have := congrArg (fun z => z[j]?) hct
        simp only [List.getElem?_map, hc, hm] at this
        exact Option.some.inj this
      refine ⟨rfl, tYes_i ⟨_, rfl, _, rfl, ra, _, rfl, dget_key (s1 _ _ hra) hv, _, hL1, ?_, same_upd s1 hL, ?_⟩⟩
      · rw [zs_len, List.length_take]
        exact small1000' (by omega)
      · rw [upd_same, take_snoc hm, zs_append]
        rfl
    · rintro H1 ⟨s1, hL1⟩
      rw [zs_len, hlen, List.take_length] at hL1
      refine ⟨L, _, rfl, .inl ⟨SqL.of hL1, fun tp htp => ?_⟩⟩
      have s2 := s1.trans (same_new (o := .tup (zs t)) htp)
      refine ⟨tp, W, ws, zi t, d.list.map zi, u, rfl, rfl, SqT.of upd_same, SqL.of (s2 _ _ hW), (hWs.same s2).rows, ?_, fun m hm e => ?_, k _ s2⟩
      · rw [List.getElem?_map, hu1]
        rfl
      · rw [List.getElem?_map] at e
        obtain ⟨t', ht', et⟩ := Option.map_eq_some_iff.mp e
        rw [zi_inj et] at ht'
        have := nd_ix hnd ht' hu1
        omega
theorem scTells : FnScope ["self", "k", "found", "word"] ["self", "k", "found"] (defScope sTells) := ⟨rfl, rfl, rfl, by decide +kernel, rfl, by decide +kernel, by decide +kernel⟩
theorem ok_tells {f C fM : Addr} {fd fdM : FuncData} (F : Fun K "tells" "Desk.tells" sTells f fd) (S : TxtK K mg C) (N : TxtN mg) (T : TxtA mg) (FM : Fun K "number_read" "Desk.number_read" sNumber fM fdM) (bM : Binds K fdM ["self", "word", "reading"] []) (mM : Meth K C "number_read" fM) :
    FnOk P w K mg base CX0 2 f fd ["self", "k", "found"] (spTells C) := by
  have GM : FnOk P w K mg base CX0 1 fM fdM ["self", "word", "reading"] (spNumber C) := ok_number FM S T
  obtain ⟨tn, en⟩ := N.noSuch
  refine F.ok scTells (fun vs H Q E h => ?_) (fun cdv A outer s H vs Q E hr h => ?_)
  · obtain ⟨a, W, Tx, D, p, d, l, k, rfl, _⟩ := h
    rfl
  · obtain ⟨a, W, Tx, D, p, d, l, k, rfl, hd, hw, hf, kk⟩ := h
    refine ⟨_, pss_cons (ps_if (pt_cmpR op_ge (pv 1) (pe_callB call_len_seq (by rfl) T.len PySem.boot_len (pa_cons (pv 2) pa_nil)) (nomark _)) (pss_one (ps_ret (pe_lst (pa_cons (pe_glob (by rfl) en (v := .int (-8)) ⟨_, rfl⟩) pa_nil)))) pss_nil)
      (pss_one (ps_ret (pe_op op_cat (pe_lst (pa_cons pe_int pa_nil))
        (pe_lc (own := [("word", 3)]) (g := gName 3) (tt := tYes) (te := tMeth C "number_read" (spNumber C) [] E0 (tVar 0) (tCons (tVar 3) (tCons (tOp (rIxL K) (tVar 2) (tVar 1)) tNil))) rfl scTells.nd (pi_list (pe_fld (pv 0) rfl)) (blkOk_by (by rfl)) (fun _ _ _ _ _ => pg_name (i := 3) scTells.nd rfl (Or.inl rfl) (hf := Or.inr rfl)) (fun _ _ _ _ _ => pts_nil)
          (fun _ _ _ _ _ => pe_meth (pv 0) S.cl mM GM hr bM .nil pass0 (pa_cons (pv 3) (pa_cons (pe_ix ix_list (pv 2) (pv 1) (fun _ _ => rfl)) pa_nil))))))), ?_⟩
    have hd0 := hd
    obtain ⟨⟨dx, h0⟩, ⟨ws, hW, hWs⟩, ⟨ts, hT, hTs⟩, hD, hne⟩ := hd
    obtain ⟨ds, hp, hds⟩ := hf.at_
    have hdl := hds.len
    rw [List.length_map] at hdl
    refine ⟨_, rfl, _, rfl, p, _, rfl, .inl (SqL.of hp), _, _, rfl, rfl, _, rfl, ?_⟩
    rw [List.length_map, hdl]
    unfold ansTells at kk
    refine ite2 (fun h1 => ?_) fun h1 => ?_
    · have h1' : l.length ≤ k := by
        have := of_decide_eq_true h1
        omega
      rw [List.getElem?_eq_none_iff.mpr h1'] at kk
      exact kk.one hd0 (Same.refl H)
    have h1' : k < l.length := Nat.lt_of_not_le fun z => h1 (decide_eq_true (by show (k : Int) ≥ _; omega))
    obtain ⟨x, hx⟩ : ∃ x, l[k]? = some x := ⟨_, List.getElem?_eq_getElem h1'⟩
    rw [hx] at kk
    obtain ⟨b, hb, hbx⟩ := hds.get' (i := k) (x := x.key) (by rw [List.getElem?_map, hx]; rfl)
    have wk := (hf.ok hw).1 x (List.mem_of_getElem? hx)
    refine ⟨by show 1 ≤ sizeLine; decide, fun q hq => ?_⟩
    have s1 := same_new (o := .lst [V.int 0]) hq
    have hq1 : (upd H q (.lst [V.int 0])) q = some (.lst [V.int 0]) := upd_same
    generalize upd H q (.lst [V.int 0]) = H1 at s1 hq1 ⊢
    refine ⟨_, rfl, a, C, dx, _, _, rfl, s1 _ _ h0, S.cl, S.nT, df_written, Tx, rfl, ⟨_, SqL.of (s1 _ _ hT)⟩, fun L hL => ?_⟩
    have htl := hw.tl
    refine lc_list (K := K) (xs := ts.map V.ref) (fun j H' => Same H1 H' ∧ H' L = some (.lst (zs (x.words.take j)))) ⟨same_new hL, upd_same⟩ (fun j H' _ z => SqL.of (z.1 _ _ (s1 _ _ hT))) ?_ ?_
    · rintro j v H2 hj ⟨s2, hL2⟩
      obtain ⟨wa, hwa, rfl⟩ := refs_get hj
      obtain ⟨cs, hcs, hwc⟩ := hTs.get hwa
      obtain ⟨u, t, hu1, hu2, hu3⟩ := wk.rd j cs hcs
      have hjl := (List.getElem?_eq_some_iff.mp hcs).1
      have sH := s1.trans s2
      refine ⟨rfl, tYes_i ⟨_, rfl, a, dx, _, rfl, sH _ _ h0, rfl, _, rfl, _, rfl, _, rfl, p, _, _, _, rfl, rfl, SqL.of (sH _ _ hp), atI_nat' (x := V.ref b) (by rw [List.getElem?_map, hb]; rfl), a, W, Tx, D, wa, b, d, cs, t, x.key, u, rfl, hd0.same sH, sH _ _ hwc, sH _ _ hbx, hw.tw cs (List.mem_of_getElem? hcs), hw.lnd, hu2, hu3, fun H3 s3 => ?_⟩⟩
      refine ⟨_, s3 _ _ hL2, ?_, same_upd (s2.trans s3) hL, ?_⟩
      · rw [zs_len, List.length_take]
        exact small1000' (by omega)
      · rw [upd_same, take_snoc hu1, zs_append]
        rfl
    · rintro H2 ⟨s2, hL2⟩
      have hwl : (ts.map V.ref).length = x.words.length := by
        rw [List.length_map, hTs.len, wk.len]
      rw [hwl, List.take_length] at hL2
      refine ⟨q, L, _, _, rfl, rfl, s2 _ _ hq1, hL2, ?_, fun t ht => ?_⟩
      · rw [zs_len, wk.len]
        show 1 + d.text.length ≤ sizeLine
        exact Nat.le_of_lt (small1000' (by omega))
      · refine kk.keep hd0 (s1.trans (s2.trans (same_new ht))) ?_ (s1.free (s2.free ht))
        rw [upd_same]
        rfl
theorem scNeed : FnScope ["self", "k", "found", "letters", "fewest"] ["self", "k", "found"] (defScope sNeed) := ⟨rfl, rfl, rfl, by decide +kernel, rfl, by decide +kernel, by decide +kernel⟩
theorem ok_need {f C fU fX : Addr} {fd fdU fdX : FuncData} (F : Fun K "need" "Desk.need" sNeed f fd) (S : TxtK K mg C) (N : TxtN mg) (T : TxtA mg) (FU : Fun K "unlike_letters" "unlike_letters" sUnlike fU fdU) (bU : Binds K fdU ["words"] []) (mU : mg "unlike_letters" = some (.ref fU))
    (GX : FnOk P w K mg base CX0 3 fX fdX ["letters", "reading", "found"] spFewestTold) (kX : PySem.W.keepIn K (.ref fX) = true) (bX : Binds K fdX ["letters", "reading", "found"] []) (mX : mg "fewest_told" = some (.ref fX)) :
    FnOk P w K mg base CX0 4 f fd ["self", "k", "found"] (spNeed C) := by
  have GU : FnOk P w K mg base CX0 3 fU fdU ["words"] (spUnlike K) := (ok_unlike FU T).mono (by decide)
  obtain ⟨tn, en⟩ := N.noSuch
  obtain ⟨tl, el⟩ := N.large
  obtain ⟨tL, eL⟩ := N.mostL
  obtain ⟨tR, eR⟩ := N.mostR
  refine F.ok scNeed (fun vs H Q E h => ?_) (fun cdv A outer s H vs Q E hr h => ?_)
  · obtain ⟨a, W, Tx, D, p, d, l, k, rfl, _⟩ := h
    rfl
  · obtain ⟨a, W, Tx, D, p, d, l, k, rfl, hd, hw, hf, kk⟩ := h
    refine ⟨_, pss_cons (ps_if (pt_cmpR op_ge (pv 1) (pe_callB call_len_seq (by rfl) T.len PySem.boot_len (pa_cons (pv 2) pa_nil)) (nomark _)) (pss_one (ps_ret (pe_lst (pa_cons (pe_glob (by rfl) en (v := .int (-8)) ⟨_, rfl⟩) pa_nil)))) pss_nil)
      (pss_cons (ps_set (i := 3) scNeed.nd rfl (Or.inl rfl) (pe_call GU hr rfl mU FU.kp bU .nil pass0 (pa_cons (pe_fld (pv 0) rfl) pa_nil)))
      (pss_cons (ps_if (PW.pt (pw_or (pt_cmpR op_gt (pe_callB call_len_seq (by rfl) T.len PySem.boot_len (pa_cons (pv 3) pa_nil)) (pe_glob (by rfl) eL (v := .int 10) ⟨_, rfl⟩) (nomark _)) (pw_or1 (pt_cmpR op_gt (pe_callB call_len_seq (by rfl) T.len PySem.boot_len (pa_cons (pv 2) pa_nil)) (pe_glob (by rfl) eR (v := .int 100) ⟨_, rfl⟩) (nomark _))))) (pss_one (ps_ret (pe_lst (pa_cons (pe_glob (by rfl) el (v := .int (-5)) ⟨_, rfl⟩) pa_nil)))) pss_nil)
      (pss_cons (ps_set (i := 4) scNeed.nd rfl (Or.inl rfl) (pe_call GX hr rfl mX kX bX .nil pass0 (pa_cons (pv 3) (pa_cons (pe_ix ix_list (pv 2) (pv 1) (fun _ _ => rfl)) (pa_cons (pv 2) pa_nil)))))
      (pss_one (ps_ret (pe_op op_cat (pe_lst (pa_cons (pe_callB call_len_seq (by rfl) T.len PySem.boot_len (pa_cons (pv 4) pa_nil)) pa_nil)) (pv 4))))))), ?_⟩
    have hd0 := hd
    obtain ⟨⟨dx, h0⟩, ⟨ws, hW, hWs⟩, ⟨ts, hT, hTs⟩, hD, hne⟩ := hd
    obtain ⟨ds, hp, hds⟩ := hf.at_
    have hdl := hds.len
    rw [List.length_map] at hdl
    have hll := hf.len
    refine ⟨_, rfl, _, rfl, p, _, rfl, .inl (SqL.of hp), _, _, rfl, rfl, _, rfl, ?_⟩
    rw [List.length_map, hdl]
    unfold ansNeed at kk
    refine ite2 (fun h1 => ?_) fun h1 => ?_
    · have h1' : l.length ≤ k := by
        have := of_decide_eq_true h1
        omega
      rw [List.getElem?_eq_none_iff.mpr h1'] at kk
      exact kk.one hd0 (Same.refl H)
    have h1' : k < l.length := Nat.lt_of_not_le fun z => h1 (decide_eq_true (by show (k : Int) ≥ _; omega))
    obtain ⟨x, hx⟩ : ∃ x, l[k]? = some x := ⟨_, List.getElem?_eq_getElem h1'⟩
    rw [hx] at kk
    obtain ⟨b, hb, hbx⟩ := hds.get' (i := k) (x := x.key) (by rw [List.getElem?_map, hx]; rfl)
    refine ⟨_, rfl, a, C, dx, _, _, rfl, h0, S.cl, S.nT, df_written, Tx, ts, d.text, d.n, rfl, hT, hTs, hw.tb, hw.n, hw.flat, fun H1 u s1 hu1 hu2 => ?_⟩
    refine ⟨_, rfl, u, _, rfl, .inl (SqL.of hu2), _, _, rfl, rfl, _, rfl, ?_⟩
    rw [zs_len]
    rw [letters_lets] at kk
    dsimp only at kk
    refine ite2 (fun h2 => ?_) fun h2 => ?_
    · have h2' : 10 < (lets d.n d.text).length := by
        have := of_decide_eq_true h2
        omega
      rw [if_pos (.inl h2')] at kk
      exact iteT (kk.one hd0 s1)
    have h2' : ¬ 10 < (lets d.n d.text).length := fun z => h2 (decide_eq_true (by show (10 : Int) < _; omega))
    refine ⟨_, rfl, p, _, rfl, .inl (SqL.of (s1 _ _ hp)), _, _, rfl, rfl, _, rfl, ?_⟩
    rw [List.length_map, hdl]
    refine ite2 (fun h3 => ?_) fun h3 => ?_
    · have h3' : 100 < l.length := by
        have := of_decide_eq_true h3
        omega
      rw [if_pos (.inr h3')] at kk
      exact kk.one hd0 s1
    have h3' : ¬ 100 < l.length := fun z => h3 (decide_eq_true (by show (100 : Int) < _; omega))
    rw [if_neg fun z => z.elim h2' h3'] at kk
    have hrise : (lets d.n d.text).Pairwise (· < ·) := List.Pairwise.sublist List.filter_sublist List.pairwise_lt_range
    have hok := hf.ok hw
    have hhas : ∀ y ∈ l, Has y.key (lets d.n d.text) := fun y hy c hc => by
      obtain ⟨v, hv, _⟩ := hf.has hw (c := c) hc hy
      exact ⟨v, hv⟩
    have hfun : ∀ cs, Uw63.enough l k x cs = enoughK (l.map (·.key)) x.key cs := fun cs => enough_key hx
    have hfun2 : Uw63.enough l k x = enoughK (l.map (·.key)) x.key := funext hfun
    refine ⟨_, rfl, _, rfl, _, rfl, p, _, _, _, rfl, rfl, SqL.of (s1 _ _ hp), atI_nat' (x := V.ref b) (by rw [List.getElem?_map, hb]; rfl), _, rfl, u, b, p, ds, lets d.n d.text, x.key, l.map (·.key), rfl, hu2, s1 _ _ hbx, s1 _ _ hp, hds.same s1, hrise, by omega, hhas x (List.mem_of_getElem? hx), fun o ho => ?_, by rw [List.length_map]; omega, ?_, fun s' y r hs' h0' h1'' H2 q s2 hq => ?_⟩
    · obtain ⟨y, hy, rfl⟩ := List.mem_map.mp ho
      exact hhas y hy
    · rw [← hfun]
      exact enough_all hw.tb hw.lnd hok.1 hok.2 hx
    · have ef : Uw63.fewest d l k x = y := fewest_at hs' (by rw [hfun2]; exact h0') (by rw [hfun2]; exact h1'')
      rw [ef] at kk
      have hyl : y.length ≤ 26 := by
        have hm : y ∈ Uw63.choices s' (lets d.n d.text) := by
          have : y ∈ (Uw63.choices s' (lets d.n d.text)).filter (enoughK (l.map (·.key)) x.key) := by rw [h1'']; simp
          exact (List.mem_filter.mp this).1
        rw [(mem_choices hm).1]
        have := lets_len d.n d.text
        have := hw.n
        omega
      exact ⟨_, rfl, q, _, rfl, .inl (SqL.of hq), by show 1 ≤ sizeLine; decide, fun t ht => ⟨_, rfl, counted_end kk hd0 (s1.trans s2) hq (by omega) ht⟩⟩
end
end LX
end
section
set_option Elab.async false
set_option linter.all false
set_option maxRecDepth 100000
set_option maxHeartbeats 2000000
namespace LX
open PySem PySem.Spec PyProof.Rows L2 LM1
noncomputable abbrev sSplit : Stmt := top 51
noncomputable abbrev sAnswer : Stmt := top 52
noncomputable abbrev sAoR : Stmt := top 53
noncomputable abbrev sAnswers : Stmt := top 54
theorem sel_no {i j : Int} {A B : Prop} (h : i ≠ j) (b : B) : if decide (V.int i = V.int j) = true then A else B := by
  rw [decide_eq_false fun e => h (by injection e)]
  exact iteF b
theorem sel_yes {i : Int} {A B : Prop} (a : A) : if decide (V.int i = V.int i) = true then A else B := by
  rw [decide_eq_true rfl]
  exact iteT a
theorem rd_asg {te : TE} {g : TG} {u : TS} {D : Ends} {σ : L2.St} {H : Hp} (h : te σ H fun x H1 => g x σ H1 (u D)) : tSeq (tAsg te g) u D σ H := h
theorem rd_no {k : Nat} {i j : Int} {tb u : TS} {D : Ends} {σ : L2.St} {H : Hp} (hs : σ[k]? = some (some (.int i))) (h : i ≠ j) (b : u D σ H) : tSeq (tIfS (tTest (tOp rEq (tVar k) (tC (V.int j)))) tb tNext) u D σ H := ⟨_, hs, rfl, _, rfl, sel_no h b⟩
theorem rd_yes {k : Nat} {j : Int} {tb u : TS} {D : Ends} {σ : L2.St} {H : Hp} (hs : σ[k]? = some (some (.int j))) (b : tb { D with nx := u D } σ H) : tSeq (tIfS (tTest (tOp rEq (tVar k) (tC (V.int j)))) tb tNext) u D σ H := ⟨_, hs, rfl, _, rfl, sel_yes b⟩
theorem rd_andno {k : Nat} {i j : Int} {t2 : TT} {tb u : TS} {D : Ends} {σ : L2.St} {H : Hp} (hs : σ[k]? = some (some (.int i))) (h : i ≠ j) (b : u D σ H) : tSeq (tIfS (tAnd (tTest (tOp rEq (tVar k) (tC (V.int j)))) t2) tb tNext) u D σ H := ⟨_, hs, rfl, _, rfl, sel_no h (iteF b)⟩
theorem rd_non {k : Nat} {tb u : TS} {D : Ends} {σ : L2.St} {H : Hp} (hs : σ[k]? = some (some .non)) (b : tb { D with nx := u D } σ H) : tSeq (tIfS (tTest (tOp (fun x y H Q => y = V.non ∧ Q (V.bl (decide (x = V.non))) H) (tVar k) (tC V.non))) tb tNext) u D σ H := ⟨_, hs, rfl, _, rfl, iteT b⟩
theorem rd_ref {k : Nat} {a : Addr} {tb u : TS} {D : Ends} {σ : L2.St} {H : Hp} (hs : σ[k]? = some (some (.ref a))) (b : u D σ H) : tSeq (tIfS (tTest (tOp (fun x y H Q => y = V.non ∧ Q (V.bl (decide (x = V.non))) H) (tVar k) (tC V.non))) tb tNext) u D σ H := ⟨_, hs, rfl, _, rfl, iteF b⟩
theorem onR_text {d : Uw63.Desk} (h : d.text ≠ []) (f : List Uw63.Way → List Int) : Uw63.onReadings d f = (d, match Uw63.readings d with
    | none => [-7]
    | some l => f l) := by
  have : d.text.isEmpty = false := by
    cases e : d.text with
    | nil => exact absurd e h
    | cons a r => rfl
  unfold Uw63.onReadings Uw63.onText
  rw [this]
  rfl
theorem onT_text {d : Uw63.Desk} (h : d.text ≠ []) (f : Unit → List Int) : Uw63.onText d f = (d, f ()) := by
  have : d.text.isEmpty = false := by
    cases e : d.text with
    | nil => exact absurd e h
    | cons a r => rfl
  unfold Uw63.onText
  rw [this]
  rfl
theorem Ans.later {C : Addr} {H H1 : Hp} {a W T D : Addr} {Q : VK} {x : Uw63.Desk × List Int} (k : Ans C H a W T D Q x) (s : Same H H1) : Ans C H1 a W T D Q x := fun H' p W' T' D' h1 h2 h3 h4 h5 h6 h7 =>
  k H' p W' T' D' h1 (s.free h2) h3 (fun b o e => h4 b o (s b o e)) (h5.imp id s.free) (h6.imp id s.free) (h7.imp id s.free)
inductive IspAoR (K : PySem.W.Frag) (C : Addr) (vs : List V) (H : Hp) (Q : VK) : Prop
  | mk (a W T D tl : Addr) (d : Uw63.Desk) (x : Uw63.Call) (i : Nat) (ms : List Nat) (h0 : vs = [.ref a, .int i, .ref tl]) (h1 : DeskAt C H a W T D d) (h2 : WF d) (h3 : SqL K H tl (zs ms)) (h4 : d.text ≠ []) (h5 : 4 ≤ i) (h6 : i ≤ 8) (h7 : Uw63Neutral.callIn (i :: ms) = some x) (h8 : Ans C H a W T D Q (Uw63.step d x))
noncomputable def spAoR (K : PySem.W.Frag) (C : Addr) : Sp := fun vs H Q _ => IspAoR K  C  vs H Q
section
variable {P : Program} {w : World} {K : PySem.W.Frag} {mg : Str → Option Value} {base : Heap}
theorem scAoR : FnScope ["desk", "call", "told", "found"] ["desk", "call", "told"] (defScope sAoR) := ⟨rfl, rfl, rfl, by decide +kernel, rfl, by decide +kernel, by decide +kernel⟩
theorem ok_aor {f C fU fA fRd fSu fMa fTe fNe : Addr} {fd fdU fdA fdRd fdSu fdMa fdTe fdNe : FuncData} (F : Fun K "answer_of_readings" "answer_of_readings" sAoR f fd) (S : TxtK K mg C) (N : TxtN mg) (T : TxtA mg)
    (FU : Fun K "unlike_letters" "unlike_letters" sUnlike fU fdU) (bU : Binds K fdU ["words"] []) (mU : mg "unlike_letters" = some (.ref fU))
    (GA : FnOk P w K mg base CX0 3 fA fdA ["text", "words", "hints"] spAllReadings) (kA : PySem.W.keepIn K (.ref fA) = true) (bA : Binds K fdA ["text", "words", "hints"] []) (mA : mg "all_readings" = some (.ref fA))
    (GRd : FnOk P w K mg base CX0 2 fRd fdRd ["self", "found"] (spReadings C)) (bRd : Binds K fdRd ["self", "found"] []) (mRd : Meth K C "readings" fRd)
    (GSu : FnOk P w K mg base CX0 2 fSu fdSu ["self", "found"] (spSure C)) (bSu : Binds K fdSu ["self", "found"] []) (mSu : Meth K C "sure" fSu)
    (GMa : FnOk P w K mg base CX0 1 fMa fdMa ["self", "letter", "found"] (spMay C)) (bMa : Binds K fdMa ["self", "letter", "found"] []) (mMa : Meth K C "may" fMa)
    (GTe : FnOk P w K mg base CX0 2 fTe fdTe ["self", "k", "found"] (spTells C)) (bTe : Binds K fdTe ["self", "k", "found"] []) (mTe : Meth K C "tells" fTe)
    (GNe : FnOk P w K mg base CX0 4 fNe fdNe ["self", "k", "found"] (spNeed C)) (bNe : Binds K fdNe ["self", "k", "found"] []) (mNe : Meth K C "need" fNe) :
    FnOk P w K mg base CX0 5 f fd ["desk", "call", "told"] (spAoR K C) := by
  have GU : FnOk P w K mg base CX0 4 fU fdU ["words"] (spUnlike K) := (ok_unlike FU T).mono (by decide)
  have GA : FnOk P w K mg base CX0 4 fA fdA ["text", "words", "hints"] spAllReadings := GA.mono (by decide)
  have GRd : FnOk P w K mg base CX0 4 fRd fdRd ["self", "found"] (spReadings C) := GRd.mono (by decide)
  have GSu : FnOk P w K mg base CX0 4 fSu fdSu ["self", "found"] (spSure C) := GSu.mono (by decide)
  have GMa : FnOk P w K mg base CX0 4 fMa fdMa ["self", "letter", "found"] (spMay C) := GMa.mono (by decide)
  have GTe : FnOk P w K mg base CX0 4 fTe fdTe ["self", "k", "found"] (spTells C) := GTe.mono (by decide)
  obtain ⟨t1, e1⟩ := N.may
  obtain ⟨t2, e2⟩ := N.notIn
  obtain ⟨t3, e3⟩ := N.many
  obtain ⟨t4, e4⟩ := N.readings
  obtain ⟨t5, e5⟩ := N.sure
  obtain ⟨t6, e6⟩ := N.tells
  refine F.ok scAoR (fun vs H Q E h => ?_) (fun cdv A outer s H vs Q E hr h => ?_)
  · obtain ⟨a, W, Tx, D, tl, d, x, i, ms, rfl, _⟩ := h
    rfl
  · obtain ⟨a, W, Tx, D, tl, d, x, i, ms, rfl, hd, hw, htl, hne0, hi4, hi8, hx, k⟩ := h
    refine ⟨_, pss_cons (ps_if (PW.pt (pw_and (pt_cmpR op_eq (pv 1) (pe_glob (by rfl) e1 (v := .int 6) ⟨_, rfl⟩) (nomark _)) (pw_and1 (pt_cmpR op_notIn_seq (pe_ix ix_list (pv 2) pe_int (fun _ _ => rfl)) (pe_call GU hr rfl mU FU.kp bU .nil pass0 (pa_cons (pe_fld (pv 0) rfl) pa_nil)) rfl)))) (pss_one (ps_ret (pe_lst (pa_cons (pe_glob (by rfl) e2 (v := .int (-2)) ⟨_, rfl⟩) pa_nil)))) pss_nil)
      (pss_cons (ps_set (i := 3) scAoR.nd rfl (Or.inl rfl) (pe_call GA hr rfl mA kA bA .nil pass0 (pa_cons (pe_fld (pv 0) rfl) (pa_cons (pe_fld (pv 0) rfl) (pa_cons (pe_fld (pv 0) rfl) pa_nil)))))
      (pss_cons (ps_if (pt_cmpR op_isN (pv 3) pe_non (nomark _)) (pss_one (ps_ret (pe_lst (pa_cons (pe_glob (by rfl) e3 (v := .int (-7)) ⟨_, rfl⟩) pa_nil)))) pss_nil)
      (pss_cons (ps_if (pt_cmpR op_eq (pv 1) (pe_glob (by rfl) e4 (v := .int 4) ⟨_, rfl⟩) (nomark _)) (pss_one (ps_ret (pe_meth (pv 0) S.cl mRd GRd hr bRd .nil pass0 (pa_cons (pv 3) pa_nil)))) pss_nil)
      (pss_cons (ps_if (pt_cmpR op_eq (pv 1) (pe_glob (by rfl) e5 (v := .int 5) ⟨_, rfl⟩) (nomark _)) (pss_one (ps_ret (pe_meth (pv 0) S.cl mSu GSu hr bSu .nil pass0 (pa_cons (pv 3) pa_nil)))) pss_nil)
      (pss_cons (ps_if (pt_cmpR op_eq (pv 1) (pe_glob (by rfl) e1 (v := .int 6) ⟨_, rfl⟩) (nomark _)) (pss_one (ps_ret (pe_meth (pv 0) S.cl mMa GMa hr bMa .nil pass0 (pa_cons (pe_ix ix_list (pv 2) pe_int (fun _ _ => rfl)) (pa_cons (pv 3) pa_nil))))) pss_nil)
      (pss_cons (ps_if (pt_cmpR op_eq (pv 1) (pe_glob (by rfl) e6 (v := .int 7) ⟨_, rfl⟩) (nomark _)) (pss_one (ps_ret (pe_meth (pv 0) S.cl mTe GTe hr bTe .nil pass0 (pa_cons (pe_ix ix_list (pv 2) pe_int (fun _ _ => rfl)) (pa_cons (pv 3) pa_nil))))) pss_nil)
      (pss_one (ps_ret (pe_meth (pv 0) S.cl mNe GNe hr bNe .nil pass0 (pa_cons (pe_ix ix_list (pv 2) pe_int (fun _ _ => rfl)) (pa_cons (pv 3) pa_nil))))))))))), ?_⟩
    have hd0 := hd
    obtain ⟨⟨dx, h0⟩, ⟨ws, hW, hWs⟩, ⟨ts, hT, hTs⟩, hD, hne⟩ := hd
    have hhl := hw.hl
    have hll := hw.ll
    have rdN : readK d.list [d.hints] d.text = none → Uw63.readings d = none := fun e => by
      have z := readings_key d
      rw [e] at z
      cases y : Uw63.readings d with
      | none => rfl
      | some l =>
        rw [y] at z
        cases z
    have rdS : ∀ ks, readK d.list [d.hints] d.text = some ks → ∃ l, Uw63.readings d = some l ∧ ks = l.map (·.key) := fun ks e => by
      have z := readings_key d
      rw [e] at z
      cases y : Uw63.readings d with
      | none =>
        rw [y] at z
        cases z
      | some l =>
        rw [y] at z
        cases z
        exact ⟨l, rfl, rfl⟩
    have fnd : ∀ (H0 : Hp) (R : VK), Same H H0 → (Uw63.readings d = none → ∀ H1, Same H H1 → R .non H1) → (∀ l, Uw63.readings d = some l → ∀ (H1 : Hp) (r : Addr), Same H H1 → Found H1 r d l → R (.ref r) H1) →
        (tCall spAllReadings [] E0 (tCons (tFld K (tVar 0) "written") (tCons (tFld K (tVar 0) "words") (tCons (tFld K (tVar 0) "hints") tNil)))) [some (.ref a), some (.int i), some (.ref tl), none] H0 R := by
      intro H0 R s0 g0 g1
      refine ⟨_, rfl, a, C, dx, _, _, rfl, s0 _ _ h0, S.cl, S.nT, df_written, _, rfl, a, C, dx, _, _, rfl, s0 _ _ h0, S.cl, S.nW, df_words, _, rfl, a, C, dx, _, _, rfl, s0 _ _ h0, S.cl, S.nH, df_hints, Tx, W, D, ts, ws, d.text, d.list, d.hints, rfl, s0 _ _ hT, hTs.same s0, s0 _ _ hW, hWs.same s0, s0 _ _ hD, hw.kn, hw.vn, by omega, hw.tl, hw.tw, by omega, fun e H1 s1 => g0 (rdN e) H1 (s0.trans s1), fun ks e H1 r es s1 hr0 hr1 hes => ?_⟩
      obtain ⟨l, el, rfl⟩ := rdS ks e
      exact g1 l el H1 r (s0.trans s1) ⟨⟨es, hr1, hes⟩, el⟩
    by_cases i6 : i = 6
    · subst i6
      cases ms with
      | nil => cases hx
      | cons m r =>
        cases r with
        | cons m2 r => cases hx
        | nil =>
          cases hx
          have k : Ans C H a W Tx D Q (Uw63.onText d fun _ => if (Uw63.letters d).contains m = false then [-2] else (Uw63.onReadings d fun l => Uw63.counted (Uw63.mayBe d l m)).2) := k
          rw [onT_text hne0, onR_text hne0] at k
          dsimp only at k
          refine ⟨_, rfl, rfl, _, rfl, sel_yes ⟨_, rfl, tl, _, _, _, rfl, rfl, htl, atI_nat' (i := 0) (x := V.int (m : Int)) rfl, _, rfl, a, C, dx, _, _, rfl, h0, S.cl, S.nT, df_written, Tx, ts, d.text, d.n, rfl, hT, hTs, hw.tb, hw.n, hw.flat, fun H0 u s0 hu1 hu2 => ⟨u, _, rfl, .inl (SqL.of hu2), rfl, flat_zs _, _, rfl, ?_⟩⟩⟩
          rw [inV_zs]
          show if (!(lets d.n d.text).contains m) = true then _ else _
          rw [letters_lets] at k
          refine ite2 (fun h1 => ?_) fun h1 => ?_
          · rw [if_pos (by simpa using h1)] at k
            exact k.one hd0 s0
          have hcm : m ∈ Uw63.letters d := by
            have h1 : (lets d.n d.text).contains m = true := by simpa using h1
            exact List.contains_iff_mem.mp h1
          rw [if_neg (by simpa using h1)] at k
          refine rd_asg (fnd H0 _ s0 (fun e H1 s1 => ?_) fun l e H1 r s1 hf => ?_)
          · rw [e] at k
            exact rd_non rfl (k.one hd0 s1)
          · rw [e] at k
            exact rd_ref rfl (rd_no rfl (by decide) (rd_no rfl (by decide) (rd_yes rfl ⟨_, rfl, a, dx, _, rfl, s1 _ _ h0, rfl, _, rfl, tl, _, _, _, rfl, rfl, s1.seq htl, atI_nat' (i := 0) (x := V.int (m : Int)) rfl, _, rfl, a, W, Tx, D, r, d, l, m, rfl, hd0.same s1, hw, hf, hcm, k.later s1⟩)))
    refine rd_andno rfl (by omega) ?_
    have i4 : i = 4 ∨ i = 5 ∨ i = 7 ∨ i = 8 := by omega
    rcases i4 with rfl | rfl | rfl | rfl
    · cases ms with
      | cons m r => cases hx
      | nil =>
        cases hx
        have k : Ans C H a W Tx D Q (Uw63.onReadings d fun l => ansReadings d l) := k
        rw [onR_text hne0] at k
        refine rd_asg (fnd H _ (Same.refl H) (fun e H1 s1 => ?_) fun l e H1 r s1 hf => ?_)
        · rw [e] at k
          exact rd_non rfl (k.one hd0 s1)
        · rw [e] at k
          exact rd_ref rfl (rd_yes rfl ⟨_, rfl, a, dx, _, rfl, s1 _ _ h0, rfl, _, rfl, a, W, Tx, D, r, d, l, rfl, hd0.same s1, hw, hf, k.later s1⟩)
    · cases ms with
      | cons m r => cases hx
      | nil =>
        cases hx
        have k : Ans C H a W Tx D Q (Uw63.onReadings d fun l => ansSure d l) := k
        rw [onR_text hne0] at k
        refine rd_asg (fnd H _ (Same.refl H) (fun e H1 s1 => ?_) fun l e H1 r s1 hf => ?_)
        · rw [e] at k
          exact rd_non rfl (k.one hd0 s1)
        · rw [e] at k
          exact rd_ref rfl (rd_no rfl (by decide) (rd_yes rfl ⟨_, rfl, a, dx, _, rfl, s1 _ _ h0, rfl, _, rfl, a, W, Tx, D, r, d, l, rfl, hd0.same s1, hw, hf, k.later s1⟩))
    · cases ms with
      | nil => cases hx
      | cons m r =>
        cases r with
        | cons m2 r => cases hx
        | nil =>
          cases hx
          have k : Ans C H a W Tx D Q (Uw63.onReadings d fun l => ansTells l m) := k
          rw [onR_text hne0] at k
          refine rd_asg (fnd H _ (Same.refl H) (fun e H1 s1 => ?_) fun l e H1 r s1 hf => ?_)
          · rw [e] at k
            exact rd_non rfl (k.one hd0 s1)
          · rw [e] at k
            exact rd_ref rfl (rd_no rfl (by decide) (rd_no rfl (by decide) (rd_no rfl (by decide) (rd_yes rfl ⟨_, rfl, a, dx, _, rfl, s1 _ _ h0, rfl, _, rfl, tl, _, _, _, rfl, rfl, s1.seq htl, atI_nat' (i := 0) (x := V.int (m : Int)) rfl, _, rfl, a, W, Tx, D, r, d, l, m, rfl, hd0.same s1, hw, hf, k.later s1⟩))))
    · cases ms with
      | nil => cases hx
      | cons m r =>
        cases r with
        | cons m2 r => cases hx
        | nil =>
          cases hx
          have k : Ans C H a W Tx D Q (Uw63.onReadings d fun l => ansNeed d l m) := k
          rw [onR_text hne0] at k
          refine rd_asg (fnd H _ (Same.refl H) (fun e H1 s1 => ?_) fun l e H1 r s1 hf => ?_)
          · rw [e] at k
            exact rd_non rfl (k.one hd0 s1)
          · rw [e] at k
            exact rd_ref rfl (rd_no rfl (by decide) (rd_no rfl (by decide) (rd_no rfl (by decide) (rd_no rfl (by decide) ⟨_, rfl, a, dx, _, rfl, s1 _ _ h0, rfl, _, rfl, tl, _, _, _, rfl, rfl, s1.seq htl, atI_nat' (i := 0) (x := V.int (m : Int)) rfl, _, rfl, a, W, Tx, D, r, d, l, m, rfl, hd0.same s1, hw, hf, k.later s1⟩))))
end
end LX
end
section
set_option Elab.async false
set_option linter.all false
set_option maxRecDepth 100000
set_option maxHeartbeats 2000000
namespace LX
open PySem PySem.Spec PyProof.Rows L2 LM1
theorem callIn_11 (n : Nat) (ms : List Nat) : Uw63Neutral.callIn ((n + 11) :: ms) = none := by
  cases ms with
  | nil => rfl
  | cons m r =>
    cases r with
    | nil => rfl
    | cons m2 r =>
      cases r with
      | nil => rfl
      | cons m3 r => rfl
theorem callIn_le {i : Nat} {ms : List Nat} {x : Uw63.Call} (h : Uw63Neutral.callIn (i :: ms) = some x) : i ≤ 10 := by
  refine Nat.le_of_not_lt fun z => ?_
  obtain ⟨n, hn⟩ : ∃ n, i = n + 11 := ⟨i - 11, by omega⟩
  rw [hn, callIn_11] at h
  cases h
theorem callIn_3 : ∀ {ms : List Nat} {x : Uw63.Call}, Uw63Neutral.callIn (3 :: ms) = some x → ∃ c p, ms = [c, p] ∧ x = .hint c p
  | [], _, h => by cases h
  | [_], _, h => by cases h
  | [c, p], _, h => by
    cases h
    exact ⟨c, p, rfl, rfl⟩
  | _ :: _ :: _ :: _, _, h => by cases h
theorem step_no {d : Uw63.Desk} (h : d.text = []) : (∀ c p, Uw63.step d (.hint c p) = (d, [-3])) ∧ Uw63.step d .readings = (d, [-3]) ∧ Uw63.step d .sure = (d, [-3]) ∧ (∀ c, Uw63.step d (.may c) = (d, [-3])) ∧ (∀ c, Uw63.step d (.tells c) = (d, [-3])) ∧ (∀ c, Uw63.step d (.need c) = (d, [-3])) ∧ Uw63.step d .nearest = (d, [-3]) ∧ ∀ c, Uw63.step d (.shapes c) = (d, [-3]) := by
  have e : d.text.isEmpty = true := by rw [h]; rfl
  refine ⟨fun c p => ?_, ?_, ?_, fun c => ?_, fun c => ?_, fun c => ?_, ?_, fun c => ?_⟩
  · rw [step_hint, if_pos e]
  all_goals (simp only [Uw63.step, Uw63.onReadings, Uw63.onText, e, if_true])
theorem call_no {d : Uw63.Desk} (h : d.text = []) {i : Nat} {ms : List Nat} {x : Uw63.Call} (hi : 3 ≤ i) (hl : i ≤ 10) (e : Uw63Neutral.callIn (i :: ms) = some x) : Uw63.step d x = (d, [-3]) := by
  have q := step_no h
  obtain ⟨q3, q4, q5, q6, q7, q8, q9, q10⟩ := q
  have none0 : ∀ {j : Nat} {c : Uw63.Call} {ms : List Nat}, (Uw63Neutral.callIn [j] = some c) → (∀ m r, Uw63Neutral.callIn (j :: m :: r) = none) → Uw63Neutral.callIn (j :: ms) = some x → x = c := by
    intro j c ms h1 h2 h3
    cases ms with
    | nil =>
      rw [h1] at h3
      cases h3
      rfl
    | cons m r =>
      rw [h2] at h3
      cases h3
  have one0 : ∀ {j : Nat} {c : Nat → Uw63.Call} {ms : List Nat}, Uw63Neutral.callIn [j] = none → (∀ m, Uw63Neutral.callIn [j, m] = some (c m)) → (∀ m n r, Uw63Neutral.callIn (j :: m :: n :: r) = none) → Uw63Neutral.callIn (j :: ms) = some x → ∃ m, x = c m := by
    intro j c ms h0 h1 h2 h3
    cases ms with
    | nil =>
      rw [h0] at h3
      cases h3
    | cons m r =>
      cases r with
      | nil =>
        rw [h1] at h3
        cases h3
        exact ⟨m, rfl⟩
      | cons n r =>
        rw [h2] at h3
        cases h3
  by_cases i3 : i = 3
  · subst i3
    obtain ⟨c, p, _, rfl⟩ := callIn_3 e
    exact q3 c p
  by_cases i4 : i = 4
  · subst i4
    rw [none0 rfl (fun _ _ => rfl) e]
    exact q4
  by_cases i5 : i = 5
  · subst i5
    rw [none0 rfl (fun _ _ => rfl) e]
    exact q5
  by_cases i6 : i = 6
  · subst i6
    obtain ⟨m, rfl⟩ := one0 rfl (fun _ => rfl) (fun _ _ _ => rfl) e
    exact q6 m
  by_cases i7 : i = 7
  · subst i7
    obtain ⟨m, rfl⟩ := one0 rfl (fun _ => rfl) (fun _ _ _ => rfl) e
    exact q7 m
  by_cases i8 : i = 8
  · subst i8
    obtain ⟨m, rfl⟩ := one0 rfl (fun _ => rfl) (fun _ _ _ => rfl) e
    exact q8 m
  by_cases i9 : i = 9
  · subst i9
    rw [none0 rfl (fun _ _ => rfl) e]
    exact q9
  · have i10 : i = 10 := by omega
    subst i10
    obtain ⟨m, rfl⟩ := one0 rfl (fun _ => rfl) (fun _ _ _ => rfl) e
    exact q10 m
inductive IspAnswer (K : PySem.W.Frag) (C : Addr) (vs : List V) (H : Hp) (Q : VK) : Prop
  | mk (a W T D tl : Addr) (d : Uw63.Desk) (x : Uw63.Call) (i : Nat) (ms : List Nat) (h0 : vs = [.ref a, .int i, .ref tl]) (h1 : DeskAt C H a W T D d) (h2 : WF d) (h3 : SqL K H tl (zs ms)) (h4 : ms.length ≤ 7000) (h5 : Uw63Neutral.callIn (i :: ms) = some x) (h6 : Ans C H a W T D Q (Uw63.step d x))
noncomputable def spAnswer (K : PySem.W.Frag) (C : Addr) : Sp := fun vs H Q _ => IspAnswer K  C  vs H Q
section
variable {P : Program} {w : World} {K : PySem.W.Frag} {mg : Str → Option Value} {base : Heap}
theorem scAnswer : FnScope ["desk", "call", "told"] ["desk", "call", "told"] (defScope sAnswer) := ⟨rfl, rfl, rfl, by decide +kernel, rfl, by decide +kernel, by decide +kernel⟩
theorem ok_answer {f C fBe fWo fTe fHi fNe fSh fA : Addr} {fd fdBe fdWo fdTe fdHi fdNe fdSh fdA : FuncData} (F : Fun K "answer" "answer" sAnswer f fd) (S : TxtK K mg C) (N : TxtN mg)
    (GBe : FnOk P w K mg base CX0 1 fBe fdBe ["self", "n"] (spBegins C)) (bBe : Binds K fdBe ["self", "n"] []) (mBe : Meth K C "begins" fBe)
    (GWo : FnOk P w K mg base CX0 2 fWo fdWo ["self", "letters"] (spWord K C)) (bWo : Binds K fdWo ["self", "letters"] []) (mWo : Meth K C "word" fWo)
    (GTe : FnOk P w K mg base CX0 3 fTe fdTe ["self", "told"] (spText K C)) (bTe : Binds K fdTe ["self", "told"] []) (mTe : Meth K C "text" fTe)
    (GHi : FnOk P w K mg base CX0 2 fHi fdHi ["self", "letter", "meant"] (spHint C)) (bHi : Binds K fdHi ["self", "letter", "meant"] []) (mHi : Meth K C "hint" fHi)
    (GNe : FnOk P w K mg base CX0 8 fNe fdNe ["self"] (spNearest C)) (bNe : Binds K fdNe ["self"] []) (mNe : Meth K C "nearest" fNe)
    (GSh : FnOk P w K mg base CX0 3 fSh fdSh ["self", "place"] (spShapes C)) (bSh : Binds K fdSh ["self", "place"] []) (mSh : Meth K C "shapes" fSh)
    (GA : FnOk P w K mg base CX0 5 fA fdA ["desk", "call", "told"] (spAoR K C)) (kA : PySem.W.keepIn K (.ref fA) = true) (bA : Binds K fdA ["desk", "call", "told"] []) (mA : mg "answer_of_readings" = some (.ref fA)) :
    FnOk P w K mg base CX0 9 f fd ["desk", "call", "told"] (spAnswer K C) := by
  have GBe : FnOk P w K mg base CX0 8 fBe fdBe ["self", "n"] (spBegins C) := GBe.mono (by decide)
  have GWo : FnOk P w K mg base CX0 8 fWo fdWo ["self", "letters"] (spWord K C) := GWo.mono (by decide)
  have GTe : FnOk P w K mg base CX0 8 fTe fdTe ["self", "told"] (spText K C) := GTe.mono (by decide)
  have GHi : FnOk P w K mg base CX0 8 fHi fdHi ["self", "letter", "meant"] (spHint C) := GHi.mono (by decide)
  have GSh : FnOk P w K mg base CX0 8 fSh fdSh ["self", "place"] (spShapes C) := GSh.mono (by decide)
  have GA : FnOk P w K mg base CX0 8 fA fdA ["desk", "call", "told"] (spAoR K C) := GA.mono (by decide)
  obtain ⟨t0, e0⟩ := N.begins
  obtain ⟨t1, e1⟩ := N.word
  obtain ⟨t2, e2⟩ := N.text
  obtain ⟨t3, e3⟩ := N.hint
  obtain ⟨t9, e9⟩ := N.nearest
  obtain ⟨t10, e10⟩ := N.shapes
  obtain ⟨tn, en⟩ := N.noText
  refine F.ok scAnswer (fun vs H Q E h => ?_) (fun cdv A outer s H vs Q E hr h => ?_)
  · obtain ⟨a, W, Tx, D, tl, d, x, i, ms, rfl, _⟩ := h
    rfl
  · obtain ⟨a, W, Tx, D, tl, d, x, i, ms, rfl, hd, hw, htl, hml, hx, k⟩ := h
    refine ⟨_, pss_cons (ps_if (pt_cmpR op_eq (pv 1) (pe_glob (by rfl) e0 (v := .int 0) ⟨_, rfl⟩) (nomark _)) (pss_one (ps_ret (pe_meth (pv 0) S.cl mBe GBe hr bBe .nil pass0 (pa_cons (pe_ix ix_list (pv 2) pe_int (fun _ _ => rfl)) pa_nil)))) pss_nil)
      (pss_cons (ps_if (pt_cmpR op_eq (pv 1) (pe_glob (by rfl) e1 (v := .int 1) ⟨_, rfl⟩) (nomark _)) (pss_one (ps_ret (pe_meth (pv 0) S.cl mWo GWo hr bWo .nil pass0 (pa_cons (pv 2) pa_nil)))) pss_nil)
      (pss_cons (ps_if (pt_cmpR op_eq (pv 1) (pe_glob (by rfl) e2 (v := .int 2) ⟨_, rfl⟩) (nomark _)) (pss_one (ps_ret (pe_meth (pv 0) S.cl mTe GTe hr bTe .nil pass0 (pa_cons (pv 2) pa_nil)))) pss_nil)
      (pss_cons (ps_if (pt_not (pt_truth (pe_fld (pv 0) rfl) (fun _ => rfl))) (pss_one (ps_ret (pe_lst (pa_cons (pe_glob (by rfl) en (v := .int (-3)) ⟨_, rfl⟩) pa_nil)))) pss_nil)
      (pss_cons (ps_if (pt_cmpR op_eq (pv 1) (pe_glob (by rfl) e3 (v := .int 3) ⟨_, rfl⟩) (nomark _)) (pss_one (ps_ret (pe_meth (pv 0) S.cl mHi GHi hr bHi .nil pass0 (pa_cons (pe_ix ix_list (pv 2) pe_int (fun _ _ => rfl)) (pa_cons (pe_ix ix_list (pv 2) pe_int (fun _ _ => rfl)) pa_nil))))) pss_nil)
      (pss_cons (ps_if (pt_cmpR op_eq (pv 1) (pe_glob (by rfl) e9 (v := .int 9) ⟨_, rfl⟩) (nomark _)) (pss_one (ps_ret (pe_meth0 (pv 0) S.cl mNe GNe hr bNe .nil pass0))) pss_nil)
      (pss_cons (ps_if (pt_cmpR op_eq (pv 1) (pe_glob (by rfl) e10 (v := .int 10) ⟨_, rfl⟩) (nomark _)) (pss_one (ps_ret (pe_meth (pv 0) S.cl mSh GSh hr bSh .nil pass0 (pa_cons (pe_ix ix_list (pv 2) pe_int (fun _ _ => rfl)) pa_nil)))) pss_nil)
      (pss_one (ps_ret (pe_call GA hr rfl mA kA bA .nil pass0 (pa_cons (pv 0) (pa_cons (pv 1) (pa_cons (pv 2) pa_nil)))))))))))), ?_⟩
    have hd0 := hd
    obtain ⟨⟨dx, h0⟩, ⟨ws, hW, hWs⟩, ⟨ts, hT, hTs⟩, hD, hne⟩ := hd
    have hil := callIn_le hx
    by_cases i0 : i = 0
    · subst i0
      cases ms with
      | nil => cases hx
      | cons m r =>
        cases r with
        | cons m2 r => cases hx
        | nil =>
          cases hx
          exact rd_yes rfl ⟨_, rfl, a, dx, _, rfl, h0, rfl, _, rfl, tl, _, _, _, rfl, rfl, htl, atI_nat' (i := 0) (x := V.int (m : Int)) rfl, a, W, Tx, D, d, m, rfl, hd0, k⟩
    refine rd_no rfl (by omega) ?_
    by_cases i1 : i = 1
    · subst i1
      have hx : some (Uw63.Call.word ms) = some x := hx
      cases hx
      exact rd_yes rfl ⟨_, rfl, a, dx, _, rfl, h0, rfl, _, rfl, a, W, Tx, D, tl, d, ms, rfl, hd0, hw, htl, k⟩
    refine rd_no rfl (by omega) ?_
    by_cases i2 : i = 2
    · subst i2
      have hx : some (Uw63.Call.text ms) = some x := hx
      cases hx
      exact rd_yes rfl ⟨_, rfl, a, dx, _, rfl, h0, rfl, _, rfl, a, W, Tx, D, tl, d, ms, rfl, hd0, hw, htl, hml, k⟩
    refine rd_no rfl (by omega) ?_
    refine ⟨_, rfl, a, C, dx, _, _, rfl, h0, S.cl, S.nT, df_written, _, .inl ⟨_, SqL.of hT, rfl⟩, ?_⟩
    have hi3 : 3 ≤ i := by omega
    by_cases hte : d.text = []
    · rw [call_no hte hi3 hil hx] at k
      have hts : ts = [] := List.eq_nil_of_length_eq_zero (by rw [hTs.len, hte]; rfl)
      subst hts
      exact iteT (k.one hd0 (Same.refl H))
    obtain ⟨y, r, rfl⟩ : ∃ y r, ts = y :: r := by
      cases ts with
      | nil =>
        have := hTs.len
        exact absurd (List.eq_nil_of_length_eq_zero this.symm) hte
      | cons y r => exact ⟨y, r, rfl⟩
    refine iteF ?_
    by_cases i3 : i = 3
    · subst i3
      obtain ⟨c, p, rfl, rfl⟩ := callIn_3 hx
      exact rd_yes rfl ⟨_, rfl, a, dx, _, rfl, h0, rfl, _, rfl, tl, _, _, _, rfl, rfl, htl, atI_nat' (i := 0) (x := V.int (c : Int)) rfl, _, rfl, tl, _, _, _, rfl, rfl, htl, atI_nat' (i := 1) (x := V.int (p : Int)) rfl, a, W, Tx, D, d, c, p, rfl, hd0, hw, hte, k⟩
    refine rd_no rfl (by omega) ?_
    by_cases i9 : i = 9
    · subst i9
      cases ms with
      | cons m r => cases hx
      | nil =>
        cases hx
        have k : Ans C H a W Tx D Q (Uw63.onText d fun _ => ansNearest d) := k
        rw [onT_text hte] at k
        exact rd_yes rfl ⟨_, rfl, a, dx, _, rfl, h0, rfl, a, W, Tx, D, d, rfl, hd0, hw, k⟩
    refine rd_no rfl (by omega) ?_
    by_cases i10 : i = 10
    · subst i10
      cases ms with
      | nil => cases hx
      | cons m r =>
        cases r with
        | cons m2 r => cases hx
        | nil =>
          cases hx
          have k : Ans C H a W Tx D Q (Uw63.onText d fun _ => ansShapes d m) := k
          rw [onT_text hte] at k
          exact rd_yes rfl ⟨_, rfl, a, dx, _, rfl, h0, rfl, _, rfl, tl, _, _, _, rfl, rfl, htl, atI_nat' (i := 0) (x := V.int (m : Int)) rfl, a, W, Tx, D, d, m, rfl, hd0, hw, k⟩
    refine rd_no rfl (by omega) ?_
    exact ⟨_, rfl, _, rfl, _, rfl, a, W, Tx, D, tl, d, x, i, ms, rfl, hd0, hw, htl, hte, by omega, by omega, hx, k⟩
end
end LX
end
section
set_option Elab.async false
set_option linter.all false
set_option maxRecDepth 100000
set_option maxHeartbeats 2000000
namespace LX
open PySem PySem.Spec PyProof.Rows L2 LM1
noncomputable def plainV : List V := [.int 1, .non, .non, .int 2, .int 0, .int 0, .int 1, .int 1, .int 1, .int 0, .int 1]
structure TxtP (K : PySem.W.Frag) (mg : Str → Option Value) : Prop where
  pn : ∃ a, mg "PLAIN_NUMBERS" = some (.ref a) ∧ ∀ H, SqT K H a plainV
theorem plain_some : ∀ {i n : Nat}, plainN[i]? = some (some n) → plainV[i]? = some (.int (n : Int))
  | 0, _, h => by cases h; rfl
  | 1, _, h => by cases h
  | 2, _, h => by cases h
  | 3, _, h => by cases h; rfl
  | 4, _, h => by cases h; rfl
  | 5, _, h => by cases h; rfl
  | 6, _, h => by cases h; rfl
  | 7, _, h => by cases h; rfl
  | 8, _, h => by cases h; rfl
  | 9, _, h => by cases h; rfl
  | 10, _, h => by cases h; rfl
  | _ + 11, _, h => by cases h
theorem plain_none : ∀ {i : Nat}, plainN[i]? = some none → plainV[i]? = some .non
  | 0, h => by cases h
  | 1, _ => rfl
  | 2, _ => rfl
  | 3, h => by cases h
  | 4, h => by cases h
  | 5, h => by cases h
  | 6, h => by cases h
  | 7, h => by cases h
  | 8, h => by cases h
  | 9, h => by cases h
  | 10, h => by cases h
  | _ + 11, h => by cases h
theorem cut_at (xs : List V) (i c : Nat) (hi : i ≤ xs.length) : cutV xs (some (i : Int)) (some ((i : Int) + (c : Int))) = (xs.drop i).take c := by
  have e1 : HT.sIx xs.length 0 (some (i : Int)) = i := by
    unfold HT.sIx
    dsimp only
    rw [if_neg (by omega)]
    omega
  have e2 : HT.sIx xs.length xs.length (some ((i : Int) + (c : Int))) = min (i + c) xs.length := by
    unfold HT.sIx
    dsimp only
    rw [if_neg (by omega)]
    omega
  unfold cutV
  rw [e1, e2]
  by_cases h : i + c ≤ xs.length
  · rw [Nat.min_eq_left h]
    congr 1
    omega
  · rw [Nat.min_eq_right (by omega), List.take_of_length_le (by rw [List.length_drop]; exact Nat.le_refl _), List.take_of_length_le (by rw [List.length_drop]; omega)]
noncomputable def iv (l : List Int) : List V := l.map V.int
theorem iv_len (l : List Int) : (iv l).length = l.length := List.length_map _
theorem iv_cut (ns : List Int) (i c : Nat) (hi : i ≤ ns.length) : cutV (iv ns) (some (i : Int)) (some ((i : Int) + (c : Int))) = iv ((ns.drop i).take c) := by
  rw [cut_at _ _ _ (by rw [iv_len]; exact hi)]
  unfold iv
  rw [List.map_take, List.map_drop]
theorem iv_get {ns : List Int} {i : Nat} {z : Int} (h : ns[i]? = some z) : (iv ns)[i]? = some (V.int z) := by
  unfold iv
  rw [List.getElem?_map, h]
  rfl
structure PartsAt (H : Hp) (ps : List Addr) (hs : List (Nat × Addr)) (parts : List (Nat × List Int)) : Prop where
  tup : ObAt (fun (x : Nat × Addr) => HO.tup [V.int (x.1 : Int), V.ref x.2]) H ps hs
  lst : ObAt (fun (x : List Int) => HO.lst (iv x)) H (hs.map (·.2)) (parts.map (·.2))
  fst : hs.map (·.1) = parts.map (·.1)
theorem PartsAt.same {H H' : Hp} {ps : List Addr} {hs : List (Nat × Addr)} {parts : List (Nat × List Int)} (h : PartsAt H ps hs parts) (s : Same H H') : PartsAt H' ps hs parts := ⟨h.tup.same s, h.lst.same s, h.fst⟩
noncomputable def callP (x : Nat × List Int) : List Int := (x.1 : Int) :: x.2
inductive IspSplit (K : PySem.W.Frag) (vs : List V) (H : Hp) (Q : VK) : Prop
  | mk (a : Addr) (ns : List Int) (raw : List (List (List Int))) (h0 : vs = [.ref a]) (h1 : SqL K H a (iv ns)) (h2 : ns.length ≤ 7000) (h3 : PyFlat.calls PyUw63.shape ns.length ns = some raw) (h4 : ∀ (H' : Hp) (r : Addr) (ps : List Addr) (hs : List (Nat × Addr)) (parts : List (Nat × List Int)), Same H H' → H r = none → H' r = some (.lst (ps.map V.ref)) → PartsAt H' ps hs parts → (∀ x ∈ hs, H x.2 = none) → raw.map hdW = parts.map callP → (∀ x ∈ parts, x.2.length ≤ 7000) → (∀ x ∈ hs, x.2 ≠ r) → Q (.ref r) H')
noncomputable def spSplit (K : PySem.W.Frag) : Sp := fun vs H Q _ => IspSplit K  vs H Q
section
variable {P : Program} {w : World} {K : PySem.W.Frag} {mg : Str → Option Value} {base : Heap}
theorem scSplit : FnScope ["calls", "parts", "place", "call", "first", "count"] ["calls"] (defScope sSplit) := ⟨rfl, rfl, rfl, by decide +kernel, rfl, by decide +kernel, by decide +kernel⟩
theorem ok_split {f : Addr} {fd : FuncData} (F : Fun K "split_calls" "split_calls" sSplit f fd) (T : TxtA mg) (PN : TxtP K mg) : FnOk P w K mg base CX0 1 f fd ["calls"] (spSplit K) := by
  obtain ⟨pn, epn, hpn⟩ := PN.pn
  refine F.ok scSplit (fun vs H Q E h => ?_) (fun cdv A outer s H vs Q E hr h => ?_)
  · obtain ⟨a, ns, raw, rfl, _⟩ := h
    rfl
  · obtain ⟨a, ns, raw, rfl, ha, hln, hraw, k1⟩ := h
    refine ⟨_, pss_cons (ps_set (i := 1) scSplit.nd rfl (Or.inl rfl) (pe_lst pa_nil)) (pss_cons (ps_set (i := 2) scSplit.nd rfl (Or.inl rfl) pe_int)
      (pss_cons (ps_while PassesOwn.never (pt_cmpR op_lt (pv 2) (pe_callB call_len_seq (by rfl) T.len PySem.boot_len (pa_cons (pv 0) pa_nil)) (nomark _))
        (pss_cons (ps_set (i := 3) scSplit.nd rfl (Or.inl rfl) (pe_ix ix_list (pv 0) (pv 2) (fun _ _ => rfl)))
        (pss_cons (ps_set (i := 4) scSplit.nd rfl (Or.inl rfl) (pe_op op_add (pv 2) pe_int))
        (pss_cons (ps_set (i := 5) scSplit.nd rfl (Or.inl rfl) (pe_ix ix_tup (pe_glob (by rfl) epn (v := .ref pn) rfl) (pv 3) (fun _ _ => rfl)))
        (pss_cons (ps_if (pt_cmpR op_isN (pv 5) pe_non (nomark _)) (pss_cons (ps_set (i := 5) scSplit.nd rfl (Or.inl rfl) (pe_ix ix_list (pv 0) (pv 4) (fun _ _ => rfl))) (pss_one (ps_set (i := 4) scSplit.nd rfl (Or.inl rfl) (pe_op op_add (pv 4) pe_int)))) pss_nil)
        (pss_cons (ps_expr (pe_bm PySem.F.plainAttrs_list PySem.F.slot_list_append PySem.F.type_list_append mt_append (pv 1) (pa_cons (pe_tup (pa_cons (pv 3) (pa_cons (pe_slice sl_list (pv 0) (po_some (pv 4)) (po_some (pe_op op_add (pv 4) (pv 5)))) pa_nil))) pa_nil)))
        (pss_one (ps_set (i := 2) scSplit.nd rfl (Or.inl rfl) (pe_op op_add (pv 4) (pv 5))))))))))
      (pss_one (ps_ret (pv 1))))), ?_⟩
    refine ⟨Nat.zero_le _, fun r hr0 => ?_⟩
    let J : Nat → Hp → Prop := fun pl H' => ∃ (fu : Nat) (rest : List (List (List Int))) (ps : List Addr) (hs : List (Nat × Addr)) (parts : List (Nat × List Int)), pl ≤ ns.length ∧ parts.length ≤ pl ∧ PyFlat.calls PyUw63.shape fu (ns.drop pl) = some rest ∧ raw.map hdW = parts.map callP ++ rest.map hdW ∧
      Same H H' ∧ H' r = some (.lst (ps.map V.ref)) ∧ PartsAt H' ps hs parts ∧ (∀ x ∈ hs, H x.2 = none) ∧ (∀ x ∈ parts, x.2.length ≤ 7000) ∧ ∀ x ∈ hs, x.2 ≠ r
    refine ⟨fun m σ H' => ∃ (pl : Nat) (v3 v4 v5 : Option V), m = ns.length - pl ∧ σ = [some (.ref a), some (.ref r), some (.int pl), v3, v4, v5] ∧ J pl H',
      ⟨_, 0, none, none, none, rfl, rfl, ns.length, raw, [], [], [], Nat.zero_le _, Nat.le_refl _, hraw, rfl, same_new hr0, upd_same, ⟨.nil, .nil, rfl⟩, by simp, by simp, by simp⟩, ?_⟩
    rintro m σ H1 ⟨pl, v3, v4, v5, rfl, rfl, fu, rest, ps, hs, parts, hpl, hpp, hcs, hrw, s1, hr1, hP, hO, hL, hN⟩
    refine ⟨_, rfl, _, rfl, a, _, rfl, .inl (s1.seq ha), _, _, rfl, rfl, _, rfl, ?_⟩
    rw [iv_len]
    refine ite2 (fun h1 => ?_) fun h1 => ?_
    · have h1' : pl < ns.length := by
        have := of_decide_eq_true h1
        omega
      obtain ⟨p, hp⟩ : ∃ p, ns[pl]? = some p := ⟨_, List.getElem?_eq_getElem h1'⟩
      have ed : ns.drop pl = p :: ns.drop (pl + 1) := by
        rw [List.drop_eq_getElem_cons h1']
        rw [List.getElem?_eq_getElem h1'] at hp
        rw [Option.some.inj hp]
      rw [ed] at hcs
      cases fu with
      | zero => cases hcs
      | succ fu =>
        have hcs : (match PyFlat.call PyUw63.shape (p :: ns.drop (pl + 1)) with
          | none => none
          | some (c, t) => match PyFlat.calls PyUw63.shape fu t with
            | none => none
            | some cs => some (c :: cs)) = some rest := hcs
        cases ec : PyFlat.call PyUw63.shape (p :: ns.drop (pl + 1)) with
        | none =>
          rw [ec] at hcs
          cases hcs
        | some ct =>
          obtain ⟨c, t⟩ := ct
          rw [ec] at hcs
          dsimp only at hcs
          cases et : PyFlat.calls PyUw63.shape fu t with
          | none =>
            rw [et] at hcs
            cases hcs
          | some cs =>
            rw [et] at hcs
            cases hcs
            have hps : ps.length ≤ 7000 := by
              have h2 := hP.tup.len
              have h3 := congrArg List.length hP.fst
              rw [List.length_map, List.length_map] at h3
              omega
            refine ⟨fun σ' H'' => ∃ (pl' : Nat) (v3 v4 v5 : Option V), ns.length - pl' < ns.length - pl ∧ σ' = [some (.ref a), some (.ref r), some (.int pl'), v3, v4, v5] ∧ J pl' H'', ?_, ?_⟩
            · rintro σ' H'' ⟨pl', w3, w4, w5, lt, e, j⟩
              exact ⟨_, lt, pl', w3, w4, w5, rfl, e, j⟩
            refine ⟨_, rfl, _, rfl, a, _, _, _, rfl, rfl, s1.seq ha, atI_nat' (iv_get hp), _, rfl, _, _, rfl, rfl, ?_⟩
            have fin : ∀ (i fst cnt : Nat), p = (i : Int) → pl < fst → fst + cnt ≤ ns.length → hdW c = p :: (ns.drop fst).take cnt → t = ns.drop (fst + cnt) →
                ∀ (q l : Addr), H1 l = none → (upd H1 l (.lst (iv ((ns.drop fst).take cnt)))) q = none →
                  J (fst + cnt) (upd (upd (upd H1 l (.lst (iv ((ns.drop fst).take cnt)))) q (.tup [.int (i : Int), .ref l])) r (.lst (ps.map V.ref ++ [.ref q]))) := by
              intro i fst cnt hpi hfst hfc hc ht q l hl hq
              have hrl : r ≠ l := ne_of_none hr1 hl
              have s2 := (same_new (o := .lst (iv ((ns.drop fst).take cnt))) hl).trans (same_new (o := .tup [.int (i : Int), .ref l]) hq)
              have hq2 : (upd (upd H1 l (.lst (iv ((ns.drop fst).take cnt)))) q (.tup [.int (i : Int), .ref l])) q = some (.tup [.int (i : Int), .ref l]) := upd_same
              have hl2 : (upd (upd H1 l (.lst (iv ((ns.drop fst).take cnt)))) q (.tup [.int (i : Int), .ref l])) l = some (.lst (iv ((ns.drop fst).take cnt))) := (same_new hq) _ _ upd_same
              generalize upd (upd H1 l (.lst (iv ((ns.drop fst).take cnt)))) q (.tup [.int (i : Int), .ref l]) = H2 at s2 hq2 hl2 ⊢
              have hr2 := s2 _ _ hr1
              have hNr : r ∉ (hs ++ [(i, l)]).map (·.2) := by
                intro z
                obtain ⟨x, hx, e⟩ := List.mem_map.mp z
                rcases List.mem_append.mp hx with u | u
                · exact hN x u e
                · rw [List.mem_singleton.mp u] at e
                  exact hrl e.symm
              refine ⟨fu, cs, ps ++ [q], hs ++ [(i, l)], parts ++ [(i, (ns.drop fst).take cnt)], hfc, ?_, ?_, ?_, same_upd (s1.trans s2) hr0, ?_, ⟨?_, ?_, ?_⟩, ?_, ?_, ?_⟩
              · rw [List.length_append]
                show parts.length + 1 ≤ _
                omega
              · rw [← ht]
                exact et
              · rw [hrw, List.map_append, List.append_assoc]
                show parts.map callP ++ (hdW c :: cs.map hdW) = parts.map callP ++ ([callP (i, (ns.drop fst).take cnt)] ++ cs.map hdW)
                rw [hc, hpi]
                rfl
              · rw [upd_same, List.map_append]
                rfl
              · exact ObAt.upd (ObAt.snoc (hP.tup.same s2) hq2) fun x z => by
                  rw [hr2] at z
                  cases z
              · rw [List.map_append, List.map_append]
                rw [List.map_append] at hNr
                exact ObAt.updN (ObAt.snoc (hP.lst.same s2) hl2) hNr
              · rw [List.map_append, List.map_append, hP.fst]
                rfl
              · intro x hx
                rcases List.mem_append.mp hx with u | u
                · exact hO x u
                · rw [List.mem_singleton.mp u]
                  exact s1.free hl
              · intro x hx
                rcases List.mem_append.mp hx with u | u
                · exact hL x u
                · rw [List.mem_singleton.mp u]
                  show ((ns.drop fst).take cnt).length ≤ 7000
                  rw [List.length_take, List.length_drop]
                  omega
              · intro x hx e
                exact hNr (List.mem_map.mpr ⟨x, hx, e⟩)
            cases told_of ec with
            | plain i n hpi hin hnl hc ht =>
              subst hpi
              rw [List.length_drop] at hnl
              rw [List.drop_drop] at ht
              refine ⟨_, rfl, pn, _, _, _, rfl, rfl, hpn H1, atI_nat' (plain_some hin), _, rfl, rfl, _, rfl, iteF ?_⟩
              refine ⟨_, rfl, .inl ⟨rfl, _, SqL.of hr1⟩, _, rfl, _, rfl, _, rfl, _, rfl, _, rfl, _, rfl, _, _, rfl, rfl, _, rfl, a, _, rfl, s1.seq ha, fun l hl => ?_⟩
              have ecut : cutV (iv ns) (some ((pl : Int) + 1)) (some ((pl : Int) + 1 + (n : Int))) = iv ((ns.drop (pl + 1)).take n) := iv_cut ns (pl + 1) n h1'
              rw [ecut]
              refine ⟨by show 2 ≤ sizeLine; decide, fun q hq => ⟨r, _, _, rfl, rfl, ((same_new hl).trans (same_new hq)) _ _ hr1, by rw [List.length_map]; exact small1000' (by omega), ?_⟩⟩
              exact ⟨_, rfl, _, rfl, _, _, rfl, rfl, pl + 1 + n, _, _, _, by omega, rfl, fin i (pl + 1) n rfl (by omega) (by omega) hc ht q l hl hq⟩
            | row i k' s' hpi hin hrr hkl hc ht =>
              subst hpi
              have hlt : pl + 1 < ns.length := by
                have := congrArg List.length hrr
                rw [List.length_drop, List.length_cons] at this
                omega
              have hk2 : ns[pl + 1]? = some (k' : Int) := by
                have := congrArg (fun z => z[0]?) hrr
                simpa using this
              have hs2 : s' = ns.drop (pl + 2) := by
                have := congrArg (fun z => z.drop 1) hrr
                rw [List.drop_drop] at this
                exact this.symm
              subst hs2
              rw [List.length_drop] at hkl
              rw [List.drop_drop] at ht
              refine ⟨_, rfl, pn, _, _, _, rfl, rfl, hpn H1, atI_nat' (plain_none hin), _, rfl, rfl, _, rfl, iteT ?_⟩
              refine ⟨_, rfl, _, rfl, a, _, _, _, rfl, rfl, s1.seq ha, at_of (j := pl + 1) rfl (iv_get hk2), _, rfl, _, _, rfl, rfl, ?_⟩
              refine ⟨_, rfl, .inl ⟨rfl, _, SqL.of hr1⟩, _, rfl, _, rfl, _, rfl, _, rfl, _, rfl, _, rfl, _, _, rfl, rfl, _, rfl, a, _, rfl, s1.seq ha, fun l hl => ?_⟩
              have ecut : cutV (iv ns) (some ((pl : Int) + 1 + 1)) (some ((pl : Int) + 1 + 1 + (k' : Int))) = iv ((ns.drop (pl + 2)).take k') := iv_cut ns (pl + 2) k' (by omega)
              rw [ecut]
              refine ⟨by show 2 ≤ sizeLine; decide, fun q hq => ⟨r, _, _, rfl, rfl, ((same_new hl).trans (same_new hq)) _ _ hr1, by rw [List.length_map]; exact small1000' (by omega), ?_⟩⟩
              exact ⟨_, rfl, _, rfl, _, _, rfl, rfl, pl + 2 + k', _, _, _, by omega, rfl, fin i (pl + 2) k' rfl (by omega) (by omega) hc ht q l hl hq⟩
    · have h2 : pl = ns.length := by
        have q : ¬ ((pl : Int) < (ns.length : Int)) := fun z => h1 (decide_eq_true z)
        omega
      rw [h2, List.drop_length] at hcs
      have e0 : rest = [] := by
        cases fu <;> (cases hcs; rfl)
      subst e0
      rw [List.map_nil, List.append_nil] at hrw
      exact ⟨_, rfl, k1 H1 r ps hs parts s1 hr0 hr1 hP hO hrw hL hN⟩
end
end LX
end
section
set_option Elab.async false
set_option linter.all false
set_option maxRecDepth 100000
set_option maxHeartbeats 2000000
namespace LX
open PySem PySem.Spec PyProof.Rows L2 LM1
theorem DeskAt.other {C : Addr} {H : Hp} {a W T D g : Addr} {d : Uw63.Desk} {xs : List V} {o : HO} (h : DeskAt C H a W T D d) (hg : H g = some (.lst xs)) (nW : g ≠ W) (nT : g ≠ T) : DeskAt C (upd H g o) a W T D d := by
  obtain ⟨⟨dx, h1⟩, ⟨ws, h2, h3⟩, ⟨ts, h4, h5⟩, h6, h7⟩ := h
  have n1 : a ≠ g := fun z => by
    rw [z, hg] at h1
    cases h1
  have n2 : D ≠ g := fun z => by
    rw [z, hg] at h6
    cases h6
  have nt : ∀ xs', H g ≠ some (.tup xs') := fun xs' z => by
    rw [hg] at z
    cases z
  exact ⟨⟨dx, by rw [upd_ne n1]; exact h1⟩, ⟨ws, by rw [upd_ne nW.symm]; exact h2, h3.upd nt⟩, ⟨ts, by rw [upd_ne nT.symm]; exact h4, h5.upd nt⟩, by rw [upd_ne n2]; exact h6, h7⟩
theorem PartsAt.other {H : Hp} {ps : List Addr} {hs : List (Nat × Addr)} {parts : List (Nat × List Int)} {g : Addr} {xs : List V} {o : HO} (h : PartsAt H ps hs parts) (hg : H g = some (.lst xs)) (n : ∀ x ∈ hs, x.2 ≠ g) : PartsAt (upd H g o) ps hs parts :=
  ⟨h.tup.upd fun x z => (by rw [hg] at z; cases z), h.lst.updN fun z => (by
    obtain ⟨x, hx, e⟩ := List.mem_map.mp z
    exact n x hx e), h.fst⟩
theorem ObAt.fr {α : Type} {f : α → HO} {H H' : Hp} : ∀ {as : List Addr} {xs : List α}, ObAt f H as xs → (∀ a ∈ as, ∀ o, H a = some o → H' a = some o) → ObAt f H' as xs
  | _, _, .nil, _ => .nil
  | _, _, .cons r t, s => .cons (s _ (by simp) _ r) (ObAt.fr t fun a ha => s a (by simp [ha]))
theorem told_cons' (o : List Int) (r : List (List Int)) : PyFlat.told (o :: r) = ((o.length : Int) :: o) ++ PyFlat.told r := by
  unfold PyFlat.told
  rw [List.flatMap_cons]
theorem zi_toNat {l : List Int} (h : (l.map Int.toNat).map (fun (m : Nat) => (m : Int)) = l) : zs (l.map Int.toNat) = iv l := by
  unfold zs zi iv
  rw [h]
inductive IspAns (K : PySem.W.Frag) (vs : List V) (H : Hp) (Q : VK) : Prop
  | mk (a : Addr) (ns : List Int) (h0 : vs = [.ref a]) (h1 : SqL K H a (iv ns)) (h2 : ns.length ≤ 7000) (h3 : PyUw63.answers_asked ns = true) (h4 : ∀ (H' : Hp) (p : Addr), H' p = some (.lst (iv (PyUw63.answers ns))) → Q (.ref p) H')
noncomputable def spAns (K : PySem.W.Frag) : Sp := fun vs H Q _ => IspAns K  vs H Q
section
variable {P : Program} {w : World} {K : PySem.W.Frag} {mg : Str → Option Value} {base : Heap}
theorem scAnswers : FnScope ["calls", "desk", "given", "call", "told", "numbers"] ["calls"] (defScope sAnswers) := ⟨rfl, rfl, rfl, by decide +kernel, rfl, by decide +kernel, by decide +kernel⟩
theorem ok_answers {f C fI fS fA : Addr} {fd fdI fdS fdA : FuncData} (F : Fun K "answers" "answers" sAnswers f fd) (S : TxtK K mg C) (T : TxtA mg) (M : Mk K C fI) (GI : FnOk P w K mg base CX0 1 fI fdI ["self"] (spInit C)) (bI : Binds K fdI ["self"] [])
    (GS : FnOk P w K mg base CX0 1 fS fdS ["calls"] (spSplit K)) (kS : PySem.W.keepIn K (.ref fS) = true) (bS : Binds K fdS ["calls"] []) (mS : mg "split_calls" = some (.ref fS))
    (GA : FnOk P w K mg base CX0 9 fA fdA ["desk", "call", "told"] (spAnswer K C)) (kA : PySem.W.keepIn K (.ref fA) = true) (bA : Binds K fdA ["desk", "call", "told"] []) (mA : mg "answer" = some (.ref fA)) :
    FnOk P w K mg base CX0 10 f fd ["calls"] (spAns K) := by
  have GI : FnOk P w K mg base CX0 8 fI fdI ["self"] (spInit C) := GI.mono (by decide)
  have GS : FnOk P w K mg base CX0 9 fS fdS ["calls"] (spSplit K) := GS.mono (by decide)
  refine F.ok scAnswers (fun vs H Q E h => ?_) (fun cdv A outer s H vs Q E hr h => ?_)
  · obtain ⟨a, ns, rfl, _⟩ := h
    rfl
  · obtain ⟨a, ns, rfl, ha, hln, hask, k⟩ := h
    obtain ⟨raw, hraw, hcall, hans, hsz⟩ := asked_of hask
    refine ⟨_, pss_cons (ps_set (i := 1) scAnswers.nd rfl (Or.inl rfl) (pe_make0 M GI hr rfl S.mgC bI .nil pass0))
      (pss_cons (ps_set (i := 2) scAnswers.nd rfl (Or.inl rfl) (pe_lst pa_nil))
      (pss_cons (ps_for PassesOwn.never rfl (pi_list (pe_call GS hr rfl mS kS bS .nil pass0 (pa_cons (pv 0) pa_nil))) (pg_tup rfl (pgs_cons (pg_name (i := 3) scAnswers.nd rfl (Or.inl rfl)) (pgs_cons (pg_name (i := 4) scAnswers.nd rfl (Or.inl rfl)) pgs_nil)))
        (pss_cons (ps_set (i := 5) scAnswers.nd rfl (Or.inl rfl) (pe_call GA hr rfl mA kA bA .nil pass0 (pa_cons (pv 1) (pa_cons (pv 3) (pa_cons (pv 4) pa_nil)))))
        (pss_cons (ps_expr (pe_bm PySem.F.plainAttrs_list PySem.F.slot_list_append PySem.F.type_list_append mt_append (pv 2) (pa_cons (pe_callB call_len_seq (by rfl) T.len PySem.boot_len (pa_cons (pv 5) pa_nil)) pa_nil)))
        (pss_one (ps_expr (pe_bm PySem.F.plainAttrs_list PySem.F.slot_list_extend PySem.F.type_list_extend mt_extend (pv 2) (pa_cons (pv 5) pa_nil)))))))
      (pss_one (ps_ret (pv 2))))), ?_⟩
    intro dk dx ndk ndx ndkx
    refine ⟨dk, dx, rfl, upd_same, fun H1 W0 T0 D0 hD1 fr1 hW0 hT0 hD0 => ⟨rfl, ?_⟩⟩
    have s1 : Same H H1 := Same.made ndk ndx fr1
    refine ⟨Nat.zero_le _, fun g hg => ?_⟩
    have s2 := same_new (o := .lst []) hg
    have hg2 : (upd H1 g (.lst [])) g = some (.lst (iv [])) := upd_same
    have hDk2 := hD1.same s2
    have nW0 : g ≠ W0 := by
      obtain ⟨_, ⟨ws, z, _⟩, _⟩ := hD1
      exact (ne_of_none z hg).symm
    have nT0 : g ≠ T0 := by
      obtain ⟨_, _, ⟨ts, z, _⟩, _⟩ := hD1
      exact (ne_of_none z hg).symm
    have sH2 : Same H (upd H1 g (.lst [])) := s1.trans s2
    generalize upd H1 g (.lst []) = H2 at s2 hg2 hDk2 sH2 ⊢
    refine ⟨_, rfl, a, ns, raw, rfl, sH2.seq ha, hln, hraw, fun H3 r ps hs parts s3 hr0 hr3 hP hO hrw hL hN => ?_⟩
    have hlen1 : ps.length = hs.length := hP.tup.len
    have hlen2 : hs.length = parts.length := by
      have := congrArg List.length hP.fst
      rw [List.length_map, List.length_map] at this
      exact this
    have hgr : g ≠ r := ne_of_none hg2 hr0
    have hgl : ∀ x ∈ hs, x.2 ≠ g := fun x hx => (ne_of_none hg2 (hO x hx)).symm
    have hrW : r ≠ W0 := by
      obtain ⟨_, ⟨ws, z, _⟩, _⟩ := hDk2
      exact (ne_of_none z hr0).symm
    have hlW : ∀ x ∈ hs, x.2 ≠ W0 := fun x hx => by
      obtain ⟨_, ⟨ws, z, _⟩, _⟩ := hDk2
      exact (ne_of_none z (hO x hx)).symm
    let J : Nat → L2.St → Hp → Prop := fun i σ H' => ∃ (v3 v4 v5 : Option V) (W T D : Addr) (d : Uw63.Desk) (G : List Int), σ = [some (.ref a), some (.ref dk), some (.ref g), v3, v4, v5] ∧ DeskAt C H' dk W T D d ∧ WF d ∧ H' g = some (.lst (iv G)) ∧ PyUw63.answers ns = G ++ PyFlat.told (playC d ((parts.map callP).drop i)) ∧
      H' r = some (.lst (ps.map V.ref)) ∧ PartsAt H' ps hs parts ∧ r ≠ W ∧ g ≠ W ∧ g ≠ T ∧ ∀ x ∈ hs, x.2 ≠ W
    refine ⟨r, rfl, ⟨_, SqL.of hr3⟩, for_list (K := K) (a := r) (xs := ps.map V.ref) J ⟨none, none, none, W0, T0, D0, Uw63.init, [], rfl, hDk2.same s3, WF.init, s3 _ _ hg2, by rw [hans, hrw]; rfl, hr3, hP, hrW, nW0, nT0, hlW⟩ (fun i σ H' _ ⟨_, _, _, _, _, _, _, _, _, _, _, _, _, hr', _⟩ => SqL.of hr') ?_ ?_⟩
    · rintro i v σ H4 hi ⟨v3, v4, v5, W, Tx, D, d, G, rfl, hD4, hw, hg4, hG, hr4, hP4, nrW, ngW, ngT, nlW⟩
      obtain ⟨p, hp, rfl⟩ := refs_get hi
      obtain ⟨⟨n, l⟩, hnl, hpt⟩ := hP4.tup.get hp
      have hil : i < parts.length := by
        have := (List.getElem?_eq_some_iff.mp hp).1
        omega
      obtain ⟨⟨n', told⟩, hpa⟩ : ∃ y, parts[i]? = some y := ⟨_, List.getElem?_eq_getElem hil⟩
      have hn : n = n' := by
        have := congrArg (fun z => z[i]?) hP4.fst
        simp only [List.getElem?_map, hnl, hpa] at this
        exact Option.some.inj this
      subst hn
      have hlm : (n, l) ∈ hs := List.mem_of_getElem? hnl
      have hll : H4 l = some (.lst (iv told)) := by
        obtain ⟨x, hx, hx2⟩ := hP4.lst.get (i := i) (a := l) (by rw [List.getElem?_map, hnl]; rfl)
        rw [List.getElem?_map, hpa] at hx
        cases hx
        exact hx2
      have hpm : (n, told) ∈ parts := List.mem_of_getElem? hpa
      obtain ⟨x, hx⟩ := hcall (callP (n, told)) (by rw [hrw]; exact List.mem_map.mpr ⟨_, hpm, rfl⟩)
      obtain ⟨hz, hin⟩ := callOf_nat hx
      have hst := step_of (s := d) hx
      have hdrop : (parts.map callP).drop i = callP (n, told) :: (parts.map callP).drop (i + 1) := by
        have e1 : (parts.map callP)[i]? = some (callP (n, told)) := by
          rw [List.getElem?_map, hpa]
          rfl
        obtain ⟨hb, eb⟩ := List.getElem?_eq_some_iff.mp e1
        rw [List.drop_eq_getElem_cons hb, eb]
      rw [hdrop] at hG
      have hG : PyUw63.answers ns = G ++ PyFlat.told ((Uw63Neutral.step d (callP (n, told))).2 :: playC (Uw63Neutral.step d (callP (n, told))).1 ((parts.map callP).drop (i + 1))) := hG
      rw [hst, told_cons'] at hG
      have hlz : SqL K H4 l (zs (told.map Int.toNat)) := by
        rw [zi_toNat hz]
        exact SqL.of hll
      refine ⟨p, _, rfl, SqT.of hpt, rfl, _, _, rfl, _, _, rfl, rfl, ?_⟩
      refine ⟨_, rfl, _, rfl, _, rfl, dk, W, Tx, D, l, d, x, n, told.map Int.toNat, rfl, hD4, hw, hlz, by rw [List.length_map]; exact hL _ hpm, hin, ?_⟩
      intro H5 q W' T' D' hq5 hq4 hD5 fr5 cW cT cD
      obtain ⟨⟨dx4, hi4⟩, ⟨ws4, hW4, _⟩, _, hd4, _⟩ := hD4
      have keepL : ∀ (b : Addr) (xs : List V), H4 b = some (.lst xs) → b ≠ W → H5 b = some (.lst xs) := fun b xs hb nb => fr5 b _ hb (fun z => by rw [z, hi4] at hb; cases hb) nb (fun z => by rw [z, hd4] at hb; cases hb)
      have keepT : ∀ (b : Addr) (xs : List V), H4 b = some (.tup xs) → H5 b = some (.tup xs) := fun b xs hb => fr5 b _ hb (fun z => by rw [z, hi4] at hb; cases hb) (fun z => by rw [z, hW4] at hb; cases hb) (fun z => by rw [z, hd4] at hb; cases hb)
      have hg5 := keepL g _ hg4 ngW
      have hr5 := keepL r _ hr4 nrW
      have hP5 : PartsAt H5 ps hs parts := by
        refine ⟨?_, ?_, hP4.fst⟩
        · refine hP4.tup.fr fun b hb o e => ?_
          obtain ⟨j, hj⟩ := List.mem_iff_getElem?.mp hb
          obtain ⟨y, _, hy⟩ := hP4.tup.get hj
          rw [hy] at e
          cases e
          exact keepT b _ hy
        · refine hP4.lst.fr fun b hb o e => ?_
          obtain ⟨j, hj⟩ := List.mem_iff_getElem?.mp hb
          obtain ⟨y, _, hy⟩ := hP4.lst.get hj
          rw [hy] at e
          cases e
          obtain ⟨z, hz', ez⟩ := List.mem_map.mp hb
          exact keepL b _ hy (by rw [← ez]; exact nlW z hz')
      have hgq : g ≠ q := ne_of_none hg4 hq4
      have ngW' : g ≠ W' := by
        rcases cW with e | e
        · rw [e]; exact ngW
        · exact ne_of_none hg4 e
      have ngT' : g ≠ T' := by
        rcases cT with e | e
        · rw [e]; exact ngT
        · exact ne_of_none hg4 e
      have nrW' : r ≠ W' := by
        rcases cW with e | e
        · rw [e]; exact nrW
        · exact ne_of_none hr4 e
      have nlW' : ∀ y ∈ hs, y.2 ≠ W' := fun y hy => by
        rcases cW with e | e
        · rw [e]; exact nlW y hy
        · obtain ⟨j, hj⟩ := List.mem_iff_getElem?.mp hy
          obtain ⟨u, _, hu⟩ := hP4.lst.get (i := j) (a := y.2) (by rw [List.getElem?_map, hj]; rfl)
          exact ne_of_none hu e
      have hlenA : G.length + (1 + (Uw63.step d x).2.length) ≤ 10000000 := by
        have := hsz
        rw [hG, List.length_append, List.length_append, List.length_cons] at this
        omega
      have hsl := sizeLine_eq
      have hq5' : H5 q = some (.lst (iv (Uw63.step d x).2)) := hq5
      refine ⟨_, rfl, .inl ⟨rfl, _, SqL.of hg5⟩, _, rfl, q, _, rfl, .inl (SqL.of hq5'), g, _, _, rfl, rfl, hg5, by rw [iv_len]; omega, ?_⟩
      have hg6 : (upd H5 g (.lst (iv G ++ [V.int ((iv (Uw63.step d x).2).length : Int)]))) g = some (.lst (iv G ++ [V.int ((iv (Uw63.step d x).2).length : Int)])) := upd_same
      have hq6 : (upd H5 g (.lst (iv G ++ [V.int ((iv (Uw63.step d x).2).length : Int)]))) q = some (.lst (iv (Uw63.step d x).2)) := by
        rw [upd_ne hgq.symm]
        exact hq5'
      have hD6 := hD5.other (o := .lst (iv G ++ [V.int ((iv (Uw63.step d x).2).length : Int)])) hg5 ngW' ngT'
      have hP6 := hP5.other (o := .lst (iv G ++ [V.int ((iv (Uw63.step d x).2).length : Int)])) hg5 hgl
      have hr6 : (upd H5 g (.lst (iv G ++ [V.int ((iv (Uw63.step d x).2).length : Int)]))) r = some (.lst (ps.map V.ref)) := by
        rw [upd_ne hgr.symm]
        exact hr5
      generalize upd H5 g (.lst (iv G ++ [V.int ((iv (Uw63.step d x).2).length : Int)])) = H6 at hg6 hq6 hD6 hP6 hr6 ⊢
      refine ⟨_, rfl, .inl ⟨rfl, _, SqL.of hg6⟩, _, rfl, g, q, _, _, rfl, rfl, hg6, hq6, ?_, ?_⟩
      · rw [List.length_append, iv_len, iv_len]
        show _ + 1 + _ ≤ _
        omega
      · refine ⟨_, _, _, W', T', D', (Uw63.step d x).1, G ++ ((Uw63.step d x).2.length : Int) :: (Uw63.step d x).2, rfl, hD6.other hg6 ngW' ngT', hw.step x, ?_, ?_, ?_, hP6.other hg6 hgl, nrW', ngW', ngT', nlW'⟩
        · rw [upd_same, iv_len]
          unfold iv
          rw [List.map_append, List.append_assoc]
          rfl
        · rw [hG, List.append_assoc]
        · rw [upd_ne hgr.symm]
          exact hr6
    · rintro σ H4 ⟨v3, v4, v5, W, Tx, D, d, G, rfl, hD4, hw, hg4, hG, hr4, hP4, nrW, ngW, ngT, nlW⟩
      rw [List.length_map, hlen1, hlen2, List.drop_of_length_le (by rw [List.length_map]; exact Nat.le_refl _)] at hG
      have hG : PyUw63.answers ns = G ++ [] := hG
      rw [List.append_nil] at hG
      refine ⟨_, rfl, k H4 g ?_⟩
      rw [hG]
      exact hg4
end
end LX
end
section
set_option Elab.async false
set_option linter.all false
set_option maxRecDepth 100000
set_option maxHeartbeats 2000000
namespace LX
open PySem PySem.Spec PyProof.Rows L2 LM1
theorem len1 {us : List Value} (h : us.length = 1) : ∃ a, us = [a] := by
  cases us with
  | nil => cases h
  | cons a us =>
    have : us = [] := List.eq_nil_of_length_eq_zero (Nat.succ.inj h)
    exact ⟨a, by rw [this]⟩
theorem len2 {us : List Value} (h : us.length = 2) : ∃ a b, us = [a, b] := by
  cases us with
  | nil => cases h
  | cons a us =>
    obtain ⟨b, e⟩ := len1 (Nat.succ.inj h)
    exact ⟨a, b, by rw [e]⟩
theorem len3 {us : List Value} (h : us.length = 3) : ∃ a b c, us = [a, b, c] := by
  cases us with
  | nil => cases h
  | cons a us =>
    obtain ⟨b, c, e⟩ := len2 (Nat.succ.inj h)
    exact ⟨a, b, c, by rw [e]⟩
theorem all_mk {P : Program} {w : World} {K : PySem.W.Frag} {h : Heap} {mg : Str → Option Value} {fa C pa f0 f1 f2 f3 f4 f5 f6 f7 f8 f9 f10 f11 f12 f13 f14 f15 f16 f17 f18 f19 f20 f21 f22 f23 f24 f25 f26 f27 f28 f29 f30 f31 f32 f33 : Addr} (X : K.In h) (G : h.Ns mainGlobals mg) (hfa : mg "answers" = some (.ref fa))
    {odP od0 an0 od1 an1 od2 an2 od3 an3 od4 an4 od5 an5 od6 an6 od7 an7 od8 an8 od9 an9 od10 an10 od11 an11 od12 an12 od13 an13 od14 an14 od15 an15 od16 an16 od17 an17 od18 an18 od19 an19 od20 an20 od21 an21 od22 an22 od23 an23 od24 an24 od25 an25 od26 an26 od27 an27 od28 an28 od29 an29 od30 an30 od31 an31 od32 an32 od33 an33 : Option Addr} {slP sl0 sl1 sl2 sl3 sl4 sl5 sl6 sl7 sl8 sl9 sl10 sl11 sl12 sl13 sl14 sl15 sl16 sl17 sl18 sl19 sl20 sl21 sl22 sl23 sl24 sl25 sl26 sl27 sl28 sl29 sl30 sl31 sl32 sl33 : Array (Option Value)} {oc0 kV0 dc0 pm0 cd0 ct0 oc1 kV1 dc1 pm1 cd1 ct1 oc2 kV2 dc2 pm2 cd2 ct2 oc3 kV3 dc3 pm3 cd3 ct3 oc4 kV4 dc4 pm4 cd4 ct4 oc5 kV5 dc5 pm5 cd5 ct5 oc6 kV6 dc6 pm6 cd6 ct6 oc7 kV7 dc7 pm7 cd7 ct7 oc8 kV8 dc8 pm8 cd8 ct8 oc9 kV9 dc9 pm9 cd9 ct9 oc10 kV10 dc10 pm10 cd10 ct10 oc11 kV11 dc11 pm11 cd11 ct11 oc12 kV12 dc12 pm12 cd12 ct12 oc13 kV13 dc13 pm13 cd13 ct13 oc14 kV14 dc14 pm14 cd14 ct14 oc15 kV15 dc15 pm15 cd15 ct15 oc16 kV16 dc16 pm16 cd16 ct16 oc17 kV17 dc17 pm17 cd17 ct17 oc18 kV18 dc18 pm18 cd18 ct18 oc19 kV19 dc19 pm19 cd19 ct19 oc20 kV20 dc20 pm20 cd20 ct20 oc21 kV21 dc21 pm21 cd21 ct21 oc22 kV22 dc22 pm22 cd22 ct22 oc23 kV23 dc23 pm23 cd23 ct23 oc24 kV24 dc24 pm24 cd24 ct24 oc25 kV25 dc25 pm25 cd25 ct25 oc26 kV26 dc26 pm26 cd26 ct26 oc27 kV27 dc27 pm27 cd27 ct27 oc28 kV28 dc28 pm28 cd28 ct28 oc29 kV29 dc29 pm29 cd29 ct29 oc30 kV30 dc30 pm30 cd30 ct30 oc31 kV31 dc31 pm31 cd31 ct31 oc32 kV32 dc32 pm32 cd32 ct32 oc33 kV33 dc33 pm33 cd33 ct33 : Value} {t_BEGINS t_WORD t_TEXT t_HINT t_READINGS t_SURE t_MAY t_TELLS t_NEAREST t_SHAPES t_TOLD_WRONG t_NOT_IN_TEXT t_NO_TEXT t_THERE_ALREADY t_LIST_FULL t_TOO_LARGE t_NO_READING t_MANY t_NO_SUCH_READING t_LEAST_N t_MOST_N t_MOST_WORDS t_MOST_LETTERS_FOR_NEED t_MOST_READINGS_FOR_NEED t_MOST_WORDS_FOR_NEAREST t_MOST_LETTERS t_MOST_TEXT_WORDS t_MOST_WAYS tp0 tp3 tp4 tp5 tp6 tp7 tp8 tp9 tp10 : Tok} {nP : Nat}
    (a0 : PySem.W.nsIn K mainGlobals "longer_way" = some (some (.ref f0)))
    (l0 : K.lookup f0 = some ⟨oc0, od0, .func (PySem.W.fnOf "longer_way" "longer_way" (defArgs sLongerWay) (defBody sLongerWay) (defScope sLongerWay) .none kV0 dc0 pm0 an0 cd0 ct0), sl0⟩)
    (c0 : PySem.W.codeIn K cd0 "longer_way" = true)
    (k0 : PySem.W.keepIn K (.ref f0) = true)
    (a1 : PySem.W.nsIn K mainGlobals "fitting_numbers" = some (some (.ref f1)))
    (l1 : K.lookup f1 = some ⟨oc1, od1, .func (PySem.W.fnOf "fitting_numbers" "fitting_numbers" (defArgs sFitting) (defBody sFitting) (defScope sFitting) .none kV1 dc1 pm1 an1 cd1 ct1), sl1⟩)
    (c1 : PySem.W.codeIn K cd1 "fitting_numbers" = true)
    (k1 : PySem.W.keepIn K (.ref f1) = true)
    (a2 : PySem.W.nsIn K mainGlobals "longer_ways" = some (some (.ref f2)))
    (l2 : K.lookup f2 = some ⟨oc2, od2, .func (PySem.W.fnOf "longer_ways" "longer_ways" (defArgs sLongerWays) (defBody sLongerWays) (defScope sLongerWays) .none kV2 dc2 pm2 an2 cd2 ct2), sl2⟩)
    (c2 : PySem.W.codeIn K cd2 "longer_ways" = true)
    (k2 : PySem.W.keepIn K (.ref f2) = true)
    (a3 : PySem.W.nsIn K mainGlobals "all_readings" = some (some (.ref f3)))
    (l3 : K.lookup f3 = some ⟨oc3, od3, .func (PySem.W.fnOf "all_readings" "all_readings" (defArgs sAllReadings) (defBody sAllReadings) (defScope sAllReadings) .none kV3 dc3 pm3 an3 cd3 ct3), sl3⟩)
    (c3 : PySem.W.codeIn K cd3 "all_readings" = true)
    (k3 : PySem.W.keepIn K (.ref f3) = true)
    (a4 : PySem.W.nsIn K mainGlobals "bits_of" = some (some (.ref f4)))
    (l4 : K.lookup f4 = some ⟨oc4, od4, .func (PySem.W.fnOf "bits_of" "bits_of" (defArgs sBitsOf) (defBody sBitsOf) (defScope sBitsOf) .none kV4 dc4 pm4 an4 cd4 ct4), sl4⟩)
    (c4 : PySem.W.codeIn K cd4 "bits_of" = true)
    (k4 : PySem.W.keepIn K (.ref f4) = true)
    (a5 : PySem.W.nsIn K mainGlobals "words_beside" = some (some (.ref f5)))
    (l5 : K.lookup f5 = some ⟨oc5, od5, .func (PySem.W.fnOf "words_beside" "words_beside" (defArgs sBeside) (defBody sBeside) (defScope sBeside) .none kV5 dc5 pm5 an5 cd5 ct5), sl5⟩)
    (c5 : PySem.W.codeIn K cd5 "words_beside" = true)
    (k5 : PySem.W.keepIn K (.ref f5) = true)
    (a6 : PySem.W.nsIn K mainGlobals "readable" = some (some (.ref f6)))
    (l6 : K.lookup f6 = some ⟨oc6, od6, .func (PySem.W.fnOf "readable" "readable" (defArgs sReadable) (defBody sReadable) (defScope sReadable) .none kV6 dc6 pm6 an6 cd6 ct6), sl6⟩)
    (c6 : PySem.W.codeIn K cd6 "readable" = true)
    (k6 : PySem.W.keepIn K (.ref f6) = true)
    (a7 : PySem.W.nsIn K mainGlobals "sets_of_places" = some (some (.ref f7)))
    (l7 : K.lookup f7 = some ⟨oc7, od7, .func (PySem.W.fnOf "sets_of_places" "sets_of_places" (defArgs sSets) (defBody sSets) (defScope sSets) .none kV7 dc7 pm7 an7 cd7 ct7), sl7⟩)
    (c7 : PySem.W.codeIn K cd7 "sets_of_places" = true)
    (k7 : PySem.W.keepIn K (.ref f7) = true)
    (a8 : PySem.W.nsIn K mainGlobals "fewest_left_out" = some (some (.ref f8)))
    (l8 : K.lookup f8 = some ⟨oc8, od8, .func (PySem.W.fnOf "fewest_left_out" "fewest_left_out" (defArgs sFewestLeft) (defBody sFewestLeft) (defScope sFewestLeft) .none kV8 dc8 pm8 an8 cd8 ct8), sl8⟩)
    (c8 : PySem.W.codeIn K cd8 "fewest_left_out" = true)
    (k8 : PySem.W.keepIn K (.ref f8) = true)
    (a9 : PySem.W.nsIn K mainGlobals "agree" = some (some (.ref f9)))
    (l9 : K.lookup f9 = some ⟨oc9, od9, .func (PySem.W.fnOf "agree" "agree" (defArgs sAgree) (defBody sAgree) (defScope sAgree) .none kV9 dc9 pm9 an9 cd9 ct9), sl9⟩)
    (c9 : PySem.W.codeIn K cd9 "agree" = true)
    (k9 : PySem.W.keepIn K (.ref f9) = true)
    (a10 : PySem.W.nsIn K mainGlobals "told_enough" = some (some (.ref f10)))
    (l10 : K.lookup f10 = some ⟨oc10, od10, .func (PySem.W.fnOf "told_enough" "told_enough" (defArgs sToldEnough) (defBody sToldEnough) (defScope sToldEnough) .none kV10 dc10 pm10 an10 cd10 ct10), sl10⟩)
    (c10 : PySem.W.codeIn K cd10 "told_enough" = true)
    (k10 : PySem.W.keepIn K (.ref f10) = true)
    (a11 : PySem.W.nsIn K mainGlobals "with_one_more" = some (some (.ref f11)))
    (l11 : K.lookup f11 = some ⟨oc11, od11, .func (PySem.W.fnOf "with_one_more" "with_one_more" (defArgs sOneMore) (defBody sOneMore) (defScope sOneMore) .none kV11 dc11 pm11 an11 cd11 ct11), sl11⟩)
    (c11 : PySem.W.codeIn K cd11 "with_one_more" = true)
    (k11 : PySem.W.keepIn K (.ref f11) = true)
    (a12 : PySem.W.nsIn K mainGlobals "fewest_told" = some (some (.ref f12)))
    (l12 : K.lookup f12 = some ⟨oc12, od12, .func (PySem.W.fnOf "fewest_told" "fewest_told" (defArgs sFewestTold) (defBody sFewestTold) (defScope sFewestTold) .none kV12 dc12 pm12 an12 cd12 ct12), sl12⟩)
    (c12 : PySem.W.codeIn K cd12 "fewest_told" = true)
    (k12 : PySem.W.keepIn K (.ref f12) = true)
    (a13 : PySem.W.nsIn K mainGlobals "is_word" = some (some (.ref f13)))
    (l13 : K.lookup f13 = some ⟨oc13, od13, .func (PySem.W.fnOf "is_word" "is_word" (defArgs sIsWord) (defBody sIsWord) (defScope sIsWord) .none kV13 dc13 pm13 an13 cd13 ct13), sl13⟩)
    (c13 : PySem.W.codeIn K cd13 "is_word" = true)
    (k13 : PySem.W.keepIn K (.ref f13) = true)
    (a14 : PySem.W.nsIn K mainGlobals "words_told" = some (some (.ref f14)))
    (l14 : K.lookup f14 = some ⟨oc14, od14, .func (PySem.W.fnOf "words_told" "words_told" (defArgs sWordsTold) (defBody sWordsTold) (defScope sWordsTold) .none kV14 dc14 pm14 an14 cd14 ct14), sl14⟩)
    (c14 : PySem.W.codeIn K cd14 "words_told" = true)
    (k14 : PySem.W.keepIn K (.ref f14) = true)
    (a15 : PySem.W.nsIn K mainGlobals "unlike_letters" = some (some (.ref f15)))
    (l15 : K.lookup f15 = some ⟨oc15, od15, .func (PySem.W.fnOf "unlike_letters" "unlike_letters" (defArgs sUnlike) (defBody sUnlike) (defScope sUnlike) .none kV15 dc15 pm15 an15 cd15 ct15), sl15⟩)
    (c15 : PySem.W.codeIn K cd15 "unlike_letters" = true)
    (k15 : PySem.W.keepIn K (.ref f15) = true)
    (a16 : PySem.W.nsIn K mainGlobals "split_calls" = some (some (.ref f16)))
    (l16 : K.lookup f16 = some ⟨oc16, od16, .func (PySem.W.fnOf "split_calls" "split_calls" (defArgs sSplit) (defBody sSplit) (defScope sSplit) .none kV16 dc16 pm16 an16 cd16 ct16), sl16⟩)
    (c16 : PySem.W.codeIn K cd16 "split_calls" = true)
    (k16 : PySem.W.keepIn K (.ref f16) = true)
    (a17 : PySem.W.nsIn K mainGlobals "answer" = some (some (.ref f17)))
    (l17 : K.lookup f17 = some ⟨oc17, od17, .func (PySem.W.fnOf "answer" "answer" (defArgs sAnswer) (defBody sAnswer) (defScope sAnswer) .none kV17 dc17 pm17 an17 cd17 ct17), sl17⟩)
    (c17 : PySem.W.codeIn K cd17 "answer" = true)
    (k17 : PySem.W.keepIn K (.ref f17) = true)
    (a18 : PySem.W.nsIn K mainGlobals "answer_of_readings" = some (some (.ref f18)))
    (l18 : K.lookup f18 = some ⟨oc18, od18, .func (PySem.W.fnOf "answer_of_readings" "answer_of_readings" (defArgs sAoR) (defBody sAoR) (defScope sAoR) .none kV18 dc18 pm18 an18 cd18 ct18), sl18⟩)
    (c18 : PySem.W.codeIn K cd18 "answer_of_readings" = true)
    (k18 : PySem.W.keepIn K (.ref f18) = true)
    (a19 : PySem.W.nsIn K mainGlobals "answers" = some (some (.ref f19)))
    (l19 : K.lookup f19 = some ⟨oc19, od19, .func (PySem.W.fnOf "answers" "answers" (defArgs sAnswers) (defBody sAnswers) (defScope sAnswers) .none kV19 dc19 pm19 an19 cd19 ct19), sl19⟩)
    (c19 : PySem.W.codeIn K cd19 "answers" = true)
    (k19 : PySem.W.keepIn K (.ref f19) = true)
    (aC : PySem.W.nsIn K mainGlobals "Desk" = some (some (.ref C)))
    (a20 : PySem.W.findIn K (.ref C) "__init__" = some (some (.ref f20)))
    (i20 : PySem.W.isFn K (.ref f20) = true)
    (l20 : K.lookup f20 = some ⟨oc20, od20, .func (PySem.W.fnOf "__init__" "Desk.__init__" (defArgs sInit) (defBody sInit) (defScope sInit) .none kV20 dc20 pm20 an20 cd20 ct20), sl20⟩)
    (c20 : PySem.W.codeIn K cd20 "Desk.__init__" = true)
    (k20 : PySem.W.keepIn K (.ref f20) = true)
    (a21 : PySem.W.findIn K (.ref C) "begins" = some (some (.ref f21)))
    (i21 : PySem.W.isFn K (.ref f21) = true)
    (l21 : K.lookup f21 = some ⟨oc21, od21, .func (PySem.W.fnOf "begins" "Desk.begins" (defArgs sBegins) (defBody sBegins) (defScope sBegins) .none kV21 dc21 pm21 an21 cd21 ct21), sl21⟩)
    (c21 : PySem.W.codeIn K cd21 "Desk.begins" = true)
    (k21 : PySem.W.keepIn K (.ref f21) = true)
    (a22 : PySem.W.findIn K (.ref C) "word" = some (some (.ref f22)))
    (i22 : PySem.W.isFn K (.ref f22) = true)
    (l22 : K.lookup f22 = some ⟨oc22, od22, .func (PySem.W.fnOf "word" "Desk.word" (defArgs sWord) (defBody sWord) (defScope sWord) .none kV22 dc22 pm22 an22 cd22 ct22), sl22⟩)
    (c22 : PySem.W.codeIn K cd22 "Desk.word" = true)
    (k22 : PySem.W.keepIn K (.ref f22) = true)
    (a23 : PySem.W.findIn K (.ref C) "text" = some (some (.ref f23)))
    (i23 : PySem.W.isFn K (.ref f23) = true)
    (l23 : K.lookup f23 = some ⟨oc23, od23, .func (PySem.W.fnOf "text" "Desk.text" (defArgs sText) (defBody sText) (defScope sText) .none kV23 dc23 pm23 an23 cd23 ct23), sl23⟩)
    (c23 : PySem.W.codeIn K cd23 "Desk.text" = true)
    (k23 : PySem.W.keepIn K (.ref f23) = true)
    (a24 : PySem.W.findIn K (.ref C) "hint" = some (some (.ref f24)))
    (i24 : PySem.W.isFn K (.ref f24) = true)
    (l24 : K.lookup f24 = some ⟨oc24, od24, .func (PySem.W.fnOf "hint" "Desk.hint" (defArgs sHint) (defBody sHint) (defScope sHint) .none kV24 dc24 pm24 an24 cd24 ct24), sl24⟩)
    (c24 : PySem.W.codeIn K cd24 "Desk.hint" = true)
    (k24 : PySem.W.keepIn K (.ref f24) = true)
    (a25 : PySem.W.findIn K (.ref C) "nearest" = some (some (.ref f25)))
    (i25 : PySem.W.isFn K (.ref f25) = true)
    (l25 : K.lookup f25 = some ⟨oc25, od25, .func (PySem.W.fnOf "nearest" "Desk.nearest" (defArgs sNearest) (defBody sNearest) (defScope sNearest) .none kV25 dc25 pm25 an25 cd25 ct25), sl25⟩)
    (c25 : PySem.W.codeIn K cd25 "Desk.nearest" = true)
    (k25 : PySem.W.keepIn K (.ref f25) = true)
    (a26 : PySem.W.findIn K (.ref C) "shapes" = some (some (.ref f26)))
    (i26 : PySem.W.isFn K (.ref f26) = true)
    (l26 : K.lookup f26 = some ⟨oc26, od26, .func (PySem.W.fnOf "shapes" "Desk.shapes" (defArgs sShapes) (defBody sShapes) (defScope sShapes) .none kV26 dc26 pm26 an26 cd26 ct26), sl26⟩)
    (c26 : PySem.W.codeIn K cd26 "Desk.shapes" = true)
    (k26 : PySem.W.keepIn K (.ref f26) = true)
    (a27 : PySem.W.findIn K (.ref C) "readings" = some (some (.ref f27)))
    (i27 : PySem.W.isFn K (.ref f27) = true)
    (l27 : K.lookup f27 = some ⟨oc27, od27, .func (PySem.W.fnOf "readings" "Desk.readings" (defArgs sReadings) (defBody sReadings) (defScope sReadings) .none kV27 dc27 pm27 an27 cd27 ct27), sl27⟩)
    (c27 : PySem.W.codeIn K cd27 "Desk.readings" = true)
    (k27 : PySem.W.keepIn K (.ref f27) = true)
    (a28 : PySem.W.findIn K (.ref C) "sure" = some (some (.ref f28)))
    (i28 : PySem.W.isFn K (.ref f28) = true)
    (l28 : K.lookup f28 = some ⟨oc28, od28, .func (PySem.W.fnOf "sure" "Desk.sure" (defArgs sSure) (defBody sSure) (defScope sSure) .none kV28 dc28 pm28 an28 cd28 ct28), sl28⟩)
    (c28 : PySem.W.codeIn K cd28 "Desk.sure" = true)
    (k28 : PySem.W.keepIn K (.ref f28) = true)
    (a29 : PySem.W.findIn K (.ref C) "sure_meaning" = some (some (.ref f29)))
    (i29 : PySem.W.isFn K (.ref f29) = true)
    (l29 : K.lookup f29 = some ⟨oc29, od29, .func (PySem.W.fnOf "sure_meaning" "Desk.sure_meaning" (defArgs sSureM) (defBody sSureM) (defScope sSureM) .none kV29 dc29 pm29 an29 cd29 ct29), sl29⟩)
    (c29 : PySem.W.codeIn K cd29 "Desk.sure_meaning" = true)
    (k29 : PySem.W.keepIn K (.ref f29) = true)
    (a30 : PySem.W.findIn K (.ref C) "may" = some (some (.ref f30)))
    (i30 : PySem.W.isFn K (.ref f30) = true)
    (l30 : K.lookup f30 = some ⟨oc30, od30, .func (PySem.W.fnOf "may" "Desk.may" (defArgs sMay) (defBody sMay) (defScope sMay) .none kV30 dc30 pm30 an30 cd30 ct30), sl30⟩)
    (c30 : PySem.W.codeIn K cd30 "Desk.may" = true)
    (k30 : PySem.W.keepIn K (.ref f30) = true)
    (a31 : PySem.W.findIn K (.ref C) "tells" = some (some (.ref f31)))
    (i31 : PySem.W.isFn K (.ref f31) = true)
    (l31 : K.lookup f31 = some ⟨oc31, od31, .func (PySem.W.fnOf "tells" "Desk.tells" (defArgs sTells) (defBody sTells) (defScope sTells) .none kV31 dc31 pm31 an31 cd31 ct31), sl31⟩)
    (c31 : PySem.W.codeIn K cd31 "Desk.tells" = true)
    (k31 : PySem.W.keepIn K (.ref f31) = true)
    (a32 : PySem.W.findIn K (.ref C) "number_read" = some (some (.ref f32)))
    (i32 : PySem.W.isFn K (.ref f32) = true)
    (l32 : K.lookup f32 = some ⟨oc32, od32, .func (PySem.W.fnOf "number_read" "Desk.number_read" (defArgs sNumber) (defBody sNumber) (defScope sNumber) .none kV32 dc32 pm32 an32 cd32 ct32), sl32⟩)
    (c32 : PySem.W.codeIn K cd32 "Desk.number_read" = true)
    (k32 : PySem.W.keepIn K (.ref f32) = true)
    (a33 : PySem.W.findIn K (.ref C) "need" = some (some (.ref f33)))
    (i33 : PySem.W.isFn K (.ref f33) = true)
    (l33 : K.lookup f33 = some ⟨oc33, od33, .func (PySem.W.fnOf "need" "Desk.need" (defArgs sNeed) (defBody sNeed) (defScope sNeed) .none kV33 dc33 pm33 an33 cd33 ct33), sl33⟩)
    (c33 : PySem.W.codeIn K cd33 "Desk.need" = true)
    (k33 : PySem.W.keepIn K (.ref f33) = true)
    (g_BEGINS : PySem.W.nsIn K mainGlobals "BEGINS" = some (some (.int (0) t_BEGINS)))
    (g_WORD : PySem.W.nsIn K mainGlobals "WORD" = some (some (.int (1) t_WORD)))
    (g_TEXT : PySem.W.nsIn K mainGlobals "TEXT" = some (some (.int (2) t_TEXT)))
    (g_HINT : PySem.W.nsIn K mainGlobals "HINT" = some (some (.int (3) t_HINT)))
    (g_READINGS : PySem.W.nsIn K mainGlobals "READINGS" = some (some (.int (4) t_READINGS)))
    (g_SURE : PySem.W.nsIn K mainGlobals "SURE" = some (some (.int (5) t_SURE)))
    (g_MAY : PySem.W.nsIn K mainGlobals "MAY" = some (some (.int (6) t_MAY)))
    (g_TELLS : PySem.W.nsIn K mainGlobals "TELLS" = some (some (.int (7) t_TELLS)))
    (g_NEAREST : PySem.W.nsIn K mainGlobals "NEAREST" = some (some (.int (9) t_NEAREST)))
    (g_SHAPES : PySem.W.nsIn K mainGlobals "SHAPES" = some (some (.int (10) t_SHAPES)))
    (g_TOLD_WRONG : PySem.W.nsIn K mainGlobals "TOLD_WRONG" = some (some (.int (-1) t_TOLD_WRONG)))
    (g_NOT_IN_TEXT : PySem.W.nsIn K mainGlobals "NOT_IN_TEXT" = some (some (.int (-2) t_NOT_IN_TEXT)))
    (g_NO_TEXT : PySem.W.nsIn K mainGlobals "NO_TEXT" = some (some (.int (-3) t_NO_TEXT)))
    (g_THERE_ALREADY : PySem.W.nsIn K mainGlobals "THERE_ALREADY" = some (some (.int (-4) t_THERE_ALREADY)))
    (g_LIST_FULL : PySem.W.nsIn K mainGlobals "LIST_FULL" = some (some (.int (-5) t_LIST_FULL)))
    (g_TOO_LARGE : PySem.W.nsIn K mainGlobals "TOO_LARGE" = some (some (.int (-5) t_TOO_LARGE)))
    (g_NO_READING : PySem.W.nsIn K mainGlobals "NO_READING" = some (some (.int (-6) t_NO_READING)))
    (g_MANY : PySem.W.nsIn K mainGlobals "MANY" = some (some (.int (-7) t_MANY)))
    (g_NO_SUCH_READING : PySem.W.nsIn K mainGlobals "NO_SUCH_READING" = some (some (.int (-8) t_NO_SUCH_READING)))
    (g_LEAST_N : PySem.W.nsIn K mainGlobals "LEAST_N" = some (some (.int (2) t_LEAST_N)))
    (g_MOST_N : PySem.W.nsIn K mainGlobals "MOST_N" = some (some (.int (26) t_MOST_N)))
    (g_MOST_WORDS : PySem.W.nsIn K mainGlobals "MOST_WORDS" = some (some (.int (40) t_MOST_WORDS)))
    (g_MOST_LETTERS_FOR_NEED : PySem.W.nsIn K mainGlobals "MOST_LETTERS_FOR_NEED" = some (some (.int (10) t_MOST_LETTERS_FOR_NEED)))
    (g_MOST_READINGS_FOR_NEED : PySem.W.nsIn K mainGlobals "MOST_READINGS_FOR_NEED" = some (some (.int (100) t_MOST_READINGS_FOR_NEED)))
    (g_MOST_WORDS_FOR_NEAREST : PySem.W.nsIn K mainGlobals "MOST_WORDS_FOR_NEAREST" = some (some (.int (5) t_MOST_WORDS_FOR_NEAREST)))
    (g_MOST_LETTERS : PySem.W.nsIn K mainGlobals "MOST_LETTERS" = some (some (.int (8) t_MOST_LETTERS)))
    (g_MOST_TEXT_WORDS : PySem.W.nsIn K mainGlobals "MOST_TEXT_WORDS" = some (some (.int (8) t_MOST_TEXT_WORDS)))
    (g_MOST_WAYS : PySem.W.nsIn K mainGlobals "MOST_WAYS" = some (some (.int (2000) t_MOST_WAYS)))
    (n_len : PySem.W.nsIn K mainGlobals "len" = some none)
    (n_max : PySem.W.nsIn K mainGlobals "max" = some none)
    (n_sorted : PySem.W.nsIn K mainGlobals "sorted" = some none)
    (n_set : PySem.W.nsIn K mainGlobals "set" = some none)
    (n_tuple : PySem.W.nsIn K mainGlobals "tuple" = some none)
    (n_dict : PySem.W.nsIn K mainGlobals "dict" = some none)
    (n_zip : PySem.W.nsIn K mainGlobals "zip" = some none)
    (n_list : PySem.W.nsIn K mainGlobals "list" = some none)
    (n_enumerate : PySem.W.nsIn K mainGlobals "enumerate" = some none)
    (n_range : PySem.W.nsIn K mainGlobals "range" = some none)
    (n_all : PySem.W.nsIn K mainGlobals "all" = some none)
    (aP : PySem.W.nsIn K mainGlobals "PLAIN_NUMBERS" = some (some (.ref pa)))
    (lP : K.lookup pa = some ⟨.type "tuple", odP, .seq #[.int 1 tp0, .none, .none, .int 2 tp3, .int 0 tp4, .int 0 tp5, .int 1 tp6, .int 1 tp7, .int 1 tp8, .int 0 tp9, .int 1 tp10] nP, slP⟩)
    (pg : PySem.W.plainGet K C Str.empty = true)
    (hd : PySem.W.hasDictIn K C = true)
    (po : PySem.W.plainOver K C = true)
    (sa : PySem.W.findIn K (.ref C) "__setattr__" = some (some (.builtin "object.__setattr__")))
    (mk : PySem.W.makesIn K C = true)
    (kc : PySem.W.keepIn K (.ref C) = true)
    (x_n : PySem.W.findIn K (.ref C) "n" = some none)
    (x_words : PySem.W.findIn K (.ref C) "words" = some none)
    (x_written : PySem.W.findIn K (.ref C) "written" = some none)
    (x_hints : PySem.W.findIn K (.ref C) "hints" = some none) :
    ∃ fd : FuncData, (∀ (s : Shared) (us : List Value), us.length = (["calls"] : List Str).length → BindsTo s fd ⟨us, []⟩ ((["calls"] : List Str).zip us)) ∧ ∀ base : Heap, K.In base → base.Ns mainGlobals mg → FnOk P w K mg base CX0 10 fa fd ["calls"] (spAns K) := by
  have e := hfa.symm.trans (PySem.W.mg_of X G a19)
  cases e
  have TA : TxtA mg := ⟨PySem.W.mg_none_of X G n_len, PySem.W.mg_none_of X G n_max, PySem.W.mg_none_of X G n_sorted, PySem.W.mg_none_of X G n_set, PySem.W.mg_none_of X G n_tuple, ⟨_, PySem.W.mg_of X G g_MOST_LETTERS⟩, ⟨_, PySem.W.mg_of X G g_MOST_TEXT_WORDS⟩⟩
  have TB : TxtB mg := ⟨PySem.W.mg_none_of X G n_dict, PySem.W.mg_none_of X G n_zip, PySem.W.mg_none_of X G n_list, ⟨_, PySem.W.mg_of X G g_MOST_WAYS⟩⟩
  have TC : TxtC mg := ⟨PySem.W.mg_none_of X G n_enumerate, PySem.W.mg_none_of X G n_range, PySem.W.mg_none_of X G n_all⟩
  have TN : TxtN mg := ⟨⟨_, PySem.W.mg_of X G g_BEGINS⟩, ⟨_, PySem.W.mg_of X G g_WORD⟩, ⟨_, PySem.W.mg_of X G g_TEXT⟩, ⟨_, PySem.W.mg_of X G g_HINT⟩, ⟨_, PySem.W.mg_of X G g_READINGS⟩, ⟨_, PySem.W.mg_of X G g_SURE⟩, ⟨_, PySem.W.mg_of X G g_MAY⟩, ⟨_, PySem.W.mg_of X G g_TELLS⟩, ⟨_, PySem.W.mg_of X G g_NEAREST⟩, ⟨_, PySem.W.mg_of X G g_SHAPES⟩, ⟨_, PySem.W.mg_of X G g_TOLD_WRONG⟩, ⟨_, PySem.W.mg_of X G g_NOT_IN_TEXT⟩, ⟨_, PySem.W.mg_of X G g_NO_TEXT⟩, ⟨_, PySem.W.mg_of X G g_THERE_ALREADY⟩, ⟨_, PySem.W.mg_of X G g_LIST_FULL⟩, ⟨_, PySem.W.mg_of X G g_TOO_LARGE⟩, ⟨_, PySem.W.mg_of X G g_NO_READING⟩, ⟨_, PySem.W.mg_of X G g_MANY⟩, ⟨_, PySem.W.mg_of X G g_NO_SUCH_READING⟩, ⟨_, PySem.W.mg_of X G g_LEAST_N⟩, ⟨_, PySem.W.mg_of X G g_MOST_N⟩, ⟨_, PySem.W.mg_of X G g_MOST_WORDS⟩, ⟨_, PySem.W.mg_of X G g_MOST_LETTERS_FOR_NEED⟩, ⟨_, PySem.W.mg_of X G g_MOST_READINGS_FOR_NEED⟩, ⟨_, PySem.W.mg_of X G g_MOST_WORDS_FOR_NEAREST⟩⟩
  have TK : TxtK K mg C := ⟨⟨pg, hd, po, sa⟩, x_n, x_words, x_written, x_hints, PySem.W.mg_of X G aC⟩
  have TP : TxtP K mg := ⟨pa, PySem.W.mg_of X G aP, fun H => .inr ⟨_, _, _, lP, rfl, rfl, by show 11 ≤ sizeLine; decide, .cons ⟨_, rfl⟩ (.cons rfl (.cons rfl (.cons ⟨_, rfl⟩ (.cons ⟨_, rfl⟩ (.cons ⟨_, rfl⟩ (.cons ⟨_, rfl⟩ (.cons ⟨_, rfl⟩ (.cons ⟨_, rfl⟩ (.cons ⟨_, rfl⟩ (.cons ⟨_, rfl⟩ .nil))))))))))⟩⟩
  have F0 := fun_mk (st := sLongerWay) l0 c0 k0
  have b0 := F0.binds (ps := ["way", "written", "word"]) fun _ _ _ _ _ _ us hl => (by obtain ⟨x0, x1, x2, rfl⟩ := len3 hl; rfl)
  have m0 := PySem.W.mg_of X G a0
  have F1 := fun_mk (st := sFitting) l1 c1 k1
  have b1 := F1.binds (ps := ["way", "written", "words"]) fun _ _ _ _ _ _ us hl => (by obtain ⟨x0, x1, x2, rfl⟩ := len3 hl; rfl)
  have m1 := PySem.W.mg_of X G a1
  have F2 := fun_mk (st := sLongerWays) l2 c2 k2
  have b2 := F2.binds (ps := ["ways", "written", "words"]) fun _ _ _ _ _ _ us hl => (by obtain ⟨x0, x1, x2, rfl⟩ := len3 hl; rfl)
  have m2 := PySem.W.mg_of X G a2
  have F3 := fun_mk (st := sAllReadings) l3 c3 k3
  have b3 := F3.binds (ps := ["text", "words", "hints"]) fun _ _ _ _ _ _ us hl => (by obtain ⟨x0, x1, x2, rfl⟩ := len3 hl; rfl)
  have m3 := PySem.W.mg_of X G a3
  have F4 := fun_mk (st := sBitsOf) l4 c4 k4
  have b4 := F4.binds (ps := ["numbers"]) fun _ _ _ _ _ _ us hl => (by obtain ⟨x0, rfl⟩ := len1 hl; rfl)
  have m4 := PySem.W.mg_of X G a4
  have F5 := fun_mk (st := sBeside) l5 c5 k5
  have b5 := F5.binds (ps := ["text", "words", "hints"]) fun _ _ _ _ _ _ us hl => (by obtain ⟨x0, x1, x2, rfl⟩ := len3 hl; rfl)
  have m5 := PySem.W.mg_of X G a5
  have F6 := fun_mk (st := sReadable) l6 c6 k6
  have b6 := F6.binds (ps := ["places", "free", "beside"]) fun _ _ _ _ _ _ us hl => (by obtain ⟨x0, x1, x2, rfl⟩ := len3 hl; rfl)
  have m6 := PySem.W.mg_of X G a6
  have F7 := fun_mk (st := sSets) l7 c7 k7
  have b7 := F7.binds (ps := ["total", "count"]) fun _ _ _ _ _ _ us hl => (by obtain ⟨x0, x1, rfl⟩ := len2 hl; rfl)
  have m7 := PySem.W.mg_of X G a7
  have F8 := fun_mk (st := sFewestLeft) l8 c8 k8
  have b8 := F8.binds (ps := ["text", "words", "hints"]) fun _ _ _ _ _ _ us hl => (by obtain ⟨x0, x1, x2, rfl⟩ := len3 hl; rfl)
  have m8 := PySem.W.mg_of X G a8
  have F9 := fun_mk (st := sAgree) l9 c9 k9
  have b9 := F9.binds (ps := ["reading", "other", "letters"]) fun _ _ _ _ _ _ us hl => (by obtain ⟨x0, x1, x2, rfl⟩ := len3 hl; rfl)
  have m9 := PySem.W.mg_of X G a9
  have F10 := fun_mk (st := sToldEnough) l10 c10 k10
  have b10 := F10.binds (ps := ["letters", "reading", "found"]) fun _ _ _ _ _ _ us hl => (by obtain ⟨x0, x1, x2, rfl⟩ := len3 hl; rfl)
  have m10 := PySem.W.mg_of X G a10
  have F11 := fun_mk (st := sOneMore) l11 c11 k11
  have b11 := F11.binds (ps := ["sets", "letters"]) fun _ _ _ _ _ _ us hl => (by obtain ⟨x0, x1, rfl⟩ := len2 hl; rfl)
  have m11 := PySem.W.mg_of X G a11
  have F12 := fun_mk (st := sFewestTold) l12 c12 k12
  have b12 := F12.binds (ps := ["letters", "reading", "found"]) fun _ _ _ _ _ _ us hl => (by obtain ⟨x0, x1, x2, rfl⟩ := len3 hl; rfl)
  have m12 := PySem.W.mg_of X G a12
  have F13 := fun_mk (st := sIsWord) l13 c13 k13
  have b13 := F13.binds (ps := ["letters", "n"]) fun _ _ _ _ _ _ us hl => (by obtain ⟨x0, x1, rfl⟩ := len2 hl; rfl)
  have m13 := PySem.W.mg_of X G a13
  have F14 := fun_mk (st := sWordsTold) l14 c14 k14
  have b14 := F14.binds (ps := ["told", "n"]) fun _ _ _ _ _ _ us hl => (by obtain ⟨x0, x1, rfl⟩ := len2 hl; rfl)
  have m14 := PySem.W.mg_of X G a14
  have F15 := fun_mk (st := sUnlike) l15 c15 k15
  have b15 := F15.binds (ps := ["words"]) fun _ _ _ _ _ _ us hl => (by obtain ⟨x0, rfl⟩ := len1 hl; rfl)
  have m15 := PySem.W.mg_of X G a15
  have F16 := fun_mk (st := sSplit) l16 c16 k16
  have b16 := F16.binds (ps := ["calls"]) fun _ _ _ _ _ _ us hl => (by obtain ⟨x0, rfl⟩ := len1 hl; rfl)
  have m16 := PySem.W.mg_of X G a16
  have F17 := fun_mk (st := sAnswer) l17 c17 k17
  have b17 := F17.binds (ps := ["desk", "call", "told"]) fun _ _ _ _ _ _ us hl => (by obtain ⟨x0, x1, x2, rfl⟩ := len3 hl; rfl)
  have m17 := PySem.W.mg_of X G a17
  have F18 := fun_mk (st := sAoR) l18 c18 k18
  have b18 := F18.binds (ps := ["desk", "call", "told"]) fun _ _ _ _ _ _ us hl => (by obtain ⟨x0, x1, x2, rfl⟩ := len3 hl; rfl)
  have m18 := PySem.W.mg_of X G a18
  have F19 := fun_mk (st := sAnswers) l19 c19 k19
  have b19 := F19.binds (ps := ["calls"]) fun _ _ _ _ _ _ us hl => (by obtain ⟨x0, rfl⟩ := len1 hl; rfl)
  have m19 := PySem.W.mg_of X G a19
  have F20 := fun_mk (st := sInit) l20 c20 k20
  have b20 := F20.binds (ps := ["self"]) fun _ _ _ _ _ _ us hl => (by obtain ⟨x0, rfl⟩ := len1 hl; rfl)
  have m20 : Meth K C "__init__" f20 := ⟨a20, i20, k20⟩
  have F21 := fun_mk (st := sBegins) l21 c21 k21
  have b21 := F21.binds (ps := ["self", "n"]) fun _ _ _ _ _ _ us hl => (by obtain ⟨x0, x1, rfl⟩ := len2 hl; rfl)
  have m21 : Meth K C "begins" f21 := ⟨a21, i21, k21⟩
  have F22 := fun_mk (st := sWord) l22 c22 k22
  have b22 := F22.binds (ps := ["self", "letters"]) fun _ _ _ _ _ _ us hl => (by obtain ⟨x0, x1, rfl⟩ := len2 hl; rfl)
  have m22 : Meth K C "word" f22 := ⟨a22, i22, k22⟩
  have F23 := fun_mk (st := sText) l23 c23 k23
  have b23 := F23.binds (ps := ["self", "told"]) fun _ _ _ _ _ _ us hl => (by obtain ⟨x0, x1, rfl⟩ := len2 hl; rfl)
  have m23 : Meth K C "text" f23 := ⟨a23, i23, k23⟩
  have F24 := fun_mk (st := sHint) l24 c24 k24
  have b24 := F24.binds (ps := ["self", "letter", "meant"]) fun _ _ _ _ _ _ us hl => (by obtain ⟨x0, x1, x2, rfl⟩ := len3 hl; rfl)
  have m24 : Meth K C "hint" f24 := ⟨a24, i24, k24⟩
  have F25 := fun_mk (st := sNearest) l25 c25 k25
  have b25 := F25.binds (ps := ["self"]) fun _ _ _ _ _ _ us hl => (by obtain ⟨x0, rfl⟩ := len1 hl; rfl)
  have m25 : Meth K C "nearest" f25 := ⟨a25, i25, k25⟩
  have F26 := fun_mk (st := sShapes) l26 c26 k26
  have b26 := F26.binds (ps := ["self", "place"]) fun _ _ _ _ _ _ us hl => (by obtain ⟨x0, x1, rfl⟩ := len2 hl; rfl)
  have m26 : Meth K C "shapes" f26 := ⟨a26, i26, k26⟩
  have F27 := fun_mk (st := sReadings) l27 c27 k27
  have b27 := F27.binds (ps := ["self", "found"]) fun _ _ _ _ _ _ us hl => (by obtain ⟨x0, x1, rfl⟩ := len2 hl; rfl)
  have m27 : Meth K C "readings" f27 := ⟨a27, i27, k27⟩
  have F28 := fun_mk (st := sSure) l28 c28 k28
  have b28 := F28.binds (ps := ["self", "found"]) fun _ _ _ _ _ _ us hl => (by obtain ⟨x0, x1, rfl⟩ := len2 hl; rfl)
  have m28 : Meth K C "sure" f28 := ⟨a28, i28, k28⟩
  have F29 := fun_mk (st := sSureM) l29 c29 k29
  have b29 := F29.binds (ps := ["self", "letter", "found"]) fun _ _ _ _ _ _ us hl => (by obtain ⟨x0, x1, x2, rfl⟩ := len3 hl; rfl)
  have m29 : Meth K C "sure_meaning" f29 := ⟨a29, i29, k29⟩
  have F30 := fun_mk (st := sMay) l30 c30 k30
  have b30 := F30.binds (ps := ["self", "letter", "found"]) fun _ _ _ _ _ _ us hl => (by obtain ⟨x0, x1, x2, rfl⟩ := len3 hl; rfl)
  have m30 : Meth K C "may" f30 := ⟨a30, i30, k30⟩
  have F31 := fun_mk (st := sTells) l31 c31 k31
  have b31 := F31.binds (ps := ["self", "k", "found"]) fun _ _ _ _ _ _ us hl => (by obtain ⟨x0, x1, x2, rfl⟩ := len3 hl; rfl)
  have m31 : Meth K C "tells" f31 := ⟨a31, i31, k31⟩
  have F32 := fun_mk (st := sNumber) l32 c32 k32
  have b32 := F32.binds (ps := ["self", "word", "reading"]) fun _ _ _ _ _ _ us hl => (by obtain ⟨x0, x1, x2, rfl⟩ := len3 hl; rfl)
  have m32 : Meth K C "number_read" f32 := ⟨a32, i32, k32⟩
  have F33 := fun_mk (st := sNeed) l33 c33 k33
  have b33 := F33.binds (ps := ["self", "k", "found"]) fun _ _ _ _ _ _ us hl => (by obtain ⟨x0, x1, x2, rfl⟩ := len3 hl; rfl)
  have m33 : Meth K C "need" f33 := ⟨a33, i33, k33⟩
  refine ⟨PySem.W.fnOf "answers" "answers" (defArgs sAnswers) (defBody sAnswers) (defScope sAnswers) .none kV19 dc19 pm19 an19 cd19 ct19, fun s us hu => (by obtain ⟨x0, rfl⟩ := len1 hu; exact .of_eq rfl), fun base _ _ => ?_⟩
  have GF := ok_fitting (P := P) (w := w) (base := base) F1 TA TB TC F0 b0 m0
  have GAR := ok_allReadings (P := P) (w := w) (base := base) F3 TA TB TC F0 b0 m0 F1 b1 m1 F2 b2 m2
  have GBs := ok_beside (P := P) (w := w) (base := base) F5 TA TB TC F0 b0 m0 F1 b1 m1 F4 b4 m4
  have GFL := ok_fewestLeft (P := P) (w := w) (base := base) F8 TA TB TC GBs F5.kp b5 m5 F4 b4 m4 F7 b7 m7 F6 b6 m6
  have GFT := ok_fewestTold (P := P) (w := w) (base := base) F12 TA TC F9 b9 m9 F10 b10 m10 F11 b11 m11
  have GI := ok_init (P := P) (w := w) (base := base) F20 TK TN
  have GBe := ok_begins (P := P) (w := w) (base := base) F21 TK TN
  have GWo := ok_word (P := P) (w := w) (base := base) F22 TK TN TA F13 b13 m13
  have GTe := ok_text (P := P) (w := w) (base := base) F23 TK TN TA F14 b14 m14 F15 b15 m15 F13 b13 m13
  have GHi := ok_hint (P := P) (w := w) (base := base) F24 TK TN TA TB F15 b15 m15
  have GNe := ok_nearest (P := P) (w := w) (base := base) F25 TK TN TA GFL F8.kp b8 m8
  have GSh := ok_shapes (P := P) (w := w) (base := base) F26 TK TN TA GF F1.kp b1 m1
  have GRd := ok_readings (P := P) (w := w) (base := base) F27 TK TA F15 b15 m15
  have GSu := ok_sure (P := P) (w := w) (base := base) F28 TK TN TA F15 b15 m15 F29 b29 m29
  have GMa := ok_may (P := P) (w := w) (K := K) (mg := mg) (base := base) (C := C) F30 TA
  have GTl := ok_tells (P := P) (w := w) (base := base) F31 TK TN TA F32 b32 m32
  have GNd := ok_need (P := P) (w := w) (base := base) F33 TK TN TA F15 b15 m15 GFT F12.kp b12 m12
  have GAo := ok_aor (P := P) (w := w) (base := base) F18 TK TN TA F15 b15 m15 GAR F3.kp b3 m3 GRd b27 m27 GSu b28 m28 GMa b30 m30 GTl b31 m31 GNd b33 m33
  have GAn := ok_answer (P := P) (w := w) (base := base) F17 TK TN GBe b21 m21 GWo b22 m22 GTe b23 m23 GHi b24 m24 GNe b25 m25 GSh b26 m26 GAo F18.kp b18 m18
  have GSp := ok_split (P := P) (w := w) (base := base) F16 TA TP
  exact ok_answers F19 TK TA ⟨mk, a20, i20, kc⟩ GI b20 GSp F16.kp b16 m16 GAn F17.kp b17 m17
end LX
end
section
open PySem PySem.W PyProof.Rows
set_option maxRecDepth 100000 in
set_option maxHeartbeats 0 in
theorem PySem.Challenge.cw_lettersexchanged_s01_answers_holds : PySem.Challenge.rw_lettersexchanged_s01_answers.Holds := by
  w_on; k_headS; (case hw => exact ⟨[.list [.int 0, .int 2]], by decide +kernel, by decide +kernel⟩)
  k_fillS
  refine L2.walk_specK (r := PySem.Challenge.rw_lettersexchanged_s01_answers) (k := 10) (CX := L2.CX0) (ps := ["calls"]) (sp := LX.spAns) (by decide +kernel) rfl rfl ⟨rfl, by decide, by decide⟩ (fun w h Y => PySem.W.kIn_of Y) ?F ?S (fun _ _ _ _ z => z)
  case F =>
    intro w mg fa h Y KX G hmg
    refine' LX.all_mk KX G hmg ?a0 ?l0 ?c0 ?k0 ?a1 ?l1 ?c1 ?k1 ?a2 ?l2 ?c2 ?k2 ?a3 ?l3 ?c3 ?k3 ?a4 ?l4 ?c4 ?k4 ?a5 ?l5 ?c5 ?k5 ?a6 ?l6 ?c6 ?k6 ?a7 ?l7 ?c7 ?k7 ?a8 ?l8 ?c8 ?k8 ?a9 ?l9 ?c9 ?k9 ?a10 ?l10 ?c10 ?k10 ?a11 ?l11 ?c11 ?k11 ?a12 ?l12 ?c12 ?k12 ?a13 ?l13 ?c13 ?k13 ?a14 ?l14 ?c14 ?k14 ?a15 ?l15 ?c15 ?k15 ?a16 ?l16 ?c16 ?k16 ?a17 ?l17 ?c17 ?k17 ?a18 ?l18 ?c18 ?k18 ?a19 ?l19 ?c19 ?k19 ?aC ?a20 ?i20 ?l20 ?c20 ?k20 ?a21 ?i21 ?l21 ?c21 ?k21 ?a22 ?i22 ?l22 ?c22 ?k22 ?a23 ?i23 ?l23 ?c23 ?k23 ?a24 ?i24 ?l24 ?c24 ?k24 ?a25 ?i25 ?l25 ?c25 ?k25 ?a26 ?i26 ?l26 ?c26 ?k26 ?a27 ?i27 ?l27 ?c27 ?k27 ?a28 ?i28 ?l28 ?c28 ?k28 ?a29 ?i29 ?l29 ?c29 ?k29 ?a30 ?i30 ?l30 ?c30 ?k30 ?a31 ?i31 ?l31 ?c31 ?k31 ?a32 ?i32 ?l32 ?c32 ?k32 ?a33 ?i33 ?l33 ?c33 ?k33 ?g_BEGINS ?g_WORD ?g_TEXT ?g_HINT ?g_READINGS ?g_SURE ?g_MAY ?g_TELLS ?g_NEAREST ?g_SHAPES ?g_TOLD_WRONG ?g_NOT_IN_TEXT ?g_NO_TEXT ?g_THERE_ALREADY ?g_LIST_FULL ?g_TOO_LARGE ?g_NO_READING ?g_MANY ?g_NO_SUCH_READING ?g_LEAST_N ?g_MOST_N ?g_MOST_WORDS ?g_MOST_LETTERS_FOR_NEED ?g_MOST_READINGS_FOR_NEED ?g_MOST_WORDS_FOR_NEAREST ?g_MOST_LETTERS ?g_MOST_TEXT_WORDS ?g_MOST_WAYS ?n_len ?n_max ?n_sorted ?n_set ?n_tuple ?n_dict ?n_zip ?n_list ?n_enumerate ?n_range ?n_all ?aP ?lP ?pg ?hd ?po ?sa ?mk ?kc ?x_n ?x_words ?x_written ?x_hints
    (case a0 => k_is)
    (case l0 => k_is)
    (case c0 => k_is)
    (case k0 => k_is)
    (case a1 => k_is)
    (case l1 => k_is)
    (case c1 => k_is)
    (case k1 => k_is)
    (case a2 => k_is)
    (case l2 => k_is)
    (case c2 => k_is)
    (case k2 => k_is)
    (case a3 => k_is)
    (case l3 => k_is)
    (case c3 => k_is)
    (case k3 => k_is)
    (case a4 => k_is)
    (case l4 => k_is)
    (case c4 => k_is)
    (case k4 => k_is)
    (case a5 => k_is)
    (case l5 => k_is)
    (case c5 => k_is)
    (case k5 => k_is)
    (case a6 => k_is)
    (case l6 => k_is)
    (case c6 => k_is)
    (case k6 => k_is)
    (case a7 => k_is)
    (case l7 => k_is)
    (case c7 => k_is)
    (case k7 => k_is)
    (case a8 => k_is)
    (case l8 => k_is)
    (case c8 => k_is)
    (case k8 => k_is)
    (case a9 => k_is)
    (case l9 => k_is)
    (case c9 => k_is)
    (case k9 => k_is)
    (case a10 => k_is)
    (case l10 => k_is)
    (case c10 => k_is)
    (case k10 => k_is)
    (case a11 => k_is)
    (case l11 => k_is)
    (case c11 => k_is)
    (case k11 => k_is)
    (case a12 => k_is)
    (case l12 => k_is)
    (case c12 => k_is)
    (case k12 => k_is)
    (case a13 => k_is)
    (case l13 => k_is)
    (case c13 => k_is)
    (case k13 => k_is)
    (case a14 => k_is)
    (case l14 => k_is)
    (case c14 => k_is)
    (case k14 => k_is)
    (case a15 => k_is)
    (case l15 => k_is)
    (case c15 => k_is)
    (case k15 => k_is)
    (case a16 => k_is)
    (case l16 => k_is)
    (case c16 => k_is)
    (case k16 => k_is)
    (case a17 => k_is)
    (case l17 => k_is)
    (case c17 => k_is)
    (case k17 => k_is)
    (case a18 => k_is)
    (case l18 => k_is)
    (case c18 => k_is)
    (case k18 => k_is)
    (case a19 => k_is)
    (case l19 => k_is)
    (case c19 => k_is)
    (case k19 => k_is)
    (case aC => k_is)
    (case a20 => k_is)
    (case i20 => k_is)
    (case l20 => k_is)
    (case c20 => k_is)
    (case k20 => k_is)
    (case a21 => k_is)
    (case i21 => k_is)
    (case l21 => k_is)
    (case c21 => k_is)
    (case k21 => k_is)
    (case a22 => k_is)
    (case i22 => k_is)
    (case l22 => k_is)
    (case c22 => k_is)
    (case k22 => k_is)
    (case a23 => k_is)
    (case i23 => k_is)
    (case l23 => k_is)
    (case c23 => k_is)
    (case k23 => k_is)
    (case a24 => k_is)
    (case i24 => k_is)
    (case l24 => k_is)
    (case c24 => k_is)
    (case k24 => k_is)
    (case a25 => k_is)
    (case i25 => k_is)
    (case l25 => k_is)
    (case c25 => k_is)
    (case k25 => k_is)
    (case a26 => k_is)
    (case i26 => k_is)
    (case l26 => k_is)
    (case c26 => k_is)
    (case k26 => k_is)
    (case a27 => k_is)
    (case i27 => k_is)
    (case l27 => k_is)
    (case c27 => k_is)
    (case k27 => k_is)
    (case a28 => k_is)
    (case i28 => k_is)
    (case l28 => k_is)
    (case c28 => k_is)
    (case k28 => k_is)
    (case a29 => k_is)
    (case i29 => k_is)
    (case l29 => k_is)
    (case c29 => k_is)
    (case k29 => k_is)
    (case a30 => k_is)
    (case i30 => k_is)
    (case l30 => k_is)
    (case c30 => k_is)
    (case k30 => k_is)
    (case a31 => k_is)
    (case i31 => k_is)
    (case l31 => k_is)
    (case c31 => k_is)
    (case k31 => k_is)
    (case a32 => k_is)
    (case i32 => k_is)
    (case l32 => k_is)
    (case c32 => k_is)
    (case k32 => k_is)
    (case a33 => k_is)
    (case i33 => k_is)
    (case l33 => k_is)
    (case c33 => k_is)
    (case k33 => k_is)
    (case g_BEGINS => k_is)
    (case g_WORD => k_is)
    (case g_TEXT => k_is)
    (case g_HINT => k_is)
    (case g_READINGS => k_is)
    (case g_SURE => k_is)
    (case g_MAY => k_is)
    (case g_TELLS => k_is)
    (case g_NEAREST => k_is)
    (case g_SHAPES => k_is)
    (case g_TOLD_WRONG => k_is)
    (case g_NOT_IN_TEXT => k_is)
    (case g_NO_TEXT => k_is)
    (case g_THERE_ALREADY => k_is)
    (case g_LIST_FULL => k_is)
    (case g_TOO_LARGE => k_is)
    (case g_NO_READING => k_is)
    (case g_MANY => k_is)
    (case g_NO_SUCH_READING => k_is)
    (case g_LEAST_N => k_is)
    (case g_MOST_N => k_is)
    (case g_MOST_WORDS => k_is)
    (case g_MOST_LETTERS_FOR_NEED => k_is)
    (case g_MOST_READINGS_FOR_NEED => k_is)
    (case g_MOST_WORDS_FOR_NEAREST => k_is)
    (case g_MOST_LETTERS => k_is)
    (case g_MOST_TEXT_WORDS => k_is)
    (case g_MOST_WAYS => k_is)
    (case n_len => k_is)
    (case n_max => k_is)
    (case n_sorted => k_is)
    (case n_set => k_is)
    (case n_tuple => k_is)
    (case n_dict => k_is)
    (case n_zip => k_is)
    (case n_list => k_is)
    (case n_enumerate => k_is)
    (case n_range => k_is)
    (case n_all => k_is)
    (case aP => k_is)
    (case lP => k_is)
    (case pg => k_is)
    (case hd => k_is)
    (case po => k_is)
    (case sa => k_is)
    (case mk => k_is)
    (case kc => k_is)
    (case x_n => k_is)
    (case x_words => k_is)
    (case x_written => k_is)
    (case x_hints => k_is)
  case S =>
    intro K H xs a hO hwi hask hx
    cases hx with
    | cons h1 h2 =>
      cases h2
      cases h1 with
      | lst hs ha =>
        have e := L2.ints_dw a.1 _ ha
        subst e
        have q : ((Codec.inLen 0 7000 a.1 && a.1.all (Codec.inInt 0 4294967295)) && true) = true := hwi
        rw [Bool.and_eq_true, Bool.and_eq_true] at q
        exact ⟨_, a.1, rfl, hs, (Codec.inNat_iff.mp q.1.1).2, hask, fun H' p hp => .lst (L2.SqL.of hp) (L2.dw_ints _)⟩
end
