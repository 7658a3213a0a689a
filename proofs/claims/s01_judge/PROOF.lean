import PyProof.Rows.All
import Wide.All
import OpenK.AllK
import Wide.FinOn
import PyProof.EqAt
import PyProof.EqKinds
import PyProof.TupleCall
import KE.BitLaws
import Open.SpecLaws
import KE.OsHead
import KE.OsGo
import LsWale
import PySem.Challenge.RW_waletexts_s01_judge
section
set_option Elab.async false
set_option linter.all false
set_option maxRecDepth 100000
namespace L2
open PySem PySem.Spec PyProof.Rows
abbrev Key := Sum Int Str
def keyIs : Key → Value → Bool
  | .inl k, v => Value.isInt k v
  | .inr x, v => Value.isStrOf x v
def keyH (w : World) : Key → Int
  | .inl k => hashInt k
  | .inr x => hashStr w x
theorem keyIs_shape : ∀ {k : Key} {v : Value}, keyIs k v = true → (∃ i t, k = Sum.inl i ∧ v = Value.int i t) ∨ (∃ x t, k = Sum.inr x ∧ v = Value.str x t)
  | .inl i, v, h => by
    obtain ⟨t, e⟩ := Value.isInt_shape (k := i) (v := v) h
    exact .inl ⟨i, t, rfl, e⟩
  | .inr x, v, h => by
    obtain ⟨t, e⟩ := Value.isStrOf_shape (x := x) (v := v) h
    exact .inr ⟨x, t, rfl, e⟩
theorem keyIs_int (i : Int) (t : Tok) : keyIs (.inl i) (.int i t) = true := by simp [keyIs, Value.isInt]
theorem keyIs_str (x : Str) (t : Tok) : keyIs (.inr x) (.str x t) = true := by simp [keyIs, Value.isStrOf]
theorem key_ll (a b : Int) : decide ((Sum.inl a : Key) = Sum.inl b) = (a == b) := by
  by_cases e : a = b
  · subst e; simp
  · have h : ¬ (Sum.inl a : Key) = Sum.inl b := fun q => e (Sum.inl.inj q)
    rw [decide_eq_false h]
    exact (beq_eq_false_iff_ne.mpr e).symm
theorem key_rr (a b : Str) : decide ((Sum.inr a : Key) = Sum.inr b) = decide (a = b) := by
  by_cases e : a = b
  · subst e; simp
  · have h : ¬ (Sum.inr a : Key) = Sum.inr b := fun q => e (Sum.inr.inj q)
    rw [decide_eq_false h, decide_eq_false e]
theorem key_lr (a : Int) (b : Str) : decide ((Sum.inl a : Key) = Sum.inr b) = false := decide_eq_false (fun q => nomatch q)
theorem key_rl (a : Str) (b : Int) : decide ((Sum.inr a : Key) = Sum.inl b) = false := decide_eq_false (fun q => nomatch q)
def mixKind (prog : Program) (w : World) : PySem.KeyKind prog w Key where
  is := keyIs
  hash := keyH w
  inj := fun v a b ha hb => by
    rcases keyIs_shape ha with ⟨i, t, rfl, rfl⟩ | ⟨x, t, rfl, rfl⟩
    · rcases keyIs_shape hb with ⟨j, u, rfl, e⟩ | ⟨y, u, rfl, e⟩
      · injection e with e1 _; rw [e1]
      · exact nomatch e
    · rcases keyIs_shape hb with ⟨j, u, rfl, e⟩ | ⟨y, u, rfl, e⟩
      · exact nomatch e
      · injection e with e1 _; rw [e1]
  byValue := fun k v h => by
    rcases keyIs_shape h with ⟨i, t, rfl, rfl⟩ | ⟨x, t, rfl, rfl⟩ <;> rfl
  pyHash := fun hv h => by
    rcases keyIs_shape hv with ⟨i, t, rfl, rfl⟩ | ⟨x, t, rfl, rfl⟩
    · exact wpAny_pyHash_int h
    · exact wpAny_pyHash_str h
  eqBool := fun hu hv h => by
    rcases keyIs_shape hu with ⟨i, t, rfl, rfl⟩ | ⟨x, t, rfl, rfl⟩
    · rcases keyIs_shape hv with ⟨j, u, rfl, rfl⟩ | ⟨y, u, rfl, rfl⟩
      · rw [key_ll] at h; exact wpAny_eqBool_int h
      · rw [key_lr] at h; exact SeqAt.EqAt.int_str i t y u _ _ _ _ h
    · rcases keyIs_shape hv with ⟨j, u, rfl, rfl⟩ | ⟨y, u, rfl, rfl⟩
      · rw [key_rl] at h; exact SeqAt.EqAt.str_int x t j u _ _ _ _ h
      · rw [key_rr] at h; exact wpAny_eqBool_str h
  «strs» := fun k x t v h => by
    rcases keyIs_shape h with ⟨i, u, rfl, e⟩ | ⟨y, u, rfl, e⟩
    · exact nomatch e
    · injection e with e1 _
      subst e1
      cases v <;> rfl
theorem mixKind_int (prog : Program) (w : World) (i : Int) (t : Tok) : (mixKind prog w).is (.inl i) (.int i t) = true := keyIs_int i t
theorem mixKind_str (prog : Program) (w : World) (x : Str) (t : Tok) : (mixKind prog w).is (.inr x) (.str x t) = true := keyIs_str x t
end L2
namespace L2
open PySem PySem.Spec PyProof.Rows
inductive V where
  | non | bl (b : Bool) | int (i : Int) | str (x : Str) | byt (b : Array UInt8) | flt (b : UInt64) | ref (a : Addr) | ty (n : String)
  deriving DecidableEq
def RelV : V → Value → Prop
  | .non, u => u = Value.none
  | .bl b, u => u = Value.bool b
  | .int i, u => ∃ t, u = Value.int i t
  | .str x, u => ∃ t, u = Value.str x t
  | .byt b, u => ∃ t, u = Value.bytes b t
  | .flt b, u => ∃ t, u = Value.float b t
  | .ref a, u => u = Value.ref a
  | .ty n, u => u = Value.type n
abbrev Vals : List V → List Value → Prop := Paired RelV
theorem Vals.length {xs : List V} {us : List Value} (r : Vals xs us) : xs.length = us.length := Paired.length r
theorem Vals.get : ∀ {xs : List V} {us : List Value} {i : Nat} {x : V}, Vals xs us → xs[i]? = some x → ∃ u, us[i]? = some u ∧ RelV x u
  | _, _, _, _, .nil, e => by simp at e
  | _, _, 0, _, .cons r _, e => by simp at e; subst e; exact ⟨_, rfl, r⟩
  | _, _, i + 1, x, .cons _ t, e => by
    obtain ⟨u, h1, h2⟩ := Vals.get (i := i) (x := x) t (by simpa using e)
    exact ⟨u, by simpa using h1, h2⟩
theorem Vals.append : ∀ {xs ys : List V} {us ws : List Value}, Vals xs us → Vals ys ws → Vals (xs ++ ys) (us ++ ws)
  | _, _, _, _, .nil, s => s
  | _, _, _, _, .cons r t, s => .cons r (Vals.append t s)
theorem Vals.take : ∀ {xs : List V} {us : List Value} (n : Nat), Vals xs us → Vals (xs.take n) (us.take n)
  | _, _, 0, _ => .nil
  | _, _, _ + 1, .nil => .nil
  | _, _, n + 1, .cons r t => .cons r (Vals.take n t)
theorem Vals.drop : ∀ {xs : List V} {us : List Value} (n : Nat), Vals xs us → Vals (xs.drop n) (us.drop n)
  | _, _, 0, r => r
  | _, _, _ + 1, .nil => .nil
  | _, _, n + 1, .cons _ t => Vals.drop n t
def RelO : Option V → Option Value → Prop
  | some v, some u => RelV v u
  | none, none => True
  | _, _ => False
def KV {κ : Type} : List (κ × V) → List (κ × Value) → Prop := Paired fun (p : κ × V) (q : κ × Value) => p.1 = q.1 ∧ RelV p.2 q.2
def kV : Key → V
  | .inl i => .int i
  | .inr x => .str x
inductive HO where
  | lst (xs : List V)
  | tup (xs : List V)
  | dK (kvs : List (Key × V)) | dT (kvs : List (List Key × V))
  | set (S : Int → Bool) (n : Nat)
  | ins (C dx : Addr) (fs : List (Str × V))
  | own (x : Addr)
  | xd (fs : List (Str × V))
  | met (f x : Addr)
  | rng (lo hi : Int)
  | frz (o : Obj) (u : HO)
  | tbl (ps : Array Value)
  | ext (φ : Heap → Prop)
abbrev Hp := Addr → Option HO
def upd (H : Hp) (a : Addr) (o : HO) : Hp := fun b => if b = a then some o else H b
theorem upd_same {H : Hp} {a : Addr} {o : HO} : upd H a o a = some o := by unfold upd; rw [if_pos rfl]
theorem upd_ne {H : Hp} {a b : Addr} {o : HO} (h : b ≠ a) : upd H a o b = H b := by unfold upd; rw [if_neg h]
theorem ne_of {H : Hp} {a b : Addr} {o u : HO} (h : H a = some o) (h' : H b = some u) (d : o ≠ u) : a ≠ b := by
  intro e; subst e; rw [h] at h'; exact d (Option.some.inj h')
theorem ne_of_none {H : Hp} {a b : Addr} {o : HO} (h : H a = some o) (h' : H b = none) : a ≠ b := by
  intro e; subst e; rw [h] at h'; cases h'
section
variable (P : Program) (w : World)
def ObjOk (H : Hp) (h : Heap) (a : Addr) : HO → Prop
  | .lst xs => xs.length ≤ sizeLine ∧ ∃ (its : List Value) (n : Nat), Vals xs its ∧ h.get? a = some { cls := .type "list", data := .seq its.toArray n }
  | .tup xs => xs.length ≤ sizeLine ∧ ∃ its : List Value, Vals xs its ∧ IsTup h a its.toArray
  | .dK kvs => kvs.length ≤ sizeLine ∧ (a == sysModules) = false ∧ ∃ vs, KV kvs vs ∧ h.DictOf (mixKind P w) a vs
  | .dT kvs => kvs.length ≤ sizeLine ∧ (a == sysModules) = false ∧ ∃ xs : List (List Key × Addr × Value),
      Paired (fun (p : List Key × V) (q : List Key × Addr × Value) => p.1 = q.1 ∧ H q.2.1 = some (.tup (p.1.map kV)) ∧ RelV p.2 q.2.2) kvs xs ∧
      ∃ o es ep, h.get? a = some o ∧ o.ExactDict ∧ o.data = .dict es ep ∧ es.toList = xs.map (entryOfKey (tupleKind (mixKind P w))) ∧ (xs.map (·.1)).Nodup
  | .set S n => h.SetOf (intKind P w) a S n
  | .ins C dx fs => H dx = some (.own a) ∧ fs.length ≤ 1000 ∧ dx ≠ a ∧ h.get? a = some (PySem.W.instObj C dx) ∧
      ∃ mA, h.Ns1 dx mA ∧ (∀ f, RelO (fs.lookup f) (mA f)) ∧ PySem.Within mA (fs.map (·.1))
  | .own _ => ∃ o, h.get? a = some o
  | .xd fs => ∃ mA, h.Ns1 a mA ∧ ∀ f, RelO (fs.lookup f) (mA f)
  | .rng lo hi => ∃ t u v, h.get? a = some { cls := .type "range", data := .fields #[.int lo t, .int hi u, .int 1 v] }
  | .frz o u => h.get? a = some o ∧ ObjOk H h a u
  | .tbl ps => h.get? a = some { cls := .none, data := .fields ps }
  | .met f x => h.get? a = some (PySem.W.methodObj (.ref f) (.ref x))
  | .ext φ => φ h ∧ (∃ o, h.get? a = some o) ∧ ∀ h1 h2 : Heap, φ h1 → (∀ o, h1.get? a = some o → h2.get? a = some o) → φ h2
def HOk (H : Hp) (h : Heap) : Prop := ∀ a o, H a = some o → ObjOk P w H h a o
end
section
variable {P : Program} {w : World} {H H' : Hp} {h h' : Heap} {a : Addr} {o : HO}
theorem ObjOk.lt (x : ObjOk P w H h a o) : a < h.objs.size := by
  cases o with
  | lst xs => obtain ⟨_, _, _, _, e⟩ := x; exact Heap.lt_size e
  | tup xs => obtain ⟨_, _, _, p⟩ := x; exact p.lt
  | dK kvs => obtain ⟨_, _, _, _, o, _, _, e, _⟩ := x; exact Heap.lt_size e
  | dT kvs => obtain ⟨_, _, _, _, o, _, _, e, _⟩ := x; exact Heap.lt_size e
  | set S n => obtain ⟨o, _, _, _, e, _⟩ := x; exact Heap.lt_size e
  | ins C dx fs => obtain ⟨_, _, _, e, _⟩ := x; exact Heap.lt_size e
  | own y => obtain ⟨_, e⟩ := x; exact Heap.lt_size e
  | xd fs => obtain ⟨_, ⟨_, _, _, e, _⟩, _⟩ := x; exact Heap.lt_size e
  | rng lo hi => obtain ⟨_, _, _, e⟩ := x; exact Heap.lt_size e
  | frz ob u => obtain ⟨e, _⟩ := x; exact Heap.lt_size e
  | tbl ps => exact Heap.lt_size (show h.get? a = some _ from x)
  | met f y => exact Heap.lt_size (show h.get? a = some _ from x)
  | ext φ => obtain ⟨_, ⟨_, e⟩, _⟩ := x; exact Heap.lt_size e
theorem Paired.mapP {α β : Type} {F G : α → β → Prop} : ∀ {l₁ : List α} {l₂ : List β}, Paired F l₁ l₂ → (∀ a b, F a b → G a b) → Paired G l₁ l₂
  | _, _, .nil, _ => .nil
  | _, _, .cons r t, f => .cons (f _ _ r) (Paired.mapP t f)
theorem ObjOk.stay (x : ObjOk P w H h a o) (k : ∀ b u, (b = a ∨ H b = some (.own a)) → h.get? b = some u → h'.get? b = some u)
    (ho : ∀ b, H b = some (.own a) → H' b = some (.own a)) (ht : ∀ b xs, H b = some (.tup xs) → H' b = some (.tup xs)) : ObjOk P w H' h' a o := by
  induction o with
  | lst xs => obtain ⟨z, its, n, r, e⟩ := x; exact ⟨z, its, n, r, k _ _ (.inl rfl) e⟩
  | tup xs => obtain ⟨z, its, r, ob, e, c⟩ := x; exact ⟨z, its, r, ob, k _ _ (.inl rfl) e, c⟩
  | dK kvs => obtain ⟨z, y, vs, r, ob, es, ep, e, c⟩ := x; exact ⟨z, y, vs, r, ob, es, ep, k _ _ (.inl rfl) e, c⟩
  | dT kvs =>
    obtain ⟨z, y, xs, r, ob, es, ep, e, c⟩ := x
    exact ⟨z, y, xs, Paired.mapP r fun p q z => ⟨z.1, ht _ _ z.2.1, z.2.2⟩, ob, es, ep, k _ _ (.inl rfl) e, c⟩
  | set S n => obtain ⟨ob, es, ep, t, e, c⟩ := x; exact ⟨ob, es, ep, t, k _ _ (.inl rfl) e, c⟩
  | ins C dx fs =>
    obtain ⟨d, z, ne, e, mA, ⟨od, es, ep, e2, c⟩, r⟩ := x
    exact ⟨ho _ d, z, ne, k _ _ (.inl rfl) e, mA, ⟨od, es, ep, k _ _ (.inr d) e2, c⟩, r⟩
  | own y => obtain ⟨ob, e⟩ := x; exact ⟨ob, k _ _ (.inl rfl) e⟩
  | xd fs => obtain ⟨mA, ⟨od, es, ep, e, c⟩, r⟩ := x; exact ⟨mA, ⟨od, es, ep, k _ _ (.inl rfl) e, c⟩, r⟩
  | rng lo hi => obtain ⟨t, u, v, e⟩ := x; exact ⟨t, u, v, k _ _ (.inl rfl) e⟩
  | frz ob u ih => obtain ⟨e, q⟩ := x; exact ⟨k _ _ (.inl rfl) e, ih q⟩
  | tbl ps =>
    have e : h.get? a = some { cls := .none, data := .fields ps } := x
    show h'.get? a = some { cls := .none, data := .fields ps }
    exact k a _ (.inl rfl) e
  | met f y =>
    have e : h.get? a = some (PySem.W.methodObj (.ref f) (.ref y)) := x
    show h'.get? a = some (PySem.W.methodObj (.ref f) (.ref y))
    exact k a _ (.inl rfl) e
  | ext φ => obtain ⟨p, ⟨o, e⟩, st⟩ := x; exact ⟨st _ _ p fun o q => k _ _ (.inl rfl) q, ⟨o, k _ _ (.inl rfl) e⟩, st⟩
theorem HOk.lt (x : HOk P w H h) (e : H a = some o) : a < h.objs.size := (x a o e).lt
theorem HOk.fresh (x : HOk P w H h) (e : h.objs.size ≤ a) : H a = none := by
  cases q : H a with
  | none => rfl
  | some u => exact absurd (Nat.lt_of_lt_of_le (x.lt q) e) (Nat.lt_irrefl _)
theorem HOk.kept (x : HOk P w H h) (k : ∀ b u, h.get? b = some u → h'.get? b = some u) : HOk P w H h' := fun a o e =>
  (x a o e).stay (fun b u _ q => k b u q) (fun _ q => q) fun _ _ q => q
theorem HOk.laid (x : HOk P w H h) (k : ∀ b u, h.get? b = some u → h'.get? b = some u) (hp : h.objs.size ≤ a) (new : ObjOk P w (upd H a o) h' a o) : HOk P w (upd H a o) h' := fun b u e => by
  have hn := x.fresh hp
  by_cases hb : b = a
  · subst hb; rw [upd_same] at e; cases e; exact new
  · rw [upd_ne hb] at e
    exact (x b u e).stay (fun c v _ q => k c v q) (fun c q => by rw [upd_ne (ne_of_none q hn)]; exact q) fun c xs q => by rw [upd_ne (ne_of_none q hn)]; exact q
end
def Rd (H : Hp) (a : Addr) (u : HO) : Prop := H a = some u ∨ ∃ o, H a = some (.frz o u)
theorem Rd.ok {P : Program} {w : World} {H : Hp} {h : Heap} {a : Addr} {u : HO} (r : Rd H a u) (x : HOk P w H h) : ObjOk P w H h a u := by
  rcases r with r | ⟨o, r⟩
  · exact x a u r
  · obtain ⟨_, q⟩ := x a _ r
    exact q
def Mut : Option HO → Prop
  | some (.lst _) => True
  | some (.dK _) => True
  | some (.dT _) => True
  | some (.set _ _) => True
  | some (.ins _ _ _) => True
  | some (.ext _) => True
  | _ => False
section
variable {P : Program} {w : World} {H : Hp} {h h' : Heap} {x e : Addr} {o' : HO}
theorem HOk.write (ok : HOk P w H h) (mu : Mut (H x)) (he : e = x ∨ H e = some (.own x)) (k : ∀ b u, b ≠ e → h.get? b = some u → h'.get? b = some u) (heo : ∃ u, h'.get? e = some u)
    (new : ObjOk P w (upd H x o') h' x o') : HOk P w (upd H x o') h' := fun b u q => by
  have nown : ∀ c y, H c = some (.own y) → c ≠ x := fun c y r z => by subst z; rw [r] at mu; exact mu
  have ntup : ∀ c xs, H c = some (.tup xs) → c ≠ x := fun c xs r z => by subst z; rw [r] at mu; exact mu
  by_cases hb : b = x
  · subst hb; rw [upd_same] at q; cases q; exact new
  · rw [upd_ne hb] at q
    by_cases hbe : b = e
    · have q' : H b = some (.own x) := by
        rcases he with z | z
        · exact absurd (hbe.trans z) hb
        · rw [hbe]; exact z
      rw [q] at q'; cases q'
      obtain ⟨v, hv⟩ := heo
      exact ⟨v, by rw [hbe]; exact hv⟩
    · refine (ok b u q).stay (fun c v hc r => k c v ?_ r) (fun c r => by rw [upd_ne (nown c b r)]; exact r) fun c xs r => by rw [upd_ne (ntup c xs r)]; exact r
      rcases hc with rfl | hc
      · exact hbe
      · rintro rfl
        rcases he with z | z
        · exact nown c b hc z
        · rw [hc] at z; cases z; exact hb rfl
end
structure Un (fs ex : List Addr) (H H' : Hp) (h h' : Heap) : Prop where
  keep : ∀ b o, h.get? b = some o → H b = none → b ∉ fs → b ∉ ex → h'.get? b = some o
  slot : ∀ b o, h.get? b = some o → H b = none → b ∈ fs → b ∉ ex → ∃ sl, h'.get? b = some { o with slots := sl }
  free : ∀ b o, h.get? b = some o → H b = none → b ∉ ex → H' b = none
  there : ∀ b o, h.get? b = some o → b ∉ ex → ∃ o', h'.get? b = some o'
  tups : ∀ b xs, H b = some (.tup xs) → H' b = some (.tup xs)
  frzs : ∀ b o u, H b = some (.frz o u) → H' b = some (.frz o u)
  tbls : ∀ b ps, H b = some (.tbl ps) → ∃ more, H' b = some (.tbl (ps ++ more))
section
variable {fs fs' ex ex' : List Addr} {H H1 H2 : Hp} {h h1 h2 h' : Heap} {a x e : Addr} {o : HO}
theorem Un.any (u : Un fs ex H H1 h h1) {b : Addr} {ob : Obj} (q : h.get? b = some ob) (n : H b = none) (hx : b ∉ ex) : ∃ sl, h1.get? b = some { ob with slots := sl } := by
  by_cases hb : b ∈ fs
  · exact u.slot b ob q n hb hx
  · exact ⟨ob.slots, u.keep b ob q n hb hx⟩
theorem Un.kept (k : ∀ b u, h.get? b = some u → h'.get? b = some u) : Un fs ex H H h h' :=
  ⟨fun b ob q _ _ _ => k b ob q, fun b ob q _ _ _ => ⟨ob.slots, k b ob q⟩, fun _ _ _ n _ => n, fun b ob q _ => ⟨ob, k b ob q⟩, fun _ _ q => q, fun _ _ _ q => q, fun _ ps q => ⟨#[], by rw [q]; simp⟩⟩
theorem Un.refl : Un fs ex H H h h := Un.kept fun _ _ q => q
theorem Un.laid (k : ∀ b u, h.get? b = some u → h'.get? b = some u) (hp : h.objs.size ≤ a) (hn : H a = none) : Un fs ex H (upd H a o) h h' where
  keep := fun b u q _ _ _ => k b u q
  slot := fun b u q _ _ _ => ⟨u.slots, k b u q⟩
  free := fun b u q n _ => by rw [upd_ne (Nat.ne_of_lt (Nat.lt_of_lt_of_le (Heap.lt_size q) hp))]; exact n
  there := fun b u q _ => ⟨u, k b u q⟩
  tups := fun b xs q => by rw [upd_ne (ne_of_none q hn)]; exact q
  frzs := fun b u xs q => by rw [upd_ne (ne_of_none q hn)]; exact q
  tbls := fun b ps q => ⟨#[], by rw [upd_ne (ne_of_none q hn), q]; simp⟩
theorem Un.write (mu : Mut (H x)) (he : e = x ∨ H e = some (.own x)) (k : ∀ b u, b ≠ e → h.get? b = some u → h'.get? b = some u) (heo : ∃ u, h'.get? e = some u) : Un fs ex H (upd H x o) h h' := by
  have hx : ∀ b, H b = none → b ≠ x := fun b n z => by subst z; rw [n] at mu; exact mu
  have hb : ∀ b, H b = none → b ≠ e := fun b n z => by
    subst z
    rcases he with r | r
    · exact hx b n r
    · rw [n] at r; cases r
  have hm : ∀ b u, H b = some u → ¬ Mut (some u) → b ≠ x := fun b u q nm z => by subst z; rw [q] at mu; exact nm mu
  refine ⟨fun b u q n _ _ => k b u (hb b n) q, fun b u q n _ _ => ⟨u.slots, k b u (hb b n) q⟩, fun b u q n _ => by rw [upd_ne (hx b n)]; exact n, fun b u q _ => ?_,
    fun b xs q => by rw [upd_ne (hm b _ q fun z => z)]; exact q, fun b u xs q => by rw [upd_ne (hm b _ q fun z => z)]; exact q, fun b ps q => ⟨#[], by rw [upd_ne (hm b _ q fun z => z), q]; simp⟩⟩
  by_cases hbe : b = e
  · subst hbe; exact heo
  · exact ⟨u, k b u hbe q⟩
end
def trk (h : Heap) (H : Hp) : List Addr := (List.range h.objs.size).filter fun a => (H a).isSome
def hidT (h : Heap) (H : Hp) : Heap := PySem.W.hideAll h (trk h H)
theorem hidT_size (h : Heap) (H : Hp) : (hidT h H).objs.size = h.objs.size := PySem.W.hideAll_size _ _
theorem hidT_get {h : Heap} {H : Hp} {b : Addr} {o : Obj} (e : h.get? b = some o) (n : H b = none) : (hidT h H).get? b = some o :=
  PySem.W.hideAll_get _ e fun hm => by
    have q : (H b).isSome = true := (List.mem_filter.mp hm).2
    rw [n] at q; simp at q
theorem of_hidT {h : Heap} {H : Hp} {b : Addr} {o : Obj} (e : (hidT h H).get? b = some o) : h.get? b = some o ∧ H b = none := by
  have e' : h.get? b = some o := PySem.W.of_hideAll (trk h H) e
  refine ⟨e', ?_⟩
  cases q : H b with
  | none => rfl
  | some x =>
    have hm : b ∈ trk h H := List.mem_filter.mpr ⟨List.mem_range.mpr (Heap.lt_size e'), by simp [q]⟩
    have z : (hidT h H).get? b = none := PySem.W.hideAll_none (trk h H) hm
    rw [z] at e; cases e
end L2
namespace L2
open PySem PySem.Spec PyProof.Rows
structure Mod (K : PySem.W.Frag) (mg : Str → Option Value) (base : Heap) : Prop where
  kin : K.In base
  glob : base.Ns mainGlobals mg
  blt : ∃ mb, base.Ns builtinsNs mb ∧ ∀ x : Str, x ≠ "__name__" → mb x = bootBuiltins x
  nolimit : base.NoLimit
structure Cx where
  prog : Program
  w : World
  K : PySem.W.Frag
  mg : Str → Option Value
  base : Heap
  A : Around
  N : List Str
  s_0 : Shared
  H_0 : Hp
  env : Env
  outer : List Env
  stack : List Env
  ex : List Addr
  fn : Str → Bool
  calm : Bool
  pn : List (Addr × Obj)
  xe : Value → Shared → Prop
def frs (l : List Env) : List Addr := l.filterMap (·.frame)
abbrev Cx.fs (X : Cx) : List Addr := frs X.outer
def Vis (sc : Scope) (x : Str) : Prop := sc.names.lookup x = some .local ∨ sc.names.lookup x = some .cell ∨ sc.names.lookup x = some .free
def Loc (sc : Scope) (x : Str) : Prop := sc.names.lookup x = some .local ∨ sc.names.lookup x = some .cell
def Look (env : Env) (h : Heap) (m : Str → Option Value) (x : Str) (u : Value) : Prop :=
  (env.kindOf x = some .local ∧ m x = some u) ∨ ((env.kindOf x = some .cell ∨ env.kindOf x = some .free) ∧ ∃ c, env.cells.lookup x = some c ∧ h.IsCell c (some u))
structure Cx.Ok (X : Cx) : Prop where
  mod : Mod X.K X.mg X.base
  kind : X.env.scope.kind = .function
  glob : X.env.globals = mainGlobals
  blt : X.env.builtins = builtinsNs
  above : X.s_0.heap.objs.size ≤ X.env.locals
  inj : ∀ x y c, X.env.cells.lookup x = some c → X.env.cells.lookup y = some c → x = y
  has : ∀ x, (X.env.kindOf x = some .cell ∨ X.env.kindOf x = some .free) → ∃ c, X.env.cells.lookup x = some c
  cab : ∀ x c, X.fn x = true → X.env.cells.lookup x = some c → X.s_0.heap.objs.size ≤ c
  hd : X.calm = true → X.A.handled = none
  frames : X.A.frames = some X.stack
  stk : X.stack = X.outer ∨ (X.stack = X.env :: X.outer ∧ X.env.frame = some X.env.locals)
  exf : ∀ b ∈ X.ex, b ≠ X.env.locals ∧ ∀ x c, X.env.cells.lookup x = some c → c ≠ b
  bs : ∀ b o, X.base.get? b = some o → X.s_0.heap.get? b = some o ∧ X.H_0 b = none
  bsz : X.base.objs.size ≤ X.s_0.heap.objs.size
  noex : ∀ b o, X.base.get? b = some o → b ∉ X.ex
  exfs : ∀ b ∈ X.ex, b ∉ X.fs
  funs : X.s_0.heap.FunFrames X.base X.outer
  frf : ∀ b ∈ X.fs, X.H_0 b = none
structure Inv (X : Cx) (pins : List (Addr × Obj)) (σ : List (Option V)) (H : Hp) (s : Shared) : Prop where
  ok : X.Ok
  os : s.os = X.s_0.os
  bare : AllBare s.gens
  base : Un X.fs X.ex X.H_0 H X.s_0.heap s.heap
  loc : ∃ m, s.heap.Ns X.env.locals m ∧ ∀ (i : Nat) (x : Str) (v : V), X.N[i]? = some x → σ[i]? = some (some v) → Vis X.env.scope x → ∃ u, RelV v u ∧ Look X.env s.heap m x u
  cell : ∀ x c, X.env.cells.lookup x = some c → ∃ v, s.heap.IsCell c v
  free : H X.env.locals = none
  freeC : ∀ x c, X.env.cells.lookup x = some c → H c = none
  pin : ∀ p ∈ X.pn ++ pins, s.heap.get? p.1 = some p.2 ∧ H p.1 = none ∧ p.1 ≠ X.env.locals ∧ p.1 ∉ X.fs ∧ ∀ v, p.2.data ≠ .cell v
  hok : HOk X.prog X.w H s.heap
  len : σ.length = X.N.length
section
variable {X : Cx} {pins : List (Addr × Obj)} {σ : List (Option V)} {H H' : Hp} {s : Shared} {h' : Heap}
theorem Cx.Ok.nofr (ok : X.Ok) {b : Addr} {o : Obj} (e : X.base.get? b = some o) : b ∉ X.fs := fun hb => by
  have := (ok.funs.mem hb).1
  rw [e] at this; cases this
theorem Inv.bs (I : Inv X pins σ H s) : ∀ b o, X.base.get? b = some o → s.heap.get? b = some o ∧ H b = none := fun b o e =>
  ⟨I.base.keep b o (I.ok.bs b o e).1 (I.ok.bs b o e).2 (I.ok.nofr e) (I.ok.noex b o e), I.base.free b o (I.ok.bs b o e).1 (I.ok.bs b o e).2 (I.ok.noex b o e)⟩
theorem Inv.bk (I : Inv X pins σ H s) : ∀ b o, X.base.get? b = some o → s.heap.get? b = some o := fun b o e => (I.bs b o e).1
theorem Inv.mod (I : Inv X pins σ H s) : Mod X.K X.mg X.base := I.ok.mod
theorem Inv.kIn (I : Inv X pins σ H s) : X.K.In s.heap := I.ok.mod.kin.keeps I.bk
theorem Inv.lt (I : Inv X pins σ H s) : X.env.locals < s.heap.objs.size := let ⟨_, hn, _⟩ := I.loc; hn.lt
theorem Inv.sz (I : Inv X pins σ H s) : X.s_0.heap.objs.size ≤ s.heap.objs.size := Nat.le_trans I.ok.above (Nat.le_of_lt I.lt)
theorem Inv.nofs (I : Inv X pins σ H s) {a : Addr} (h : s.heap.objs.size ≤ a) : a ∉ X.fs := fun hb => by
  obtain ⟨_, o, ho, _⟩ := I.ok.funs.mem hb
  exact absurd (Nat.lt_of_lt_of_le (Heap.lt_size ho) (Nat.le_trans I.sz h)) (Nat.lt_irrefl _)
theorem Inv.cne (I : Inv X pins σ H s) : ∀ x c, X.env.cells.lookup x = some c → c ≠ X.env.locals := fun x c e z => by
  obtain ⟨v, o, ho, hd⟩ := I.cell x c e
  obtain ⟨m, ⟨o', es, ep, ho', hd', _⟩, _⟩ := I.loc
  rw [z, ho'] at ho; cases ho; rw [hd'] at hd; cases hd
theorem Inv.funs (I : Inv X pins σ H s) : s.heap.FunFrames X.base X.outer := by
  have all : ∀ (l : List Env), (∀ b ∈ frs l, b ∈ X.fs) → X.s_0.heap.FunFrames X.base l → s.heap.FunFrames X.base l := by
    intro l
    induction l with
    | nil => intro _ _; trivial
    | cons env r ih =>
      intro hs hl
      obtain ⟨hk, ⟨L, o, hf, hn, ho, hd⟩, hr⟩ := hl
      have hL : L ∈ X.fs := hs L (by unfold frs; rw [List.filterMap_cons, hf]; exact List.mem_cons_self)
      obtain ⟨sl, e⟩ := I.base.slot L o ho (I.ok.frf L hL) hL fun z => I.ok.exfs L z hL
      exact ⟨hk, ⟨L, _, hf, hn, e, hd⟩, ih (fun b hb => hs b (by unfold frs; rw [List.filterMap_cons, hf]; exact List.mem_cons_of_mem _ hb)) hr⟩
  exact all X.outer (fun _ hb => hb) I.ok.funs
theorem Inv.stack (I : Inv X pins σ H s) : s.heap.FunFrames X.base X.stack := by
  rcases I.ok.stk with e | ⟨e, hf⟩
  · rw [e]; exact I.funs
  · rw [e]
    obtain ⟨m, hn, _⟩ := I.loc
    refine .cons (by rw [I.ok.kind]; decide) hf hn ?_ I.funs
    exact Heap.get?_none_of_le (Nat.le_trans I.ok.bsz I.ok.above)
theorem Inv.stkSub (I : Inv X pins σ H s) : ∀ b ∈ frs X.stack, b ∈ X.env.locals :: X.fs := fun b hb => by
  rcases I.ok.stk with e | ⟨e, hf⟩
  · rw [e] at hb; exact List.mem_cons_of_mem _ hb
  · rw [e] at hb
    unfold frs at hb
    rw [List.filterMap_cons, hf] at hb
    exact hb
theorem Inv.stkFree (I : Inv X pins σ H s) : ∀ b ∈ frs X.stack, H b = none := fun b hb => by
  rcases List.mem_cons.mp (I.stkSub b hb) with e | hb
  · rw [e]; exact I.free
  · obtain ⟨_, o, ho, _⟩ := I.ok.funs.mem hb
    exact I.base.free b o ho (I.ok.frf b hb) fun z => I.ok.exfs b z hb
theorem Inv.step {g' : Array GenState} {t' : Nat} {d' : Drawn} {ch : List Addr} (I : Inv X pins σ H s)
    (hch : ∀ b ∈ ch, (b ∈ X.ex ∨ X.s_0.heap.objs.size ≤ b) ∧ b ≠ X.env.locals ∧ (∀ x c, X.env.cells.lookup x = some c → c ≠ b) ∧ ∀ p ∈ X.pn ++ pins, p.1 ≠ b)
    (keep : ∀ b o, b ≠ X.env.locals → b ∉ X.fs → b ∉ ch → s.heap.get? b = some o → H b = none → h'.get? b = some o)
    (slot : ∀ b o, b ≠ X.env.locals → b ∈ X.fs → b ∉ ch → s.heap.get? b = some o → H b = none → ∃ sl, h'.get? b = some { o with slots := sl }) (free : ∀ b o, b ∉ ch → s.heap.get? b = some o → H b = none → H' b = none)
    (there : ∀ b o, b ∉ ch → s.heap.get? b = some o → ∃ o', h'.get? b = some o')
    (tups : ∀ b xs, H b = some (.tup xs) → H' b = some (.tup xs)) (frzs : ∀ b o u, H b = some (.frz o u) → H' b = some (.frz o u)) (tbls : ∀ b ps, H b = some (.tbl ps) → ∃ more, H' b = some (.tbl (ps ++ more)))
    (ns : ∀ m, s.heap.Ns X.env.locals m → h'.Ns X.env.locals m) (hok : HOk X.prog X.w H' h') (hg : AllBare g') :
    Inv X pins σ H' { s with heap := h', gens := g', drawn := d', toks := t' } := by
  have neL : ∀ b o, X.s_0.heap.get? b = some o → b ≠ X.env.locals := fun b o e => Nat.ne_of_lt (Nat.lt_of_lt_of_le (Heap.lt_size e) I.ok.above)
  have neC : ∀ b o, X.s_0.heap.get? b = some o → b ∉ X.ex → b ∉ ch := fun b o e hx hb => by
    rcases (hch b hb).1 with z | z
    · exact hx z
    · exact absurd (Nat.lt_of_lt_of_le (Heap.lt_size e) z) (Nat.lt_irrefl _)
  have cellK : ∀ x c, X.env.cells.lookup x = some c → ∀ v, s.heap.IsCell c v → h'.IsCell c v := fun x c e v ⟨o, ho, hd⟩ => by
    have nch : c ∉ ch := fun z => (hch c z).2.2.1 x c e rfl
    by_cases hc : c ∈ X.fs
    · obtain ⟨sl, q⟩ := slot c o (I.cne x c e) hc nch ho (I.freeC x c e)
      exact ⟨_, q, hd⟩
    · exact ⟨o, keep c o (I.cne x c e) hc nch ho (I.freeC x c e), hd⟩
  refine ⟨I.ok, I.os, hg, ⟨fun b o e n hb hx => ?_, fun b o e n hb hx => ?_, fun b o e n hx => ?_, fun b o e hx => ?_, fun b xs e => tups b xs (I.base.tups b xs e), fun b o xs e => frzs b o xs (I.base.frzs b o xs e), fun b ps e => ?_⟩, ?_, fun x c e => ?_, ?_, fun x c e => ?_, fun p hp => ?_, hok, I.len⟩
  · exact keep b o (neL b o e) hb (neC b o e hx) (I.base.keep b o e n hb hx) (I.base.free b o e n hx)
  · obtain ⟨sl, e1⟩ := I.base.slot b o e n hb hx
    obtain ⟨sl', e2⟩ := slot b _ (neL b o e) hb (neC b o e hx) e1 (I.base.free b o e n hx)
    exact ⟨sl', e2⟩
  · obtain ⟨o', e1⟩ := I.base.there b o e hx
    exact free b o' (neC b o e hx) e1 (I.base.free b o e n hx)
  · obtain ⟨o', e1⟩ := I.base.there b o e hx
    exact there b o' (neC b o e hx) e1
  · obtain ⟨m1, e1⟩ := I.base.tbls b ps e
    obtain ⟨m2, e2⟩ := tbls b _ e1
    exact ⟨m1 ++ m2, by rw [e2, Array.append_assoc]⟩
  · obtain ⟨m, hn, hl⟩ := I.loc
    refine ⟨m, ns m hn, fun i x v e1 e2 e3 => ?_⟩
    obtain ⟨u, r, l⟩ := hl i x v e1 e2 e3
    refine ⟨u, r, ?_⟩
    rcases l with l | ⟨k, c, e, z⟩
    · exact .inl l
    · exact .inr ⟨k, c, e, cellK x c e _ z⟩
  · obtain ⟨v, z⟩ := I.cell x c e
    exact ⟨v, cellK x c e v z⟩
  · obtain ⟨m, ⟨o, _, _, ho, _⟩, _⟩ := I.loc
    exact free _ o (fun z => (hch _ z).2.1 rfl) ho I.free
  · obtain ⟨v, o, ho, hd⟩ := I.cell x c e
    exact free c o (fun z => (hch c z).2.2.1 x c e rfl) ho (I.freeC x c e)
  · obtain ⟨e, n, ne, nf, d⟩ := I.pin p hp
    have nch : p.1 ∉ ch := fun z => (hch p.1 z).2.2.2 p hp rfl
    exact ⟨keep p.1 p.2 ne nf nch e n, free p.1 p.2 nch e n, ne, nf, d⟩
theorem Inv.un {t' : Nat} (I : Inv X pins σ H s) (u : Un X.fs [] H H' s.heap h') (hok : HOk X.prog X.w H' h') : Inv X pins σ H' { s with heap := h', toks := t' } := by
  obtain ⟨m, ⟨o, es, ep, ho, r⟩, _⟩ := id I.loc
  obtain ⟨sl, hL⟩ := u.any ho I.free (by simp)
  exact I.step (g' := s.gens) (d' := s.drawn) (ch := []) (fun _ z => nomatch z) (fun b o _ hb _ e n => u.keep b o e n hb (by simp)) (fun b o _ hb _ e n => u.slot b o e n hb (by simp)) (fun b o _ e n => u.free b o e n (by simp)) (fun b o _ e => u.there b o e (by simp)) u.tups u.frzs u.tbls (fun m' hm => by
    obtain ⟨o', es', ep', ho', r'⟩ := hm
    rw [ho] at ho'; cases ho'
    exact ⟨_, es', ep', hL, r'⟩) hok I.bare
theorem Inv.call {g' : Array GenState} {t' : Nat} {d' : Drawn} {ch : List Addr} (I : Inv X pins σ H s) (u : Un (frs X.stack) ch H H' s.heap h') (hok : HOk X.prog X.w H' h') (hg : AllBare g')
    (hch : ∀ b ∈ ch, (b ∈ X.ex ∨ X.s_0.heap.objs.size ≤ b) ∧ b ≠ X.env.locals ∧ (∀ x c, X.env.cells.lookup x = some c → c ≠ b) ∧ ∀ p ∈ X.pn ++ pins, p.1 ≠ b) :
    Inv X pins σ H' { s with heap := h', gens := g', drawn := d', toks := t' } := by
  obtain ⟨m, ⟨o, es, ep, ho, r⟩, _⟩ := id I.loc
  obtain ⟨sl, hL⟩ := u.any ho I.free fun z => (hch _ z).2.1 rfl
  exact I.step (ch := ch) hch (fun b o hL hb hc e n => u.keep b o e n (fun z => (List.mem_cons.mp (I.stkSub b z)).elim hL hb) hc) (fun b o _ _ hc e n => u.any e n hc) (fun b o hc e n => u.free b o e n hc) (fun b o hc e => u.there b o e hc) u.tups u.frzs u.tbls (fun m' hm => by
    obtain ⟨o', es', ep', ho', r'⟩ := hm
    rw [ho] at ho'; cases ho'
    exact ⟨_, es', ep', hL, r'⟩) hok hg
theorem Inv.turned {t' : Nat} {it : Addr} (I : Inv X pins σ H s) (k : ∀ b o, b ≠ it → s.heap.get? b = some o → h'.get? b = some o) (hn : H it = none) (hL : it ≠ X.env.locals)
    (h1 : it ∈ X.ex ∨ X.s_0.heap.objs.size ≤ it) (h2 : ∀ x c, X.env.cells.lookup x = some c → c ≠ it) (h3 : ∀ p ∈ X.pn ++ pins, p.1 ≠ it) : Inv X pins σ H { s with heap := h', toks := t' } := by
  have nit : ∀ b u, H b = some u → b ≠ it := fun b u e z => by rw [z, hn] at e; cases e
  refine I.step (g' := s.gens) (d' := s.drawn) (ch := [it]) (fun b hb => ?_) (fun b o _ _ hc e _ => k b o (fun z => hc (by simp [z])) e) (fun b o _ _ hc e _ => ⟨o.slots, k b o (fun z => hc (by simp [z])) e⟩) (fun _ _ _ _ n => n)
    (fun b o hc e => ⟨o, k b o (fun z => hc (by simp [z])) e⟩) (fun _ _ e => e) (fun _ _ _ e => e) (fun b ps e => ⟨#[], by rw [e]; simp⟩) (fun m hm => ?_) (fun b u e => ?_) I.bare
  · have e : b = it := by simpa using hb
    subst e
    exact ⟨h1, hL, h2, h3⟩
  · obtain ⟨o, es, ep, ho, r⟩ := hm
    exact ⟨o, es, ep, k _ o (Ne.symm hL) ho, r⟩
  · refine (I.hok b u e).stay (fun c v hc q => k c v ?_ q) (fun _ q => q) fun _ _ q => q
    rcases hc with z | z
    · rw [z]; exact nit b u e
    · exact nit c _ z
theorem Inv.tok (I : Inv X pins σ H s) (t : Nat) : Inv X pins σ H { s with toks := t } := I.un (h' := s.heap) (t' := t) Un.refl I.hok
theorem Inv.kept {t' : Nat} (I : Inv X pins σ H s) (k : ∀ b u, s.heap.get? b = some u → h'.get? b = some u) : Inv X pins σ H { s with heap := h', toks := t' } := I.un (Un.kept k) (I.hok.kept k)
theorem Inv.laid {a : Addr} {o : HO} {t' : Nat} (I : Inv X pins σ H s) (k : ∀ b u, s.heap.get? b = some u → h'.get? b = some u) (hp : s.heap.objs.size ≤ a) (new : ObjOk X.prog X.w (upd H a o) h' a o) :
    Inv X pins σ (upd H a o) { s with heap := h', toks := t' } := I.un (Un.laid k hp (I.hok.fresh hp)) (I.hok.laid k hp new)
theorem Inv.write {x e : Addr} {o : HO} {t' : Nat} (I : Inv X pins σ H s) (mu : Mut (H x)) (he : e = x ∨ H e = some (.own x)) (k : ∀ b u, b ≠ e → s.heap.get? b = some u → h'.get? b = some u) (heo : ∃ u, h'.get? e = some u)
    (new : ObjOk X.prog X.w (upd H x o) h' x o) : Inv X pins σ (upd H x o) { s with heap := h', toks := t' } := I.un (Un.write mu he k heo) (I.hok.write mu he k heo new)
theorem Inv.weak {σ' : List (Option V)} (I : Inv X pins σ H s) (hl : σ'.length = σ.length) (w : ∀ (i : Nat) v, σ'[i]? = some (some v) → σ[i]? = some (some v)) : Inv X pins σ' H s :=
  ⟨I.ok, I.os, I.bare, I.base, let ⟨m, hn, hl'⟩ := I.loc; ⟨m, hn, fun i x v e1 e2 e3 => hl' i x v e1 (w i v e2) e3⟩, I.cell, I.free, I.freeC, I.pin, I.hok, hl.trans I.len⟩
theorem Inv.pins_of {pins' : List (Addr × Obj)} (I : Inv X pins σ H s) (h : ∀ p ∈ pins', s.heap.get? p.1 = some p.2 ∧ H p.1 = none ∧ p.1 ≠ X.env.locals ∧ p.1 ∉ X.fs ∧ ∀ v, p.2.data ≠ .cell v) : Inv X pins' σ H s :=
  ⟨I.ok, I.os, I.bare, I.base, I.loc, I.cell, I.free, I.freeC, fun p hp => (List.mem_append.mp hp).elim (fun z => I.pin p (List.mem_append_left _ z)) (h p), I.hok, I.len⟩
theorem nodup_ix {N : List Str} (hN : N.Nodup) {i j : Nat} {x : Str} (a : N[i]? = some x) (b : N[j]? = some x) : i = j := by
  obtain ⟨h1, e1⟩ := List.getElem?_eq_some_iff.mp a
  obtain ⟨h2, e2⟩ := List.getElem?_eq_some_iff.mp b
  exact (List.getElem_inj hN).mp (e1.trans e2.symm)
theorem store_ok2 {M : Model} {A : Around} {E : Value → Shared → Prop} {i : Nat} {x : Str} {v : V} {u : Value} {Q : Unit → Shared → Prop} (I : Inv X pins σ H s) (hN : X.N.Nodup) (hi : X.N[i]? = some x) (hx : Loc X.env.scope x) (r : RelV v u)
    (h : ∀ s', Inv X pins (σ.set i (some v)) H s' → (∃ a, Heap.SameBut a s.heap s'.heap ∧ (a = X.env.locals ∨ X.env.cells.lookup x = some a)) → Q () s') (hf : X.fn x = true ∨ X.env.scope.names.lookup x = some .local := by first | exact .inl rfl | exact .inr rfl | assumption) : wpAny M A (storeName X.env x u) Q E s := by
  obtain ⟨m, hn, hl⟩ := id I.loc
  have hcls : (X.env.scope.kind == .class || (X.env.scope.kind == .module && X.env.locals != X.env.globals)) = false := by rw [I.ok.kind]; rfl
  have hiσ : i < σ.length := by rw [I.len]; exact (List.getElem?_eq_some_iff.mp hi).1
  have cne := I.cne
  have tracked : ∀ {a : Addr} {h' : Heap}, (∃ o, s.heap.get? a = some o ∧ H a = none) → Heap.SameBut a s.heap h' → HOk X.prog X.w H h' := fun {a h'} ha hs b ob e => by
    obtain ⟨_, _, hfree⟩ := ha
    refine (I.hok b ob e).stay (fun c w' hc q => (hs.2 c ?_).trans q) (fun _ q => q) fun _ _ q => q
    rintro rfl
    rcases hc with rfl | hc
    · rw [hfree] at e; cases e
    · rw [hfree] at hc; cases hc
  rcases hx with hk | hk
  · refine wpAny_storeName_local hk hn (fun h' hn' hs => ?_) hcls
    obtain ⟨oL, _, _, hoL, _⟩ := id hn
    refine h _ ⟨I.ok, I.os, I.bare, ⟨fun b o e n hb hx => ?_, fun b o e n hb hx => ?_, I.base.free, fun b o e hx => ?_, I.base.tups, I.base.frzs, I.base.tbls⟩, ⟨_, hn', fun j y v' e1 e2 e3 => ?_⟩, fun y c e => ?_, I.free, I.freeC, fun p hp => ?_, tracked ⟨oL, hoL, I.free⟩ hs, by simpa using I.len⟩ ⟨_, hs, .inl rfl⟩
    · exact (hs.2 b (Nat.ne_of_lt (Nat.lt_of_lt_of_le (Heap.lt_size e) I.ok.above))).trans (I.base.keep b o e n hb hx)
    · obtain ⟨sl, e1⟩ := I.base.slot b o e n hb hx
      exact ⟨sl, (hs.2 b (Nat.ne_of_lt (Nat.lt_of_lt_of_le (Heap.lt_size e) I.ok.above))).trans e1⟩
    · obtain ⟨o', e1⟩ := I.base.there b o e hx
      exact ⟨o', (hs.2 b (Nat.ne_of_lt (Nat.lt_of_lt_of_le (Heap.lt_size e) I.ok.above))).trans e1⟩
    · by_cases hj : j = i
      · subst hj
        rw [hi] at e1; cases e1
        rw [List.getElem?_set_self hiσ] at e2
        cases e2
        exact ⟨u, r, .inl ⟨hk, by simp⟩⟩
      · rw [List.getElem?_set_ne (Ne.symm hj)] at e2
        obtain ⟨u', r', q⟩ := hl j y v' e1 e2 e3
        refine ⟨u', r', ?_⟩
        rcases q with ⟨k, e⟩ | ⟨k, c, e, z⟩
        · refine .inl ⟨k, ?_⟩
          have : y ≠ x := fun e => hj (nodup_ix hN e1 (e ▸ hi))
          simp [this, e]
        · exact .inr ⟨k, c, e, z.sameBut hs (cne y c e)⟩
    · obtain ⟨w', z⟩ := I.cell y c e
      exact ⟨w', z.sameBut hs (cne y c e)⟩
    · obtain ⟨e, n, ne, nf, d⟩ := I.pin p hp
      exact ⟨(hs.2 p.1 ne).trans e, n, ne, nf, d⟩
  · have hfn : X.fn x = true := by
      rcases hf with z | z
      · exact z
      · rw [z] at hk; cases hk
    obtain ⟨c, hc⟩ := I.ok.has x (.inl hk)
    obtain ⟨w', z⟩ := I.cell x c hc
    refine wpAny_storeName_cell I.ok.kind hk hc z (fun h' hc' hs => ?_)
    obtain ⟨oc, hoc, hocd⟩ := id z
    refine h { s with heap := h' } ⟨I.ok, I.os, I.bare, ⟨fun b o e n hb hx => ?_, fun b o e n hb hx => ?_, I.base.free, fun b o e hx => ?_, I.base.tups, I.base.frzs, I.base.tbls⟩, ⟨m, hn.sameBut hs (Ne.symm (cne x c hc)), fun j y v' e1 e2 e3 => ?_⟩, fun y c' e => ?_, I.free, I.freeC, fun p hp => ?_, tracked ⟨oc, hoc, I.freeC x c hc⟩ hs, by simpa using I.len⟩ ⟨c, hs, .inr hc⟩
    · exact (hs.2 b (Nat.ne_of_lt (Nat.lt_of_lt_of_le (Heap.lt_size e) (I.ok.cab x c hfn hc)))).trans (I.base.keep b o e n hb hx)
    · obtain ⟨sl, e1⟩ := I.base.slot b o e n hb hx
      exact ⟨sl, (hs.2 b (Nat.ne_of_lt (Nat.lt_of_lt_of_le (Heap.lt_size e) (I.ok.cab x c hfn hc)))).trans e1⟩
    · obtain ⟨o', e1⟩ := I.base.there b o e hx
      exact ⟨o', (hs.2 b (Nat.ne_of_lt (Nat.lt_of_lt_of_le (Heap.lt_size e) (I.ok.cab x c hfn hc)))).trans e1⟩
    · by_cases hj : j = i
      · subst hj
        rw [hi] at e1; cases e1
        rw [List.getElem?_set_self hiσ] at e2
        cases e2
        exact ⟨u, r, .inr ⟨.inl hk, c, hc, hc'⟩⟩
      · rw [List.getElem?_set_ne (Ne.symm hj)] at e2
        obtain ⟨u', r', q⟩ := hl j y v' e1 e2 e3
        refine ⟨u', r', ?_⟩
        rcases q with q | ⟨k, c', e, z'⟩
        · exact .inl q
        · refine .inr ⟨k, c', e, z'.sameBut hs ?_⟩
          rintro rfl
          exact hj (nodup_ix hN e1 (I.ok.inj _ _ _ e hc ▸ hi))
    · by_cases hcc : c' = c
      · subst hcc; exact ⟨_, hc'⟩
      · obtain ⟨w2, z2⟩ := I.cell y c' e
        exact ⟨w2, z2.sameBut hs hcc⟩
    · obtain ⟨e, n, ne, nf, d⟩ := I.pin p hp
      refine ⟨(hs.2 p.1 ?_).trans e, n, ne, nf, d⟩
      intro q
      rw [q, hoc] at e
      have q' : oc = p.2 := Option.some.inj e
      exact d w' (by rw [← q']; exact hocd)
theorem store_ok {M : Model} {A : Around} {E : Value → Shared → Prop} {i : Nat} {x : Str} {v : V} {u : Value} {Q : Unit → Shared → Prop} (I : Inv X pins σ H s) (hN : X.N.Nodup) (hi : X.N[i]? = some x) (hx : Loc X.env.scope x) (r : RelV v u)
    (h : ∀ s', Inv X pins (σ.set i (some v)) H s' → Q () s') (hf : X.fn x = true ∨ X.env.scope.names.lookup x = some .local := by first | exact .inl rfl | exact .inr rfl | assumption) : wpAny M A (storeName X.env x u) Q E s :=
  store_ok2 I hN hi hx r (fun s' I' _ => h s' I') hf
theorem Inv.call' {s' : Shared} {ch : List Addr} (I : Inv X pins σ H s) (ho : s'.os = s.os) (u : Un (frs X.stack) ch H H' s.heap s'.heap) (hok : HOk X.prog X.w H' s'.heap) (hg : AllBare s'.gens)
    (hch : ∀ b ∈ ch, (b ∈ X.ex ∨ X.s_0.heap.objs.size ≤ b) ∧ b ≠ X.env.locals ∧ (∀ x c, X.env.cells.lookup x = some c → c ≠ b) ∧ ∀ p ∈ X.pn ++ pins, p.1 ≠ b) : Inv X pins σ H' s' := by
  obtain ⟨h', g', d', t', o'⟩ := s'
  have e : o' = s.os := ho
  subst e
  exact I.call (g' := g') (t' := t') (d' := d') u hok hg hch
end
abbrev XK := Value → Option Addr → Hp → Prop
abbrev St := List (Option V)
abbrev VK := V → Hp → Prop
abbrev TE := St → Hp → VK → Prop
abbrev TT := St → Hp → (Bool → Hp → Prop) → Prop
abbrev TA := St → Hp → (List V → Hp → Prop) → Prop
structure Ends where
  nx : St → Hp → Prop
  rt : VK
  bk : St → Hp → Prop := fun _ _ => False
  ct : St → Hp → Prop := fun _ _ => False
abbrev TS := Ends → St → Hp → Prop
def EP (X : Cx) (pins : List (Addr × Obj)) (σ : St) (Q : VK) (u : Value) (s' : Shared) : Prop := ∃ v H', Inv X pins σ H' s' ∧ RelV v u ∧ Q v H'
def TP (X : Cx) (pins : List (Addr × Obj)) (σ : St) (Q : Bool → Hp → Prop) (b : Bool) (s' : Shared) : Prop := ∃ H', Inv X pins σ H' s' ∧ Q b H'
def AP (X : Cx) (pins : List (Addr × Obj)) (σ : St) (Q : List V → Hp → Prop) (us : List Value) (s' : Shared) : Prop := ∃ vs H', Inv X pins σ H' s' ∧ Vals vs us ∧ Q vs H'
def SP (X : Cx) (pins : List (Addr × Obj)) (D : Ends) (f : Flow) (s' : Shared) : Prop :=
  match f with
  | .next => ∃ σ' H', Inv X pins σ' H' s' ∧ D.nx σ' H'
  | .brk => ∃ σ' H', Inv X pins σ' H' s' ∧ D.bk σ' H'
  | .cont => ∃ σ' H', Inv X pins σ' H' s' ∧ D.ct σ' H'
  | .ret u => ∃ v σ' H', Inv X pins σ' H' s' ∧ RelV v u ∧ D.rt v H'
def PE (X : Cx) (e : Expr) (t : TE) : Prop :=
  ∀ (pins : List (Addr × Obj)) (s : Shared) (σ : St) (H : Hp) (Q : VK), Inv X pins σ H s → t σ H Q → wpAny (model X.prog X.w) X.A (eval e X.env) (EP X pins σ Q) X.xe s
def PT (X : Cx) (e : Expr) (t : TT) : Prop :=
  ∀ (pins : List (Addr × Obj)) (s : Shared) (σ : St) (H : Hp) (Q : Bool → Hp → Prop), Inv X pins σ H s → t σ H Q → wpAny (model X.prog X.w) X.A (isTrue e X.env (eval e X.env)) (TP X pins σ Q) X.xe s
def PW (X : Cx) (e : Expr) (t : TT) : Prop :=
  ∀ (whole : Sem Value) (pins : List (Addr × Obj)) (s : Shared) (σ : St) (H : Hp) (Q : Bool → Hp → Prop), Inv X pins σ H s → t σ H Q → wpAny (model X.prog X.w) X.A (isTrue e X.env whole) (TP X pins σ Q) X.xe s
theorem PW.pt {X : Cx} {e : Expr} {t : TT} (h : PW X e t) : PT X e t := h _
def PA (X : Cx) (es : List Expr) (t : TA) : Prop :=
  ∀ (pos : Pos) (pins : List (Addr × Obj)) (s : Shared) (σ : St) (H : Hp) (Q : List V → Hp → Prop), Inv X pins σ H s → t σ H Q → wpAny (model X.prog X.w) X.A (spliced (backTo pos (starEach es X.env))) (AP X pins σ Q) X.xe s
def PS (X : Cx) (st : Stmt) (t : TS) : Prop :=
  ∀ (pins : List (Addr × Obj)) (s : Shared) (σ : St) (H : Hp) (D : Ends), Inv X pins σ H s → t D σ H → wpAny (model X.prog X.w) X.A (exec st X.env) (SP X pins D) X.xe s
def PSs (X : Cx) (st : List Stmt) (t : TS) : Prop :=
  ∀ (pins : List (Addr × Obj)) (s : Shared) (σ : St) (H : Hp) (D : Ends), Inv X pins σ H s → t D σ H → wpAny (model X.prog X.w) X.A (execs st X.env) (SP X pins D) X.xe s
theorem thn {α : Type} {t : Sem α} {Q Q' : α → Shared → Prop} {M : Model} {A : Around} {E : Value → Shared → Prop} {s : Shared} (h : wpAny M A t Q E s) (hQ : ∀ a s, Q a s → Q' a s) : wpAny M A t Q' E s := wpAny_mono h hQ fun _ _ x => x
end L2
namespace L2
open PySem PySem.Spec PyProof.Rows
section
variable {X : Cx}
def tVar (i : Nat) : TE := fun σ H Q => ∃ v, σ[i]? = some (some v) ∧ Q v H
def tC (v : V) : TE := fun _ H Q => Q v H
theorem pe_var {i : Nat} {x : Str} {pos : Pos} (hN : X.N[i]? = some x) (hv : Vis X.env.scope x) (hd : (x == ("__debug__" : Str)) = false := by decide) (hcd : (x == ("__classdict__" : Str)) = false := by decide) : PE X (.Name x pos) (tVar i) := by
  intro pins s σ H Q I h
  obtain ⟨v, e, h⟩ := h
  obtain ⟨m, hn, hl⟩ := I.loc
  obtain ⟨u, r, l⟩ := hl i x v hN e hv
  have fin : EP X pins σ Q u s := ⟨v, H, I, r, h⟩
  rcases l with ⟨hk, hm⟩ | ⟨hk, c, hc, hcell⟩
  · exact wpAny_Name (wpAny_loadName_local I.ok.kind hk hn hm fin) hd
  · rcases hk with hk | hk
    · exact wpAny_Name (wpAny_loadName_cell I.ok.kind hk hc hcell fin) hd
    · exact wpAny_Name (wpAny_loadName_free I.ok.kind hk hc hcell fin hcd) hd
theorem pe_int {i j pos} : PE X (.Constant (.int i) j pos) (tC (.int i)) := fun _ _ _ H _ I h => wpAny_Constant_int ⟨.int i, H, I.tok _, ⟨_, rfl⟩, h⟩
theorem pe_bl {b j pos} : PE X (.Constant (.bool b) j pos) (tC (.bl b)) := fun _ _ _ H _ I h => Constant_bool ⟨.bl b, H, I, rfl, h⟩
theorem pe_non {j pos} : PE X (.Constant .none j pos) (tC .non) := fun _ _ _ H _ I h => Constant_none ⟨.non, H, I, rfl, h⟩
theorem pe_str {x j pos} : PE X (.Constant (.str x) j pos) (tC (.str x)) := fun _ _ _ H _ I h => Calls.Constant_str ⟨.str x, H, I.tok _, ⟨_, rfl⟩, h⟩
def Gl (X : Cx) (x : Str) : Prop := X.env.kindOf x = some .globalImplicit
theorem ld_glob {E : Value → Shared → Prop} {pins : List (Addr × Obj)} {s : Shared} {σ : St} {H : Hp} {x : Str} {u : Value} {pos : Pos} {Q : Value → Shared → Prop} (I : Inv X pins σ H s) (hg : Gl X x) (hm : X.mg x = some u) (h : Q u s)
    (hd : (x == ("__debug__" : Str)) = false := by decide) : wpAny (model X.prog X.w) X.A (eval (.Name x pos) X.env) Q E s :=
  Calls.Name_function_global I.ok.kind hg (Calls.loadGlobal_global (by rw [I.ok.glob]; exact I.mod.glob.keeps I.bk) hm h) hd
theorem ld_blt {E : Value → Shared → Prop} {pins : List (Addr × Obj)} {s : Shared} {σ : St} {H : Hp} {x : Str} {u : Value} {pos : Pos} {Q : Value → Shared → Prop} (I : Inv X pins σ H s) (hg : Gl X x) (hm : X.mg x = none) (hv : bootBuiltins x = some u) (h : Q u s)
    (hn : x ≠ "__name__" := by decide) (hd : (x == ("__debug__" : Str)) = false := by decide) : wpAny (model X.prog X.w) X.A (eval (.Name x pos) X.env) Q E s := by
  obtain ⟨mb, h1, h2⟩ := I.mod.blt
  exact Calls.Name_function_global I.ok.kind hg (Calls.loadGlobal_builtin (by rw [I.ok.glob]; exact I.mod.glob.keeps I.bk) hm (by rw [I.ok.blt]; exact h1.keeps I.bk) ((h2 x hn).trans hv) h) hd
theorem pe_glob {x : Str} {v : V} {u : Value} {pos : Pos} (hg : Gl X x) (hm : X.mg x = some u) (r : RelV v u) (hd : (x == ("__debug__" : Str)) = false := by decide) : PE X (.Name x pos) (tC v) :=
  fun _ _ _ H _ I h => ld_glob I hg hm ⟨v, H, I, r, h⟩ hd
variable {a b : Expr} {ta tb : TE} {pos : Pos}
def PC (X : Cx) (op : CmpOp) (a b : Expr) (t : TE) : Prop :=
  ∀ (pins : List (Addr × Obj)) (s : Shared) (σ : St) (H : Hp) (Q : VK), Inv X pins σ H s → t σ H Q →
    wpAny (model X.prog X.w) X.A (eval a X.env) (fun v s₁ => wpAny (model X.prog X.w) X.A (eval b X.env) (fun u s₂ => wpAny (model X.prog X.w) X.A (compareOp op v u) (EP X pins σ Q) X.xe s₂) X.xe s₁) X.xe s
def tB (t : TE) : TT := fun σ H Q => t σ H fun x H1 => ∃ c, x = .bl c ∧ Q c H1
theorem pt_cmp {op : CmpOp} {t : TE} (h : PC X op a b t) (h1 : behindInMarks op b = false := by first | exact nobehind _ (by decide) (by decide) | rfl) : PT X (.Compare a [op] [b] pos) (tB t) := by
  intro pins s σ H Q I hw
  refine wpAny_isTrue_Compare1 (thn (h pins s σ H _ I hw) fun v s1 h1 => thn h1 fun u s2 h2 => thn h2 fun c s3 ⟨x, H1, I1, r1, q1⟩ => ?_) h1
  obtain ⟨d, rfl, q⟩ := q1
  cases r1
  exact wpAny_truthy_bool ⟨H1, I1, q⟩
theorem pt_val {e : Expr} {t : TE} (h : PE X e t) (he : ∀ whole, isTrue e X.env whole = (do let v ← whole; standAt e.pos; holding [v] (truthy v)) := by intro _; rfl) : PT X e (tB t) := by
  intro pins s σ H Q I hw
  refine isTrue_plain (thn (h pins s σ H _ I hw) fun v s1 ⟨x, H1, I1, r1, q1⟩ => ?_) (he _)
  obtain ⟨d, rfl, q⟩ := q1
  cases r1
  exact wpAny_truthy_bool ⟨H1, I1, q⟩
variable {tA tB' : TT} {rest : List Expr}
def tAnd (t u : TT) : TT := fun σ H Q => t σ H fun c H1 => if c = true then u σ H1 Q else Q false H1
def tOr (t u : TT) : TT := fun σ H Q => t σ H fun c H1 => if c = true then Q true H1 else u σ H1 Q
theorem pw_and1 (ha : PT X a tA) : PW X (.BoolOp .And [a] pos) tA := by
  intro wh pins s σ H Q I h
  refine isTrue_and (thn (ha pins s σ H Q I h) fun c s1 e => ?_)
  cases c with
  | true => exact isTrue_and_nil e
  | false => exact e
theorem pw_or1 (ha : PT X a tA) : PW X (.BoolOp .Or [a] pos) tA := by
  intro wh pins s σ H Q I h
  refine isTrue_or (thn (ha pins s σ H Q I h) fun c s1 e => ?_)
  cases c with
  | false => exact isTrue_or_nil e
  | true => exact e
theorem pw_and (ha : PT X a tA) (hb : PW X (.BoolOp .And (b :: rest) pos) tB') : PW X (.BoolOp .And (a :: b :: rest) pos) (tAnd tA tB') := by
  intro wh pins s σ H Q I h
  refine isTrue_and (thn (ha pins s σ H _ I h) fun c s1 ⟨H1, I1, q1⟩ => ?_)
  cases c with
  | true => exact hb wh pins s1 σ H1 Q I1 q1
  | false => exact ⟨H1, I1, q1⟩
theorem pw_or (ha : PT X a tA) (hb : PW X (.BoolOp .Or (b :: rest) pos) tB') : PW X (.BoolOp .Or (a :: b :: rest) pos) (tOr tA tB') := by
  intro wh pins s σ H Q I h
  refine isTrue_or (thn (ha pins s σ H _ I h) fun c s1 ⟨H1, I1, q1⟩ => ?_)
  cases c with
  | true => exact ⟨H1, I1, q1⟩
  | false => exact hb wh pins s1 σ H1 Q I1 q1
def tAndV (ta tb : TE) : TE := fun σ H Q => ta σ H fun x H1 => ∃ c, x = .bl c ∧ if c = true then tb σ H1 Q else Q (.bl false) H1
def tOrV (ta tb : TE) : TE := fun σ H Q => ta σ H fun x H1 => ∃ c, x = .bl c ∧ if c = true then Q (.bl true) H1 else tb σ H1 Q
theorem pe_one {op} {t : TE} (h : PE X a t) : PE X (.BoolOp op [a] pos) t := fun pins s σ H Q I hw => BoolOp_one (h pins s σ H Q I hw)
theorem pe_and (ha : PE X a ta) (hb : PE X (.BoolOp .And (b :: rest) pos) tb) : PE X (.BoolOp .And (a :: b :: rest) pos) (tAndV ta tb) := by
  intro pins s σ H Q I h
  refine BoolOp_and (thn (ha pins s σ H _ I h) fun v s1 ⟨x, H1, I1, r1, q1⟩ => ?_)
  obtain ⟨c, rfl, q1⟩ := q1
  cases r1
  refine wpAny_truthy_bool ?_
  cases c with
  | true => exact hb pins s1 σ H1 Q I1 q1
  | false => exact ⟨.bl false, H1, I1, rfl, q1⟩
theorem pe_or (ha : PE X a ta) (hb : PE X (.BoolOp .Or (b :: rest) pos) tb) : PE X (.BoolOp .Or (a :: b :: rest) pos) (tOrV ta tb) := by
  intro pins s σ H Q I h
  refine BoolOp_or (thn (ha pins s σ H _ I h) fun v s1 ⟨x, H1, I1, r1, q1⟩ => ?_)
  obtain ⟨c, rfl, q1⟩ := q1
  cases r1
  refine wpAny_truthy_bool ?_
  cases c with
  | false => exact hb pins s1 σ H1 Q I1 q1
  | true => exact ⟨.bl true, H1, I1, rfl, q1⟩
def tIf (t : TT) (ta tb : TE) : TE := fun σ H Q => t σ H fun c H1 => if c = true then ta σ H1 Q else tb σ H1 Q
theorem pe_ifExp {c : Expr} (hc : PT X c tA) (ha : PE X a ta) (hb : PE X b tb) : PE X (.IfExp c a b pos) (tIf tA ta tb) := by
  intro pins s σ H Q I h
  refine wpAny_IfExp (thn (hc pins s σ H _ I h) fun d s1 ⟨H1, I1, q1⟩ => ?_)
  cases d with
  | true => exact ha pins s1 σ H1 Q I1 q1
  | false => exact hb pins s1 σ H1 Q I1 q1
end
end L2
namespace L2
open PySem PySem.Spec PyProof.Rows
def SqL (K : PySem.W.Frag) (H : Hp) (a : Addr) (xs : List V) : Prop :=
  Rd H a (.lst xs) ∨
    ∃ (o : Obj) (its : Array Value) (n : Nat), K.lookup a = some o ∧ o.cls = .type "list" ∧ o.dict = none ∧ o.data = .seq its n ∧ its.size ≤ sizeLine ∧ Vals xs its.toList
def SqT (K : PySem.W.Frag) (H : Hp) (a : Addr) (xs : List V) : Prop :=
  Rd H a (.tup xs) ∨
    ∃ (o : Obj) (its : Array Value) (n : Nat), K.lookup a = some o ∧ o.cls = .type "tuple" ∧ o.data = .seq its n ∧ its.size ≤ sizeLine ∧ Vals xs its.toList
def absV : Value → Option V
  | .none => some .non
  | .bool b => some (.bl b)
  | .int i _ => some (.int i)
  | .str x _ => some (.str x)
  | .bytes b _ => some (.byt b)
  | .float b _ => some (.flt b)
  | .ref a => some (.ref a)
  | .type n => some (.ty n)
  | _ => none
theorem RelV.abs {x : V} {u : Value} (r : RelV x u) : absV u = some x := by
  cases x with
  | non => cases r; rfl
  | bl _ => cases r; rfl
  | int _ => obtain ⟨t, rfl⟩ := r; rfl
  | str _ => obtain ⟨t, rfl⟩ := r; rfl
  | byt _ => obtain ⟨t, rfl⟩ := r; rfl
  | flt _ => obtain ⟨t, rfl⟩ := r; rfl
  | ref _ => cases r; rfl
  | ty _ => cases r; rfl
theorem RelV.inj {x y : V} {u : Value} (r : RelV x u) (q : RelV y u) : x = y := Option.some.inj (r.abs.symm.trans q.abs)
theorem Vals.inj : ∀ {xs ys : List V} {us : List Value}, Vals xs us → Vals ys us → xs = ys
  | _, _, _, .nil, .nil => rfl
  | _, _, _, .cons r t, .cons r' t' => by rw [r.inj r', Vals.inj t t']
section
variable {X : Cx} {pins : List (Addr × Obj)} {σ : St} {H : Hp} {s : Shared} {a : Addr} {xs ys : List V}
theorem SqL.of {K : PySem.W.Frag} (h : H a = some (.lst xs)) : SqL K H a xs := .inl (.inl h)
theorem Inv.list (I : Inv X pins σ H s) (h : SqL X.K H a xs) : ∃ its : List Value, Vals xs its ∧ PlainL s.heap a its.toArray ∧ xs.length ≤ sizeLine := by
  rcases h with h | ⟨o, its, n, hk, hc, hd, hs, hz, r⟩
  · obtain ⟨z, its, n, r, e⟩ := h.ok I.hok
    exact ⟨its, r, ⟨_, n, e, rfl, rfl, rfl⟩, z⟩
  · refine ⟨its.toList, r, ⟨o, n, I.kIn a o hk, hc, hd, by simpa using hs⟩, ?_⟩
    have e := r.length
    simp only [Array.length_toList] at e
    omega
theorem Inv.tuple (I : Inv X pins σ H s) (h : SqT X.K H a xs) : ∃ its : List Value, Vals xs its ∧ IsTup s.heap a its.toArray ∧ xs.length ≤ sizeLine := by
  rcases h with h | ⟨o, its, n, hk, hc, hs, hz, r⟩
  · obtain ⟨z, its, r, p⟩ := h.ok I.hok
    exact ⟨its, r, p, z⟩
  · refine ⟨its.toList, r, ⟨o, I.kIn a o hk, hc, n, by simpa using hs⟩, ?_⟩
    have e := r.length
    simp only [Array.length_toList] at e
    omega
theorem Inv.list_inj (I : Inv X pins σ H s) (h : SqL X.K H a xs) (h' : SqL X.K H a ys) : xs = ys := by
  obtain ⟨its, r, ⟨o, n, e, _, _, d⟩, _⟩ := I.list h
  obtain ⟨its', r', ⟨o', n', e', _, _, d'⟩, _⟩ := I.list h'
  rw [e] at e'; cases e'
  rw [d] at d'
  injection d' with d1 _
  have : its = its' := by simpa using congrArg Array.toList d1
  subst this
  exact r.inj r'
end
abbrev Cx.wish (X : Cx) (E : Value → Shared → Prop) : Cx := { X with xe := E }
abbrev Cx.nox (X : Cx) : Cx := X.wish fun _ _ => False
theorem Cx.Ok.wish {X : Cx} (ok : X.Ok) (E : Value → Shared → Prop) : (X.wish E).Ok :=
  ⟨ok.mod, ok.kind, ok.glob, ok.blt, ok.above, ok.inj, ok.has, ok.cab, ok.hd, ok.frames, ok.stk, ok.exf, ok.bs, ok.bsz, ok.noex, ok.exfs, ok.funs, ok.frf⟩
theorem Cx.Ok.unwish {X : Cx} {E : Value → Shared → Prop} (ok : (X.wish E).Ok) : X.Ok :=
  ⟨ok.mod, ok.kind, ok.glob, ok.blt, ok.above, ok.inj, ok.has, ok.cab, ok.hd, ok.frames, ok.stk, ok.exf, ok.bs, ok.bsz, ok.noex, ok.exfs, ok.funs, ok.frf⟩
section
variable {X : Cx} {pins : List (Addr × Obj)} {σ : St} {H : Hp} {s : Shared} {E : Value → Shared → Prop}
theorem Inv.wish (I : Inv X pins σ H s) (E : Value → Shared → Prop) : Inv (X.wish E) pins σ H s := ⟨I.ok.wish E, I.os, I.bare, I.base, I.loc, I.cell, I.free, I.freeC, I.pin, I.hok, I.len⟩
theorem Inv.unwish (I : Inv (X.wish E) pins σ H s) : Inv X pins σ H s := ⟨I.ok.unwish, I.os, I.bare, I.base, I.loc, I.cell, I.free, I.freeC, I.pin, I.hok, I.len⟩
theorem SP.unwish {D : Ends} {f : Flow} {s' : Shared} (h : SP (X.wish E) pins D f s') : SP X pins D f s' := by
  cases f with
  | next => obtain ⟨σ', H', I, q⟩ := h; exact ⟨σ', H', I.unwish, q⟩
  | brk => obtain ⟨σ', H', I, q⟩ := h; exact ⟨σ', H', I.unwish, q⟩
  | cont => obtain ⟨σ', H', I, q⟩ := h; exact ⟨σ', H', I.unwish, q⟩
  | ret u => obtain ⟨v, σ', H', I, r, q⟩ := h; exact ⟨v, σ', H', I.unwish, r, q⟩
theorem PSs.nox {st : List Stmt} {t : TS} (h : PSs X.nox st t) : PSs X st t := fun pins s σ H D I hw =>
  wpAny_mono (h pins s σ H D (I.wish _) hw) (fun _ _ q => q.unwish) fun _ _ z => False.elim z
end
section
variable {X : Cx} {st : Stmt} {rest : List Stmt} {t u : TS} {e : Expr} {te : TE} {pos : Pos}
def tNext : TS := fun D σ H => D.nx σ H
def tSeq (t u : TS) : TS := fun D σ H => t { D with nx := u D } σ H
theorem pss_nil : PSs X [] tNext := fun _ _ σ H _ I h => wpAny_execs_nil ⟨σ, H, I, h⟩
theorem pss_cons (h1 : PS X st t) (h2 : PSs X rest u) : PSs X (st :: rest) (tSeq t u) := by
  intro pins s σ H D I h
  refine wpAny_execs_cons (thn (h1 pins s σ H { D with nx := u D } I h) fun f s1 q => ?_)
  cases f with
  | next =>
    obtain ⟨σ', H', I', q⟩ := q
    exact h2 pins s1 σ' H' D I' q
  | ret v => exact q
  | brk => exact q
  | cont => exact q
theorem pss_one (h1 : PS X st t) : PSs X [st] t := by
  intro pins s σ H D I h
  refine wpAny_execs_cons (thn (h1 pins s σ H D I h) fun f s1 q => ?_)
  cases f with
  | next => exact wpAny_execs_nil q
  | ret v => exact q
  | brk => exact q
  | cont => exact q
theorem Inv.quiet {pins : List (Addr × Obj)} {σ : St} {H : Hp} {s : Shared} (I : Inv X pins σ H s) : interactive X.env = false := by simp [interactive, I.ok.kind]
def tDrop (te : TE) : TS := fun D σ H => te σ H fun _ H1 => D.nx σ H1
theorem ps_expr (he : PE X e te) (hs : swapsWith e none pos.line X.env = pure false := by rfl) : PS X (.Expr e pos) (tDrop te) := by
  intro pins s σ H D I h
  exact wpAny_Expr_any (thn (he pins s σ H _ I h) fun v s1 ⟨x, H1, I1, r1, q1⟩ => ⟨σ, H1, I1, q1⟩) I.quiet hs
def tRet (te : TE) : TS := fun D σ H => te σ H D.rt
theorem ps_ret (he : PE X e te) : PS X (.Return (some e) pos) (tRet te) := by
  intro pins s σ H D I h
  exact wpAny_Return_some (thn (he pins s σ H _ I h) fun v s1 ⟨x, H1, I1, r1, q1⟩ => ⟨x, σ, H1, I1, r1, q1⟩)
def tRetN : TS := fun D _ H => D.rt .non H
theorem ps_retN : PS X (.Return none pos) tRetN := fun _ _ σ H _ I h => wpAny_Return_none ⟨.non, σ, H, I, rfl, h⟩
def tIfS (c : TT) (t u : TS) : TS := fun D σ H => c σ H fun b H1 => if b = true then t D σ H1 else u D σ H1
theorem ps_if {c : Expr} {a b : List Stmt} {tc : TT} (hc : PT X c tc) (ha : PSs X a t) (hb : PSs X b u) : PS X (.If c a b pos) (tIfS tc t u) := by
  intro pins s σ H D I h
  refine wpAny_If (thn (hc pins s σ H _ I h) fun d s1 ⟨H1, I1, q1⟩ => ?_)
  cases d with
  | true => exact ha pins s1 σ H1 D I1 q1
  | false => exact hb pins s1 σ H1 D I1 q1
end
abbrev TG := V → St → Hp → (St → Hp → Prop) → Prop
def PG (X : Cx) (target : Expr) (t : TG) : Prop :=
  ∀ (pins : List (Addr × Obj)) (s : Shared) (σ : St) (H : Hp) (v : V) (u : Value) (Q : St → Hp → Prop), Inv X pins σ H s → RelV v u → t v σ H Q →
    wpAny (model X.prog X.w) X.A (assign target X.env u) (fun _ s' => ∃ σ' H', Inv X pins σ' H' s' ∧ Q σ' H') X.xe s
abbrev TIp := V → V → Hp → VK → Prop
def PIp (X : Cx) (op : Operator) (t : TIp) : Prop :=
  ∀ (pins : List (Addr × Obj)) (s : Shared) (σ : St) (H : Hp) (x y : V) (v u : Value) (Q : VK), Inv X pins σ H s → RelV x v → RelV y u → t x y H Q →
    wpAny (model X.prog X.w) X.A (inplaceOp op v u) (EP X pins σ Q) X.xe s
section
variable {X : Cx} {pos : Pos}
def gName (i : Nat) : TG := fun v σ H Q => Q (σ.set i (some v)) H
theorem pg_name {i : Nat} {x : Str} (hN : X.N.Nodup) (hi : X.N[i]? = some x) (hx : Loc X.env.scope x) (hf : X.fn x = true ∨ X.env.scope.names.lookup x = some .local := by first | exact .inl rfl | exact .inr rfl | assumption) : PG X (.Name x pos) (gName i) := by
  intro pins s σ H v u Q I r h
  exact wpAny_assign_Name (store_ok I hN hi hx r (fun s' I' => ⟨_, H, I', h⟩) hf)
def tAsg (te : TE) (g : TG) : TS := fun D σ H => te σ H fun x H1 => g x σ H1 D.nx
theorem ps_set {i : Nat} {x : Str} {e : Expr} {te : TE} {pos' : Pos} (hN : X.N.Nodup) (hi : X.N[i]? = some x) (hx : Loc X.env.scope x) (he : PE X e te) (hs : swapsWith e (some (.Name x pos')) pos.line X.env = pure false := by rfl) (hf : X.fn x = true ∨ X.env.scope.names.lookup x = some .local := by first | exact .inl rfl | exact .inr rfl | assumption) :
    PS X (.Assign [.Name x pos'] e pos) (tAsg te (gName i)) := by
  intro pins s σ H D I h
  refine wpAny_Assign_Name (thn (he pins s σ H _ I h) fun v s1 ⟨y, H1, I1, r1, q1⟩ => ?_) hs
  exact store_ok I1 hN hi hx r1 (fun s2 I2 => ⟨_, H1, I2, q1⟩) hf
def tAug (i : Nat) (te : TE) (ti : TIp) : TS := fun D σ H => ∃ x, σ[i]? = some (some x) ∧ te σ H fun y H1 => ti x y H1 fun z H2 => D.nx (σ.set i (some z)) H2
theorem ps_aug {i : Nat} {x : Str} {e : Expr} {te : TE} {op : Operator} {ti : TIp} {pos' : Pos} (hN : X.N.Nodup) (hi : X.N[i]? = some x) (hx : Loc X.env.scope x) (he : PE X e te) (ho : PIp X op ti) (hf : X.fn x = true ∨ X.env.scope.names.lookup x = some .local := by first | exact .inl rfl | exact .inr rfl | assumption) :
    PS X (.AugAssign (.Name x pos') op e pos) (tAug i te ti) := by
  intro pins s σ H D I h
  obtain ⟨v, e1, h⟩ := h
  obtain ⟨m, hn, hl⟩ := I.loc
  have vis : Vis X.env.scope x := by rcases hx with k | k; exact .inl k; exact .inr (.inl k)
  obtain ⟨u, r, l⟩ := hl i x v hi e1 vis
  refine wpAny_AugAssign_Name ?_
  have go : wpAny (model X.prog X.w) X.A (eval e X.env) (fun w s₂ => wpAny (model X.prog X.w) X.A (inplaceOp op u w) (fun r s₃ => wpAny (model X.prog X.w) X.A (storeName X.env x r) (fun _ => SP X pins D .next) X.xe s₃) X.xe s₂) X.xe s := by
    refine thn (he pins s σ H _ I h) fun w s1 ⟨y, H1, I1, r1, q1⟩ => ?_
    refine thn (ho pins s1 σ H1 v y u w _ I1 r r1 q1) fun z s2 ⟨zv, H2, I2, r2, q2⟩ => ?_
    exact store_ok I2 hN hi hx r2 (fun s3 I3 => ⟨_, H2, I3, q2⟩) hf
  rcases l with ⟨hk, hm⟩ | ⟨hk, c, hc, hcell⟩
  · exact wpAny_loadName_local I.ok.kind hk hn hm go
  · rcases hk with hk | hk
    · exact wpAny_loadName_cell I.ok.kind hk hc hcell go
    · rcases hx with k | k
      · have : X.env.scope.names.lookup x = some .free := hk
        rw [k] at this; cases this
      · have : X.env.scope.names.lookup x = some .free := hk
        rw [k] at this; cases this
def ipI (f : Int → Int → Int) : TIp := fun x y H Q => ∃ i j, x = .int i ∧ y = .int j ∧ Q (.int (f i j)) H
theorem ip_add : PIp X .Add (ipI fun i j => i + j) := by
  intro pins s σ H x y v u Q I r1 r2 h
  obtain ⟨i, j, e1, e2, q⟩ := h
  subst e1; subst e2
  obtain ⟨t, rfl⟩ := r1
  obtain ⟨t', rfl⟩ := r2
  exact iadd_int ⟨.int _, H, I.tok _, ⟨_, rfl⟩, q⟩
end
section
variable {X : Cx} {pos : Pos}
def tWhile (c : TT) (tb : TS) : TS := fun D σ H => ∃ W : Nat → St → Hp → Prop, (∃ m, W m σ H) ∧ ∀ m σ H, W m σ H →
  c σ H fun b H1 => if b = true then ∃ N : St → Hp → Prop, (∀ σ' H', N σ' H' → ∃ m', m' < m ∧ W m' σ' H') ∧ tb { D with nx := N, ct := N, bk := D.nx } σ H1 else D.nx σ H1
theorem ps_while {c : Expr} {body : List Stmt} {tc : TT} {tb : TS} (hp : PassesOwn (model X.prog X.w) X.A X.env X.xe) (hc : PT X c tc) (hb : PSs X body tb) : PS X (.While c body [] pos) (tWhile tc tb) := by
  intro pins s σ H D I h
  obtain ⟨W, ⟨m0, w0⟩, turn⟩ := h
  refine wpAny_While (codeAny_whileLoop (fun n s' => ∃ σ' H', Inv X pins σ' H' s' ∧ W n σ' H') ?_ m0 ⟨σ, H, I, w0⟩)
  rintro n s1 ⟨σ1, H1, I1, w1⟩
  refine wpAny_passesOwn hp (thn (hc pins s1 σ1 H1 _ I1 (turn n σ1 H1 w1)) fun b s2 ⟨H2, I2, q2⟩ => ?_)
  cases b with
  | true =>
    obtain ⟨N, hN, q2⟩ := q2
    rw [if_pos rfl]
    refine wpAny_passesOwn hp (thn (hb pins s2 σ1 H2 _ I2 q2) fun f s3 q3 => ?_)
    cases f with
    | next =>
      obtain ⟨σ3, H3, I3, n3⟩ := q3
      obtain ⟨m', hm, w3⟩ := hN σ3 H3 n3
      exact ⟨m', hm, σ3, H3, I3, w3⟩
    | cont =>
      obtain ⟨σ3, H3, I3, n3⟩ := q3
      obtain ⟨m', hm, w3⟩ := hN σ3 H3 n3
      exact ⟨m', hm, σ3, H3, I3, w3⟩
    | brk => exact q3
    | ret v => exact q3
  | false =>
    rw [if_neg Bool.false_ne_true]
    exact wpAny_execs_nil ⟨σ1, H2, I2, q2⟩
end
structure It where
  go : Nat → Hp → Prop
  yld : Nat → Hp → V → Hp → Prop
  stop : Nat → Hp → Prop
def FpOk (X : Cx) (pins : List (Addr × Obj)) (H : Hp) (b : Addr) : Prop :=
  H b = none ∧ b ≠ X.env.locals ∧ b ∉ X.fs ∧ (b ∈ X.ex ∨ X.s_0.heap.objs.size ≤ b) ∧ (∀ x c, X.env.cells.lookup x = some c → c ≠ b) ∧ ∀ p ∈ X.pn ++ pins, p.1 ≠ b
theorem Inv.fpOk {X : Cx} {pins : List (Addr × Obj)} {σ : St} {H H' : Hp} {s : Shared} {b : Addr} (I : Inv X pins σ H s) (hb : s.heap.objs.size ≤ b) (hn : H' b = none) : FpOk X pins H' b := by
  refine ⟨hn, Nat.ne_of_gt (Nat.lt_of_lt_of_le I.lt hb), I.nofs hb, .inr (Nat.le_trans I.sz hb), fun x c e z => ?_, fun p hp z => ?_⟩
  · obtain ⟨v, q⟩ := I.cell x c e
    exact absurd (Nat.lt_of_lt_of_le q.lt (by rw [z]; exact hb)) (Nat.lt_irrefl _)
  · exact absurd (Nat.lt_of_lt_of_le (Heap.lt_size (I.pin p hp).1) (by rw [z]; exact hb)) (Nat.lt_irrefl _)
structure Turn (P : Program) (w : World) (K : PySem.W.Frag) (tg : Expr) (J : It) (fp : List Addr) (it : Addr) (tn : Nat → Heap → Prop) : Prop where
  mem : it ∈ fp
  obj : ∀ i h, tn i h → ∀ b ∈ fp, ∃ o, h.get? b = some o ∧ ∀ v, o.data ≠ .cell v
  keep : ∀ i h h', tn i h → (∀ b ∈ fp, ∀ o, h.get? b = some o → h'.get? b = some o) → tn i h'
  item : ∀ (X : Cx), X.prog = P → X.w = w → X.K = K → X.calm = true → ∀ (i : Nat) (pins : List (Addr × Obj)) (s : Shared) (σ : St) (H : Hp) (E : Value → Shared → Prop), Inv X pins σ H s → (∀ b ∈ fp, FpOk X pins H b) → tn i s.heap → J.go i H →
    wpAny (model P w) X.A (pyNext (.ref it)) (fun r s1 => ∃ u, r = some u ∧
      wpAny (model P w) X.A (letOwnedTupleGo tg (.ref it) u) (fun _ s2 => ∃ x H', Inv X pins σ H' s2 ∧ RelV x u ∧ J.yld i H x H' ∧ tn (i + 1) s2.heap ∧ ∀ b ∈ fp, H' b = none) E s1) E s
  done : ∀ (X : Cx), X.prog = P → X.w = w → X.K = K → X.calm = true → ∀ (i : Nat) (pins : List (Addr × Obj)) (s : Shared) (σ : St) (H : Hp) (E : Value → Shared → Prop), Inv X pins σ H s → (∀ b ∈ fp, FpOk X pins H b) → tn i s.heap → J.stop i H →
    wpAny (model P w) X.A (pyNext (.ref it)) (fun r s1 => r = none ∧ Inv X pins σ H s1) E s
  self : ∀ (A : Around) (i : Nat) (s : Shared) (Q : Value → Shared → Prop) (E : Value → Shared → Prop), tn i s.heap → Q (.ref it) s → wpAny (model P w) A (pyIter (.ref it)) Q E s
abbrev TI := St → Hp → (It → Hp → Prop) → Prop
def PIE (X : Cx) (pins : List (Addr × Obj)) (σ : St) (tg : Expr) (R : It → Hp → Prop) (itv : Value) (s2 : Shared) : Prop :=
  ∃ (it : Addr) (fp : List Addr) (tn : Nat → Heap → Prop) (J : It) (H' : Hp), itv = .ref it ∧ Inv X pins σ H' s2 ∧ Turn X.prog X.w X.K tg J fp it tn ∧ tn 0 s2.heap ∧ (∀ b ∈ fp, FpOk X pins H' b) ∧ R J H'
def PI (X : Cx) (tg iter : Expr) (wi : TI) : Prop :=
  ∀ (pins : List (Addr × Obj)) (s : Shared) (σ : St) (H : Hp) (R : It → Hp → Prop), Inv X pins σ H s → wi σ H R →
    wpAny (model X.prog X.w) X.A (eval iter X.env) (fun v s1 => wpAny (model X.prog X.w) X.A (pyIter v) (PIE X pins σ tg R) X.xe s1) X.xe s
theorem go_of {M : Model} {A : Around} {E : Value → Shared → Prop} {s : Shared} {tg : Expr} {it : Addr} {u : Value} {o : Obj} {n : String} {vs : Array Value} {Q : Unit → Shared → Prop} (ho : s.heap.get? it = some o) (hc : o.cls = .type n) (hd : o.data = .fields vs)
    (hn : ["enumerate", "zip", "dict_itemiterator", "dict_reverseitemiterator", "odict_iterator", "itertools.zip_longest", "itertools.pairwise"].contains n = false) (hQ : Q () s) : wpAny M A (letOwnedTupleGo tg (.ref it) u) Q E s := by
  unfold letOwnedTupleGo
  cases tg <;> first
    | exact wpAny_pure hQ
    | (cases u <;> first
        | exact wpAny_pure hQ
        | (refine wpAny_bind (wpAny_load ho ?_)
           rw [hc, hd]
           show wpAny M A (if (["enumerate", "zip", "dict_itemiterator", "dict_reverseitemiterator", "odict_iterator", "itertools.zip_longest", "itertools.pairwise"].contains n && vs[0]? == some (rawInt _)) = true then _ else _) Q E s
           rw [if_neg (by intro h; rw [hn, Bool.false_and] at h; cases h)]
           exact wpAny_pure hQ))
def Itl (K : PySem.W.Frag) (a : Addr) : It :=
  ⟨fun i H => ∃ xs x, SqL K H a xs ∧ xs[i]? = some x, fun i H x H' => H' = H ∧ ∀ xs, SqL K H a xs → xs[i]? = some x, fun i H => ∃ xs, SqL K H a xs ∧ xs.length ≤ i⟩
theorem turn_list {P : Program} {w : World} {K : PySem.W.Frag} {tg : Expr} (a it : Addr) : Turn P w K tg (Itl K a) [it] it (fun i h => h.IsListIter it a i) where
  mem := by simp
  obj := fun i h st b hb => by
    have e : b = it := by simpa using hb
    subst e
    obtain ⟨o, e, c, d⟩ := st
    exact ⟨o, e, fun v z => by rw [d] at z; cases z⟩
  keep := fun i h h' st k => st.at fun o e => k it (by simp) o e
  item := by
    intro X hP hw hK hc i pins s σ H E I hf st hg
    subst hP hw hK
    obtain ⟨xs, x, hq, hx⟩ := hg
    obtain ⟨its, rv, p, hz⟩ := I.list hq
    obtain ⟨u, hu, ru⟩ := rv.get hx
    obtain ⟨f0, f1, f2, f3, f4, f5⟩ := hf it (by simp)
    refine wpAny_pyNext_list_item st p.isList (x := u) (by simpa using hu) fun h' st' sb => ?_
    have I1 : Inv X pins σ H { s with heap := h' } := I.turned (t' := s.toks) (fun b o hb e => (sb.2 b hb).trans e) f0 f1 f3 f4 f5
    obtain ⟨o, e, c, d⟩ := id st'
    exact ⟨u, rfl, go_of (s := { s with heap := h' }) e c d (by decide) ⟨x, H, I1, ru, ⟨rfl, fun ys hy => by rw [I.list_inj hy hq]; exact hx⟩, st', fun b hb => (hf b hb).1⟩⟩
  done := by
    intro X hP hw hK hc i pins s σ H E I hf st hg
    subst hP hw hK
    obtain ⟨xs, hq, hx⟩ := hg
    obtain ⟨its, rv, p, hz⟩ := I.list hq
    obtain ⟨f0, f1, f2, f3, f4, f5⟩ := hf it (by simp)
    have hl := rv.length
    exact wpAny_pyNext_list_end (I.ok.hd hc) st p.isList (by simp; omega) fun h' eb => ⟨rfl, I.turned (t' := s.toks) (fun b o hb e => eb b o hb e) f0 f1 f3 f4 f5⟩
  self := fun _ _ _ _ _ st h => wpAny_pyIter_listiter st h
end L2
namespace L2
open PySem PySem.Spec PyProof.Rows
section
variable {X : Cx} {tg : Expr}
def iList (K : PySem.W.Frag) (tl : TE) : TI := fun σ H R => tl σ H fun x H1 => ∃ a, x = .ref a ∧ (∃ xs, SqL K H1 a xs) ∧ R (Itl K a) H1
theorem pi_list {l : Expr} {tl : TE} (hl : PE X l tl) : PI X tg l (iList X.K tl) := by
  intro pins s σ H R I h
  refine thn (hl pins s σ H _ I h) fun v s1 ⟨x, H1, I1, r1, q1⟩ => ?_
  obtain ⟨a, e, ⟨xs, hq⟩, q⟩ := q1
  subst e
  cases r1
  obtain ⟨its, rv, p, hz⟩ := I1.list hq
  refine wpAny_pyIter_list p.isList ?_
  refine ⟨s1.heap.objs.size, [s1.heap.objs.size], _, _, H1, rfl, I1.kept (t' := s1.toks) fun b o e => Heap.get?_push_of_some _ e, turn_list a _, ⟨_, Heap.get?_push_size _ rfl, rfl, rfl⟩, fun b hb => ?_, q⟩
  have e : b = s1.heap.objs.size := by simpa using hb
  subst e
  exact I1.fpOk (Nat.le_refl _) (I1.hok.fresh (Nat.le_refl _))
def pinsAt (fp : List Addr) (h : Heap) : List (Addr × Obj) := fp.filterMap fun b => (h.get? b).map fun o => (b, o)
theorem mem_pinsAt {fp : List Addr} {h : Heap} {b : Addr} {o : Obj} (hb : b ∈ fp) (e : h.get? b = some o) : (b, o) ∈ pinsAt fp h := List.mem_filterMap.mpr ⟨b, hb, by rw [e]; rfl⟩
theorem of_pinsAt {fp : List Addr} {h : Heap} {p : Addr × Obj} (hp : p ∈ pinsAt fp h) : p.1 ∈ fp ∧ h.get? p.1 = some p.2 := by
  obtain ⟨b, hb, e⟩ := List.mem_filterMap.mp hp
  cases q : h.get? b with
  | none => rw [q] at e; cases e
  | some o =>
    rw [q] at e
    have e' : (b, o) = p := Option.some.inj e
    subst e'
    exact ⟨hb, q⟩
theorem Inv.pinned {pins : List (Addr × Obj)} {σ : St} {H : Hp} {s : Shared} {fp : List Addr} (I : Inv X pins σ H s) (hf : ∀ b ∈ fp, FpOk X pins H b) (ho : ∀ b ∈ fp, ∃ o, s.heap.get? b = some o ∧ ∀ v, o.data ≠ .cell v) : Inv X (pins ++ pinsAt fp s.heap) σ H s :=
  I.pins_of fun p hp => (List.mem_append.mp hp).elim (fun z => I.pin p (List.mem_append_right _ z)) fun z => by
    obtain ⟨hb, e⟩ := of_pinsAt z
    obtain ⟨f0, f1, f2, _⟩ := hf p.1 hb
    obtain ⟨o, e', d⟩ := ho p.1 hb
    rw [e] at e'; cases e'
    exact ⟨e, f0, f1, f2, d⟩
theorem Inv.unpinned {pins pl : List (Addr × Obj)} {σ : St} {H : Hp} {s : Shared} (I : Inv X (pins ++ pl) σ H s) : Inv X pins σ H s := I.pins_of fun p hp => I.pin p (List.mem_append_right _ (List.mem_append_left _ hp))
end
end L2
namespace L2
open PySem PySem.Spec PyProof.Rows
abbrev R2 := V → V → Hp → VK → Prop
def OpR (X : Cx) (f : Value → Value → Sem Value) (r : R2) : Prop :=
  ∀ (pins : List (Addr × Obj)) (s : Shared) (σ : St) (H : Hp) (x y : V) (v u : Value) (Q : VK), Inv X pins σ H s → RelV x v → RelV y u → r x y H Q →
    wpAny (model X.prog X.w) X.A (f v u) (EP X pins σ Q) X.xe s
def UnR (X : Cx) (f : Value → Sem Value) (r : V → Hp → VK → Prop) : Prop :=
  ∀ (pins : List (Addr × Obj)) (s : Shared) (σ : St) (H : Hp) (x : V) (v : Value) (Q : VK), Inv X pins σ H s → RelV x v → r x H Q →
    wpAny (model X.prog X.w) X.A (f v) (EP X pins σ Q) X.xe s
def CallR (X : Cx) (f : Value) (r : List V → Hp → VK → Prop) : Prop :=
  ∀ (pins : List (Addr × Obj)) (s : Shared) (σ : St) (H : Hp) (xs : List V) (us : List Value) (Q : VK), Inv X pins σ H s → Vals xs us → r xs H Q →
    wpAny (model X.prog X.w) X.A (call f us) (EP X pins σ Q) X.xe s
def tOp (r : R2) (ta tb : TE) : TE := fun σ H Q => ta σ H fun x H1 => tb σ H1 fun y H2 => r x y H2 Q
def tUn (r : V → Hp → VK → Prop) (ta : TE) : TE := fun σ H Q => ta σ H fun x H1 => r x H1 Q
def rI (C : Int → Int → Prop) (g : Int → Int → V) : R2 := fun x y H Q => ∃ i j, x = .int i ∧ y = .int j ∧ C i j ∧ Q (g i j) H
def rI0 (g : Int → Int → V) : R2 := fun x y H Q => ∃ i j, x = .int i ∧ y = .int j ∧ Q (g i j) H
def rU (g : Int → V) : V → Hp → VK → Prop := fun x H Q => ∃ i, x = .int i ∧ Q (g i) H
section
variable {X : Cx} {a b c : Expr} {ta tb tc : TE} {pos : Pos}
theorem binT (ha : PE X a ta) (hb : PE X b tb) {pins : List (Addr × Obj)} {s : Shared} {σ : St} {H : Hp} {R : V → V → Hp → Prop} (I : Inv X pins σ H s)
    (h : ta σ H fun x H1 => tb σ H1 fun y H2 => R x y H2) {Q : Value → Shared → Prop} {f : Value → Value → Sem Value}
    (hf : ∀ v u s2 x y H2, Inv X pins σ H2 s2 → RelV x v → RelV y u → R x y H2 → wpAny (model X.prog X.w) X.A (f v u) Q X.xe s2) :
    wpAny (model X.prog X.w) X.A (eval a X.env) (fun v s₁ => wpAny (model X.prog X.w) X.A (eval b X.env) (fun u s₂ => wpAny (model X.prog X.w) X.A (f v u) Q X.xe s₂) X.xe s₁) X.xe s := by
  refine thn (ha pins s σ H _ I h) fun v s1 ⟨x, H1, I1, r1, q1⟩ => ?_
  refine thn (hb pins s1 σ H1 _ I1 q1) fun u s2 ⟨y, H2, I2, r2, q2⟩ => ?_
  exact hf v u s2 x y H2 I2 r1 r2 q2
theorem pe_op {op : Operator} {r : R2} (ho : OpR X (binaryOp op) r) (ha : PE X a ta) (hb : PE X b tb) : PE X (.BinOp a op b pos) (tOp r ta tb) := by
  intro pins s σ H Q I h
  exact wpAny_BinOp (binT ha hb I h fun v u s2 x y H2 I2 rx ry q => ho pins s2 σ H2 x y v u Q I2 rx ry q)
theorem pe_un {op : UnaryOp} {r : V → Hp → VK → Prop} (ho : UnR X (unaryOp op) r) (ha : PE X a ta) : PE X (.UnaryOp op a pos) (tUn r ta) := by
  intro pins s σ H Q I h
  exact UnaryOp_ (thn (ha pins s σ H _ I h) fun v s1 ⟨x, H1, I1, r1, q1⟩ => ho pins s1 σ H1 x v Q I1 r1 q1)
theorem opI {f : Value → Value → Sem Value} {C : Int → Int → Prop} {g : Int → Int → Int}
    (rule : ∀ (i j : Int) (t u : Tok) (s : Shared) (Q : Value → Shared → Prop) (E : Value → Shared → Prop), C i j → Q (.int (g i j) s.toks) { s with toks := s.toks + 1 } → wpAny (model X.prog X.w) X.A (f (.int i t) (.int j u)) Q E s) :
    OpR X f (rI C fun i j => .int (g i j)) := by
  intro pins s σ H x y v u Q I rx ry h
  obtain ⟨i, j, rfl, rfl, hc, q⟩ := h
  obtain ⟨t, rfl⟩ := rx
  obtain ⟨t', rfl⟩ := ry
  exact rule i j t t' s _ _ hc ⟨.int (g i j), H, I.tok _, ⟨_, rfl⟩, q⟩
theorem opI0 {f : Value → Value → Sem Value} {g : Int → Int → Int}
    (rule : ∀ (i j : Int) (t u : Tok) (s : Shared) (Q : Value → Shared → Prop) (E : Value → Shared → Prop), Q (.int (g i j) s.toks) { s with toks := s.toks + 1 } → wpAny (model X.prog X.w) X.A (f (.int i t) (.int j u)) Q E s) :
    OpR X f (rI0 fun i j => .int (g i j)) := by
  intro pins s σ H x y v u Q I rx ry h
  obtain ⟨i, j, rfl, rfl, q⟩ := h
  obtain ⟨t, rfl⟩ := rx
  obtain ⟨t', rfl⟩ := ry
  exact rule i j t t' s _ _ ⟨.int (g i j), H, I.tok _, ⟨_, rfl⟩, q⟩
theorem opB0 {f : Value → Value → Sem Value} {g : Int → Int → Bool}
    (rule : ∀ (i j : Int) (t u : Tok) (s : Shared) (Q : Value → Shared → Prop) (E : Value → Shared → Prop), Q (.bool (g i j)) s → wpAny (model X.prog X.w) X.A (f (.int i t) (.int j u)) Q E s) :
    OpR X f (rI0 fun i j => .bl (g i j)) := by
  intro pins s σ H x y v u Q I rx ry h
  obtain ⟨i, j, rfl, rfl, q⟩ := h
  obtain ⟨t, rfl⟩ := rx
  obtain ⟨t', rfl⟩ := ry
  exact rule i j t t' s _ _ ⟨.bl (g i j), H, I, rfl, q⟩
def CMul (i j : Int) : Prop := (-(2 ^ 64) < i ∧ i < 2 ^ 64) ∨ (-(2 ^ 64) < j ∧ j < 2 ^ 64)
theorem CMul.ok {i j : Int} (h : CMul i j) : IntMulOk i j := by
  rcases h with ⟨h1, h2⟩ | ⟨h1, h2⟩
  · exact .of_left (intBits_le_64 h1 h2)
  · exact .of_right (intBits_le_64 h1 h2)
theorem op_add : OpR X (binaryOp .Add) (rI0 fun i j => .int (i + j)) := opI0 fun _ _ _ _ _ _ _ q => add_int q
theorem op_sub : OpR X (binaryOp .Sub) (rI0 fun i j => .int (i - j)) := opI0 fun _ _ _ _ _ _ _ q => sub_int q
theorem op_mul : OpR X (binaryOp .Mult) (rI CMul fun i j => .int (i * j)) := opI fun _ _ _ _ _ _ _ hc q => mul_int q hc.ok
theorem unI {f : Value → Sem Value} {g : Int → Int}
    (rule : ∀ (i : Int) (t : Tok) (s : Shared) (Q : Value → Shared → Prop) (E : Value → Shared → Prop), Q (.int (g i) s.toks) { s with toks := s.toks + 1 } → wpAny (model X.prog X.w) X.A (f (.int i t)) Q E s) :
    UnR X f (rU fun i => .int (g i)) := by
  intro pins s σ H x v Q I rx h
  obtain ⟨i, rfl, q⟩ := h
  obtain ⟨t, rfl⟩ := rx
  exact rule i t s _ _ ⟨.int (g i), H, I.tok _, ⟨_, rfl⟩, q⟩
theorem un_neg : UnR X (unaryOp .USub) (rU fun i => .int (-i)) := unI fun _ _ _ _ _ q => neg_int q
end
def scal : V → V → Bool
  | .non, .non => true | .non, .int _ => true | .int _, .non => true | .non, .bl _ => true | .bl _, .non => true | .non, .str _ => true | .str _, .non => true
  | .int _, .int _ => true | .bl _, .bl _ => true | .str _, .str _ => true | .byt _, .byt _ => true
  | .int _, .str _ => true | .str _, .int _ => true | .bl _, .str _ => true | .str _, .bl _ => true
  | _, _ => false
def rEq : R2 := fun x y H Q => scal x y = true ∧ Q (.bl (decide (x = y))) H
def rNe : R2 := fun x y H Q => scal x y = true ∧ Q (.bl (!decide (x = y))) H
theorem dec_int {i j : Int} : decide (V.int i = V.int j) = (i == j) := by
  rw [Bool.eq_iff_iff]
  simp
theorem dec_bl {i j : Bool} : decide (V.bl i = V.bl j) = (i == j) := by
  rw [Bool.eq_iff_iff]
  simp
theorem dec_str {i j : Str} : decide (V.str i = V.str j) = (i == j) := by
  rw [Bool.eq_iff_iff]
  simp
theorem dec_byt {i j : Array UInt8} : decide (V.byt i = V.byt j) = (i.toList == j.toList) := by
  rw [Bool.eq_iff_iff]
  cases i
  cases j
  simp
section
variable {X : Cx} {a b c : Expr} {ta tb tc : TE} {pos : Pos}
theorem fin_bl {pins : List (Addr × Obj)} {σ : St} {H : Hp} {s : Shared} {Q : VK} {k k' : Bool} (I : Inv X pins σ H s) (q : Q (.bl k) H) (e : k = k') : EP X pins σ Q (.bool k') s := by
  subst e
  exact ⟨.bl k, H, I, rfl, q⟩
theorem op_eq : OpR X (compareOp .Eq) rEq := by
  intro pins s σ H x y v u Q I rx ry h
  obtain ⟨hs, q⟩ := h
  cases x with
  | non =>
    cases rx
    cases y with
    | non => cases ry; exact PySem.EqNone.eq_none_none (fin_bl I q (by simp))
    | bl j => cases ry; exact PySem.EqNone.eq_none_bool (fin_bl I q (by simp))
    | int j => obtain ⟨t', rfl⟩ := ry; exact PySem.EqNone.eq_none_int (fin_bl I q (by simp))
    | str j => obtain ⟨t', rfl⟩ := ry; exact PySem.EqNone.eq_none_str (fin_bl I q (by simp))
    | _ => exact absurd (show false = true from hs) Bool.false_ne_true
  | bl i =>
    cases rx
    cases y with
    | non => cases ry; exact PySem.EqNone.eq_bool_none (fin_bl I q (by simp))
    | bl j => cases ry; exact eq_bool (fin_bl I q dec_bl)
    | str j => obtain ⟨t', rfl⟩ := ry; exact PySem.EqMixed.eq_bool_str (fin_bl I q (by simp))
    | _ => exact absurd (show false = true from hs) Bool.false_ne_true
  | int i =>
    obtain ⟨t, rfl⟩ := rx
    cases y with
    | non => cases ry; exact PySem.EqNone.eq_int_none (fin_bl I q (by simp))
    | int j => obtain ⟨t', rfl⟩ := ry; exact eq_int (fin_bl I q dec_int)
    | str j => obtain ⟨t', rfl⟩ := ry; exact PySem.EqMixed.eq_int_str (fin_bl I q (by simp))
    | _ => exact absurd (show false = true from hs) Bool.false_ne_true
  | str i =>
    obtain ⟨t, rfl⟩ := rx
    cases y with
    | non => cases ry; exact PySem.EqNone.eq_str_none (fin_bl I q (by simp))
    | bl j => cases ry; exact PySem.EqMixed.eq_str_bool (fin_bl I q (by simp))
    | int j => obtain ⟨t', rfl⟩ := ry; exact PySem.EqMixed.eq_str_int (fin_bl I q (by simp))
    | str j => obtain ⟨t', rfl⟩ := ry; exact eq_str (fin_bl I q dec_str)
    | _ => exact absurd (show false = true from hs) Bool.false_ne_true
  | byt i =>
    obtain ⟨t, rfl⟩ := rx
    cases y with
    | byt j => obtain ⟨t', rfl⟩ := ry; exact PySem.W.eq_bytes (fin_bl I q dec_byt)
    | _ => exact absurd (show false = true from hs) Bool.false_ne_true
  | _ => cases y <;> exact absurd (show false = true from hs) Bool.false_ne_true
theorem op_ne : OpR X (compareOp .NotEq) rNe := by
  intro pins s σ H x y v u Q I rx ry h
  obtain ⟨hs, q⟩ := h
  cases x with
  | non =>
    cases rx
    cases y with
    | non => cases ry; exact PySem.EqNone.ne_none_none (fin_bl I q (by simp))
    | bl j => cases ry; exact PySem.EqNone.ne_none_bool (fin_bl I q (by simp))
    | int j => obtain ⟨t', rfl⟩ := ry; exact PySem.EqNone.ne_none_int (fin_bl I q (by simp))
    | str j => obtain ⟨t', rfl⟩ := ry; exact PySem.EqNone.ne_none_str (fin_bl I q (by simp))
    | _ => exact absurd (show false = true from hs) Bool.false_ne_true
  | bl i =>
    cases rx
    cases y with
    | non => cases ry; exact PySem.EqNone.ne_bool_none (fin_bl I q (by simp))
    | bl j => cases ry; exact ne_bool (fin_bl I q (congrArg not dec_bl))
    | str j => obtain ⟨t', rfl⟩ := ry; exact PySem.EqMixed.ne_bool_str (fin_bl I q (by simp))
    | _ => exact absurd (show false = true from hs) Bool.false_ne_true
  | int i =>
    obtain ⟨t, rfl⟩ := rx
    cases y with
    | non => cases ry; exact PySem.EqNone.ne_int_none (fin_bl I q (by simp))
    | int j => obtain ⟨t', rfl⟩ := ry; exact ne_int (fin_bl I q (congrArg not dec_int))
    | str j => obtain ⟨t', rfl⟩ := ry; exact PySem.EqMixed.ne_int_str (fin_bl I q (by simp))
    | _ => exact absurd (show false = true from hs) Bool.false_ne_true
  | str i =>
    obtain ⟨t, rfl⟩ := rx
    cases y with
    | non => cases ry; exact PySem.EqNone.ne_str_none (fin_bl I q (by simp))
    | bl j => cases ry; exact PySem.EqMixed.ne_str_bool (fin_bl I q (by simp))
    | int j => obtain ⟨t', rfl⟩ := ry; exact PySem.EqMixed.ne_str_int (fin_bl I q (by simp))
    | str j => obtain ⟨t', rfl⟩ := ry; exact ne_str (fin_bl I q (congrArg not dec_str))
    | _ => exact absurd (show false = true from hs) Bool.false_ne_true
  | byt i =>
    obtain ⟨t, rfl⟩ := rx
    cases y with
    | byt j => obtain ⟨t', rfl⟩ := ry; exact PySem.W.ne_bytes (fin_bl I q (congrArg not dec_byt))
    | _ => exact absurd (show false = true from hs) Bool.false_ne_true
  | _ => cases y <;> exact absurd (show false = true from hs) Bool.false_ne_true
theorem op_lt : OpR X (compareOp .Lt) (rI0 fun i j => .bl (decide (i < j))) := opB0 fun _ _ _ _ _ _ _ q => lt_int q
theorem op_le : OpR X (compareOp .LtE) (rI0 fun i j => .bl (decide (i ≤ j))) := opB0 fun _ _ _ _ _ _ _ q => le_int q
theorem op_gt : OpR X (compareOp .Gt) (rI0 fun i j => .bl (decide (j < i))) := opB0 fun _ _ _ _ _ _ _ q => gt_int q
theorem op_isN : OpR X (compareOp .Is) (fun x y H Q => y = .non ∧ Q (.bl (decide (x = .non))) H) := by
  intro pins s σ H x y v u Q I rx ry h
  obtain ⟨rfl, q⟩ := h
  cases ry
  refine is_none_gen (fin_bl I q ?_)
  cases x <;> first
    | (cases rx; rfl)
    | (obtain ⟨t, rfl⟩ := rx; rfl)
theorem nomark (b : Expr) {op : CmpOp} (h : op ≠ .In := by decide) (h2 : op ≠ .NotIn := by decide) : behindInMarks op b = false := by
  have e1 : (op == CmpOp.In) = false := by cases op <;> first | rfl | exact absurd rfl h
  have e2 : (op == CmpOp.NotIn) = false := by cases op <;> first | rfl | exact absurd rfl h2
  cases b <;> simp [behindInMarks, e1, e2]
theorem pe_cmpR {op : CmpOp} {r : R2} (ho : OpR X (compareOp op) r) (ha : PE X a ta) (hb : PE X b tb) (hm : behindInMarks op b = false) : PE X (.Compare a [op] [b] pos) (tOp r ta tb) := by
  intro pins s σ H Q I h
  exact wpAny_Compare1 (binT ha hb I h fun v u s2 x y H2 I2 rx ry q => ho pins s2 σ H2 x y v u Q I2 rx ry q) hm
def tTest (t : TE) : TT := fun σ H Q => t σ H fun x H' => ∃ k, x = .bl k ∧ Q k H'
theorem pt_cmpR {op : CmpOp} {r : R2} (ho : OpR X (compareOp op) r) (ha : PE X a ta) (hb : PE X b tb) (hm : behindInMarks op b = false) : PT X (.Compare a [op] [b] pos) (tTest (tOp r ta tb)) := by
  intro pins s σ H Q I h
  refine wpAny_isTrue_Compare1 (thn (ha pins s σ H _ I h) fun v s1 ⟨x, H1, I1, r1, q1⟩ => thn (hb pins s1 σ H1 _ I1 q1) fun u s2 ⟨y, H2, I2, r2, q2⟩ =>
    thn (ho pins s2 σ H2 x y v u _ I2 r1 r2 q2) fun c s3 ⟨z, H3, I3, r3, k, e, q3⟩ => ?_) hm
  subst e
  cases r3
  exact wpAny_truthy_bool ⟨H3, I3, q3⟩
def tChain (r r' : R2) (ta tb tc : TE) : TE := fun σ H Q => ta σ H fun x H1 => tb σ H1 fun y H2 => r x y H2 fun z H3 => ∃ k, z = .bl k ∧
  (if k = true then tc σ H3 fun w' H4 => r' y w' H4 Q else Q (.bl false) H3)
theorem pe_chain {op op' : CmpOp} {r r' : R2} (ho : OpR X (compareOp op) r) (ho' : OpR X (compareOp op') r') (ha : PE X a ta) (hb : PE X b tb) (hc : PE X c tc)
    (hm : lastMarks [op, op'] [b, c] = false := by with_unfolding_all rfl) : PE X (.Compare a [op, op'] [b, c] pos) (tChain r r' ta tb tc) := by
  intro pins s σ H Q I h
  refine Compare_chain (thn (ha pins s σ H _ I h) fun v s1 ⟨x, H1, I1, r1, q1⟩ => chain_link (thn (hb pins s1 σ H1 _ I1 q1) fun u s2 ⟨y, H2, I2, r2, q2⟩ =>
    thn (ho pins s2 σ H2 x y v u _ I2 r1 r2 q2) fun d s3 ⟨z, H3, I3, r3, k, e, q3⟩ => ?_)) hm
  subst e
  cases r3
  refine wpAny_truthy_bool ?_
  cases k with
  | false => exact ite_ff ⟨.bl false, H3, I3, rfl, q3⟩
  | true => exact ite_tt (chain_last (thn (hc pins s3 σ H3 _ I3 q3) fun w' s4 ⟨z', H4, I4, r4, q4⟩ => ho' pins s4 σ H4 y z' u w' Q I4 r2 r4 q4))
theorem line63 : (sizeLine : Nat) < 2 ^ 63 := by rw [sizeLine_eq]; decide
theorem vals1 {x : V} {us : List Value} (r : Vals [x] us) : ∃ u, us = [u] ∧ RelV x u := by
  cases r with
  | cons r1 r2 => cases r2; exact ⟨_, rfl, r1⟩
theorem vals2 {x y : V} {us : List Value} (r : Vals [x, y] us) : ∃ u w', us = [u, w'] ∧ RelV x u ∧ RelV y w' := by
  cases r with
  | cons r1 r2 =>
    cases r2 with
    | cons r3 r4 => cases r4; exact ⟨_, _, rfl, r1, r3⟩
theorem call_min2 (hc : X.calm = true) : CallR X (.builtin "min") (fun xs H Q => ∃ i j, xs = [.int i, .int j] ∧ Q (.int (if j < i then j else i)) H) := by
  intro pins s σ H xs us Q I r h
  obtain ⟨i, j, rfl, q⟩ := h
  obtain ⟨u, w', rfl, ⟨t, rfl⟩, ⟨t', rfl⟩⟩ := vals2 r
  refine min_two_ints (I.ok.hd hc) fun h' tk k => ⟨_, H, I.kept k, ?_, q⟩
  by_cases hj : j < i
  · rw [if_pos hj, if_pos hj]; exact ⟨_, rfl⟩
  · rw [if_neg hj, if_neg hj]; exact ⟨_, rfl⟩
end
end L2
namespace L2
open PySem PySem.Spec PyProof.Rows
structure ObjM (h : Heap) (x dx C : Addr) (mA : Str → Option Value) : Prop where
  obj : h.get? x = some (PySem.W.instObj C dx)
  ns : h.Ns1 dx mA
  ne : dx ≠ x
theorem lookIn_ns {h : Heap} {dx : Addr} {mA : Str → Option Value} (n : h.Ns1 dx mA) : ∃ od, h.get? dx = some od ∧ ∀ name, PySem.W.lookIn name od = some (mA name) := by
  obtain ⟨o, es, ep, ho, hd, hk, _, hm⟩ := n
  refine ⟨o, ho, fun name => ?_⟩
  have e := hm name
  unfold nsFind findBy at e
  rw [← Array.find?_toList] at e
  unfold PySem.W.lookIn
  rw [hd]
  dsimp only
  split
  · rename_i y q
    rw [q] at e
    exact congrArg some e
  · rename_i q
    rw [q] at e
    have a : es.toList.any (·.refKey) = false := by
      rw [List.any_eq_false]
      intro y hy
      obtain ⟨z, t, hkey⟩ := hk y (Array.mem_toList_iff.mp hy)
      simp [DictEntry.refKey, hkey]
    have a' : ¬ es.toList.any (·.refKey) = true := by rw [a]; exact Bool.false_ne_true
    rw [if_neg a']
    exact congrArg some e
theorem ObjM.look {h : Heap} {x dx C : Addr} {mA : Str → Option Value} (I : ObjM h x dx C mA) : ∃ od, PySem.W.InstAt h x (PySem.W.instObj C dx) C (some od) ∧ ∀ name, PySem.W.lookIn name od = some (mA name) :=
  let ⟨od, ho, hl⟩ := lookIn_ns I.ns
  ⟨od, ⟨I.obj, rfl, rfl, ho⟩, hl⟩
section
variable {prog : Program} {w : World} {A : Around} {E : Value → Shared → Prop} {s : Shared} {K : PySem.W.Frag} {x dx C f : Addr} {mA : Str → Option Value} {name : Str} {v : Value}
theorem get_map {expr : Bool} {Q : Value → Shared → Prop} (X : K.In s.heap) (I : ObjM s.heap x dx C mA) (hg : PySem.W.plainGet K C name = true) (hh : PySem.W.hasDictIn K C = true)
    (ha : PySem.W.findIn K (.ref C) name = some none) (hv : mA name = some v) (hv' : PySem.W.handedIn v = true) (h : Q v { s with toks := s.toks + 1 }) :
    wpAny (model prog w) A (getAttr (.ref x) name expr) Q E s := by
  obtain ⟨od, J, hl⟩ := I.look
  exact PySem.W.get_value X J (PySem.W.plainGet_of hg).1 (PySem.W.findObj_own hh ha rfl (by rw [hl, hv])) hv' h
theorem get_meth {pl : Sem Bool} {Q : Value × List Value → Shared → Prop} (X : K.In s.heap) (I : ObjM s.heap x dx C mA) (hg : PySem.W.plainGet K C name = true)
    (hf : PySem.W.findIn K (.ref C) name = some (some (.ref f))) (ht : PySem.W.isFn K (.ref f) = true) (hv : mA name = none) (h : Q (.ref f, [.ref x]) s) :
    wpAny (model prog w) A (getMethod (.ref x) name pl) Q E s := by
  obtain ⟨od, J, hl⟩ := I.look
  exact PySem.W.method_fn X J (PySem.W.plainGet_of hg).1 (PySem.W.plainGet_of hg).2 hf (beq_iff_eq.mp ht) (by show (PySem.W.lookIn name od).map (·.isSome) = some false; rw [hl, hv]; rfl) h
theorem set_map {ns : List Str} {Q : Unit → Shared → Prop} (X : K.In s.heap) (I : ObjM s.heap x dx C mA)
    (hs : PySem.W.findIn K (.ref C) "__setattr__" = some (some (.builtin "object.__setattr__"))) (hp : PySem.W.plainOver K C = true) (ht : PySem.W.takerIn K C name = some none) (hh : PySem.W.hasDictIn K C = true)
    (hw : PySem.Within mA ns) (hsz : ns.length ≤ sizeLine)
    (h : ∀ h', ObjM h' x dx C (fun y => if y = name then some v else mA y) → Heap.SameBut dx s.heap h' → Q () { s with heap := h', toks := s.toks + 2 }) :
    wpAny (model prog w) A (setAttr (.ref x) name v) Q E s := by
  obtain ⟨od, J, hl⟩ := I.look
  refine PySem.W.set_plain X J hs (PySem.W.osa_open (s := { s with toks := s.toks + 1 }) (r := none) X J hp ht fun b => ?_)
  obtain ⟨cd, hc, hd'⟩ := PySem.W.any_some hh
  have hx : s.heap.get? x = some ⟨.ref C, some dx, .plain, #[]⟩ := I.obj
  refine wpAny_bind (wpAny_pure (wpAny_bind (wpAny_bind (wpAny_loadPart hx (wpAny_bind (PySem.W.Looks.here (s := { s with toks := s.toks + 1 }) (PySem.W.looks_clsIn X hc) ?_))))))
  rw [hd']
  refine wpAny_pure (a := some dx) (wpAny_bind (wpAny_pure (wpAny_bind ?_)))
  refine wpAny_nsSet1 (s := { s with toks := s.toks + 1 }) I.ns fun h' hn2 hs2 => ?_
  obtain ⟨oD, esD, epD, hoD, hdD, hcD⟩ := hn2.count (PySem.Within.cons name v hw)
  refine wpAny_bind (wpAny_lookBehind hoD (by rw [hdD]; exact pastItsLine_dict (Nat.le_trans hcD (by rw [List.length_cons]; omega))) ?_)
  exact wpAny_pure (h _ ⟨(hs2.2 _ (Ne.symm I.ne)).trans I.obj, hn2, I.ne⟩ hs2)
theorem make_map {R : Result → Shared → Prop} {vs : List Value} {kw : List (Str × Value)} (X : K.In s.heap) (hm : PySem.W.makesIn K C = true)
    (hi : PySem.W.findIn K (.ref C) "__init__" = some (some (.ref f))) (hf : PySem.W.typeIn K (.ref f) = some (.type "function"))
    (h : codeAny (model prog w) (A.under (.builtin "type.__call__" ⟨.ref C :: vs, kw⟩)) (.call (.ref f) ⟨.ref (s.heap.objs.size + 1) :: vs, kw⟩) (PySem.W.InitBack (s.heap.objs.size + 1) R)
      { s with heap := (s.heap.push PySem.W.emptyDict).push (PySem.W.instObj C s.heap.objs.size) }) :
    codeAny (model prog w) A (.call (.ref C) ⟨vs, kw⟩) R s := by
  obtain ⟨hh, g, d, t, os⟩ := s
  exact PySem.W.make_core (PySem.W.makes_of X hm) (PySem.W.looks_findIn X hi) (fun self => PySem.W.bind_fn X self hf) (.inl rfl) h
end
def putF (f : Str) (v : V) : List (Str × V) → List (Str × V)
  | [] => [(f, v)]
  | (g, x) :: r => if g = f then (g, v) :: r else (g, x) :: putF f v r
theorem lookup_putF (f g : Str) (v : V) : ∀ fs : List (Str × V), (putF f v fs).lookup g = if g = f then some v else fs.lookup g
  | [] => by
    show List.lookup g [(f, v)] = _
    by_cases h : g = f
    · have hb : (g == f) = true := beq_iff_eq.mpr h
      simp only [List.lookup, hb, if_pos h]
    · have hb : (g == f) = false := beq_eq_false_iff_ne.mpr h
      simp only [List.lookup, hb, if_neg h]
  | (k, x) :: r => by
    have ih := lookup_putF f g v r
    rw [show putF f v ((k, x) :: r) = (if k = f then (k, v) :: r else (k, x) :: putF f v r) from rfl]
    by_cases hk : k = f
    · rw [if_pos hk]
      by_cases h : g = k
      · have hb : (g == k) = true := beq_iff_eq.mpr h
        simp only [List.lookup, hb, if_pos (h.trans hk)]
      · have hb : (g == k) = false := beq_eq_false_iff_ne.mpr h
        simp only [List.lookup, hb, if_neg (fun e : g = f => h (e.trans hk.symm))]
    · rw [if_neg hk]
      by_cases h : g = k
      · have hb : (g == k) = true := beq_iff_eq.mpr h
        simp only [List.lookup, hb, if_neg (fun e : g = f => hk (h.symm.trans e))]
      · have hb : (g == k) = false := beq_eq_false_iff_ne.mpr h
        simp only [List.lookup, hb]
        exact ih
theorem keys_putF (f : Str) (v : V) : ∀ fs : List (Str × V), f ∈ (putF f v fs).map (·.1) ∧ ∀ g, g ∈ fs.map (·.1) → g ∈ (putF f v fs).map (·.1)
  | [] => ⟨by simp [putF], fun g h => by simp at h⟩
  | (k, x) :: r => by
    obtain ⟨i1, i2⟩ := keys_putF f v r
    rw [show putF f v ((k, x) :: r) = (if k = f then (k, v) :: r else (k, x) :: putF f v r) from rfl]
    by_cases hk : k = f
    · rw [if_pos hk]
      subst hk
      exact ⟨by simp, fun g h => by simpa using h⟩
    · rw [if_neg hk]
      refine ⟨?_, fun g h => ?_⟩
      · rw [List.map_cons]
        exact List.mem_cons_of_mem _ i1
      · rw [List.map_cons] at h ⊢
        rcases List.mem_cons.mp h with e | e
        · exact List.mem_cons.mpr (.inl e)
        · exact List.mem_cons_of_mem _ (i2 g e)
theorem length_putF (f : Str) (v : V) : ∀ fs : List (Str × V), (putF f v fs).length ≤ fs.length + 1
  | [] => by simp [putF]
  | (k, x) :: r => by
    have ih := length_putF f v r
    rw [show putF f v ((k, x) :: r) = (if k = f then (k, v) :: r else (k, x) :: putF f v r) from rfl]
    by_cases hk : k = f
    · rw [if_pos hk, List.length_cons, List.length_cons]; omega
    · rw [if_neg hk, List.length_cons, List.length_cons]; omega
theorem RelO.some_of {v : V} {o : Option Value} (r : RelO (some v) o) : ∃ u, o = some u ∧ RelV v u := by
  cases o with
  | none => exact (show False from r).elim
  | some u => exact ⟨u, rfl, r⟩
theorem RelO.none_of {o : Option Value} (r : RelO none o) : o = none := by
  cases o with
  | none => rfl
  | some u => exact (show False from r).elim
theorem handed_of {v : V} {u : Value} (r : RelV v u) : PySem.W.handedIn u = true := by
  cases v with
  | non => cases (show u = Value.none from r); rfl
  | bl b => cases (show u = Value.bool b from r); rfl
  | int i => obtain ⟨t, e⟩ := (show ∃ t, u = Value.int i t from r); cases e; rfl
  | str x => obtain ⟨t, e⟩ := (show ∃ t, u = Value.str x t from r); cases e; rfl
  | byt b => obtain ⟨t, e⟩ := (show ∃ t, u = Value.bytes b t from r); cases e; rfl
  | flt b => obtain ⟨t, e⟩ := (show ∃ t, u = Value.float b t from r); cases e; rfl
  | ref a => cases (show u = Value.ref a from r); rfl
  | ty n => cases (show u = Value.type n from r); rfl
section
variable {P : Program} {w : World} {H H' : Hp} {h h' : Heap} {a C dx : Addr} {fs fs' : List (Str × V)}
theorem ins_get (hok : HOk P w H h) (e : H a = some (.ins C dx fs)) : ∃ mA, ObjM h a dx C mA ∧ (∀ f, RelO (fs.lookup f) (mA f)) ∧ PySem.Within mA (fs.map (·.1)) ∧ fs.length ≤ 1000 ∧ H dx = some (.own a) := by
  obtain ⟨d, z, ne, ob, mA, n, r, q⟩ := (show ObjOk P w H h a (.ins C dx fs) from hok a _ e)
  exact ⟨mA, ⟨ob, n, ne⟩, r, q, z, d⟩
end
structure Cls (K : PySem.W.Frag) (C : Addr) : Prop where
  pg : PySem.W.plainGet K C Str.empty = true
  hd : PySem.W.hasDictIn K C = true
  po : PySem.W.plainOver K C = true
  sa : PySem.W.findIn K (.ref C) "__setattr__" = some (some (.builtin "object.__setattr__"))
theorem Cls.get {K : PySem.W.Frag} {C : Addr} (c : Cls K C) (f : Str) : PySem.W.plainGet K C f = true := c.pg
def NoAttr (K : PySem.W.Frag) (C : Addr) (f : Str) : Prop := PySem.W.findIn K (.ref C) f = some none
theorem NoAttr.taker {K : PySem.W.Frag} {C : Addr} {f : Str} (n : NoAttr K C f) : PySem.W.takerIn K C f = some none := by
  unfold PySem.W.takerIn
  rw [show PySem.W.findIn K (.ref C) f = some none from n]
  rfl
structure Meth (K : PySem.W.Frag) (C : Addr) (m : Str) (f : Addr) : Prop where
  at_ : PySem.W.findIn K (.ref C) m = some (some (.ref f))
  fn : PySem.W.isFn K (.ref f) = true
  kp : PySem.W.keepIn K (.ref f) = true
section
variable {X : Cx} {pins : List (Addr × Obj)} {σ : St} {H : Hp} {s : Shared} {a C dx : Addr} {fs : List (Str × V)} {f : Str} {v : V} {A : Around} {E : Value → Shared → Prop}
theorem getattr_ok {b : Bool} {Q : Value → Shared → Prop} (I : Inv X pins σ H s) (e : H a = some (.ins C dx fs)) (c : Cls X.K C) (n : NoAttr X.K C f) (l : fs.lookup f = some v)
    (h : ∀ u s', Inv X pins σ H s' → RelV v u → Q u s') : wpAny (model X.prog X.w) A (getAttr (.ref a) f b) Q E s := by
  obtain ⟨mA, O, r, _, _, _⟩ := ins_get I.hok e
  obtain ⟨u, hu, ru⟩ := RelO.some_of (v := v) (o := mA f) (by rw [← l]; exact r f)
  exact get_map I.kIn O (c.get f) c.hd n hu (handed_of ru) (h u _ (I.tok _) ru)
theorem getmeth_ok {m : Str} {g : Addr} {pl : Sem Bool} {Q : Value × List Value → Shared → Prop} (I : Inv X pins σ H s) (e : H a = some (.ins C dx fs)) (c : Cls X.K C) (k : Meth X.K C m g) (l : fs.lookup m = none)
    (h : Q (.ref g, [.ref a]) s) : wpAny (model X.prog X.w) A (getMethod (.ref a) m pl) Q E s := by
  obtain ⟨mA, O, r, _, _, _⟩ := ins_get I.hok e
  have hn : mA m = none := RelO.none_of (by rw [← l]; exact r m)
  exact get_meth I.kIn O (c.get m) k.at_ k.fn hn h
theorem setattr_ok {y : V} {u : Value} {Q : Unit → Shared → Prop} (I : Inv X pins σ H s) (e : H a = some (.ins C dx fs)) (c : Cls X.K C) (n : NoAttr X.K C f) (hl : fs.length < 1000) (ry : RelV y u)
    (h : ∀ s', Inv X pins σ (upd H a (.ins C dx (putF f y fs))) s' → Q () s') : wpAny (model X.prog X.w) A (setAttr (.ref a) f u) Q E s := by
  obtain ⟨mA, O, r, wi, _, ho⟩ := ins_get I.hok e
  have hz : (fs.map (·.1)).length ≤ sizeLine := by rw [List.length_map, sizeLine_eq]; omega
  refine set_map I.kIn O c.sa c.po n.taker c.hd wi hz fun h' O' sb => h _ ?_
  have hd : ∃ o, h'.get? dx = some o := let ⟨o, _, _, e', _⟩ := O'.ns; ⟨o, e'⟩
  refine I.write (x := a) (e := dx) (by rw [e]; exact True.intro) (.inr ho) (fun b q hb z => (sb.2 b hb).trans z) hd ?_
  refine ⟨by rw [upd_ne O.ne]; exact ho, ?_, O.ne, O'.obj, _, O'.ns, fun g => ?_, fun g hg => ?_⟩
  · have := length_putF f y fs; omega
  · show RelO ((putF f y fs).lookup g) (if g = f then some u else mA g)
    rw [lookup_putF]
    by_cases q : g = f
    · rw [if_pos q, if_pos q]; exact ry
    · rw [if_neg q, if_neg q]; exact r g
  · by_cases q : g = f
    · rw [q]; exact (keys_putF f y fs).1
    · refine (keys_putF f y fs).2 g (wi g fun z => hg ?_)
      show (if g = f then some u else mA g) = none
      rw [if_neg q]; exact z
theorem Inv.made (I : Inv X pins σ H s) : Inv X pins σ (upd (upd H s.heap.objs.size (.own (s.heap.objs.size + 1))) (s.heap.objs.size + 1) (.ins C s.heap.objs.size []))
    { s with heap := (s.heap.push PySem.W.emptyDict).push (PySem.W.instObj C s.heap.objs.size) } := by
  have e1 : (s.heap.push PySem.W.emptyDict).get? s.heap.objs.size = some PySem.W.emptyDict := Heap.get?_push_size s.heap rfl
  have e2 : ((s.heap.push PySem.W.emptyDict).push (PySem.W.instObj C s.heap.objs.size)).get? (s.heap.objs.size + 1) = some (PySem.W.instObj C s.heap.objs.size) := by
    have := Heap.get?_push_size (s.heap.push PySem.W.emptyDict) (o := PySem.W.instObj C s.heap.objs.size) rfl
    rwa [Heap.size_push] at this
  have e3 : (s.heap.push PySem.W.emptyDict).Ns s.heap.objs.size (fun _ => none) := ⟨PySem.W.emptyDict, #[], _, e1, rfl, (fun e he => absurd he (by simp)), fun _ => rfl⟩
  have I1 := I.laid (a := s.heap.objs.size) (o := .own (s.heap.objs.size + 1)) (h' := s.heap.push PySem.W.emptyDict) (t' := s.toks) (fun b u q => Heap.get?_push_of_some _ q) (Nat.le_refl _) ⟨_, e1⟩
  refine I1.laid (a := s.heap.objs.size + 1) (o := .ins C s.heap.objs.size []) (t' := s.toks) (fun b u q => Heap.get?_push_of_some _ q) (Nat.le_of_eq (Heap.size_push _ _)) ?_
  have ne : s.heap.objs.size ≠ s.heap.objs.size + 1 := Nat.ne_of_lt (Nat.lt_succ_self _)
  refine ⟨by rw [upd_ne ne, upd_same], Nat.zero_le _, ne, e2, fun _ => none, (Heap.Ns1.of_empty e3).at fun o q => Heap.get?_push_of_some _ q, fun _ => True.intro, fun y hy => absurd rfl hy⟩
theorem attr_of {prog : Program} {w : World} {env : Env} {e : Expr} {f : Str} {pos : Pos} {s : Shared} {Q : Value → Shared → Prop} (hb : attributeBase e f env (eval e env) = eval e env)
    (h : wpAny (model prog w) A (eval e env) (fun o s₁ => wpAny (model prog w) A (getAttr o f true) Q E s₁) E s) : wpAny (model prog w) A (eval (.Attribute e f pos) env) Q E s :=
  Attribute_any_ h (by rw [arm_eval_Attribute, hb])
end
def tFld (K : PySem.W.Frag) (ta : TE) (f : Str) : TE := fun σ H Q => ta σ H fun x H1 => ∃ a C dx fs v, x = .ref a ∧ H1 a = some (.ins C dx fs) ∧ Cls K C ∧ NoAttr K C f ∧ fs.lookup f = some v ∧ Q v H1
def sFld (K : PySem.W.Frag) (ta tv : TE) (f : Str) : TS := fun D σ H => tv σ H fun y H1 => ta σ H1 fun x H2 => ∃ a C dx fs, x = .ref a ∧ H2 a = some (.ins C dx fs) ∧ Cls K C ∧ NoAttr K C f ∧ fs.length < 1000 ∧
  D.nx σ (upd H2 a (.ins C dx (putF f y fs)))
def InOp (X : Cx) (op : Operator) (rd : V → V → Hp → VK → Prop) : Prop :=
  ∀ (pins : List (Addr × Obj)) (s : Shared) (σ : St) (H : Hp) (x y : V) (u v : Value) (Q : VK), Inv X pins σ H s → RelV x u → RelV y v → rd x y H Q → wpAny (model X.prog X.w) X.A (inplaceOp op u v) (EP X pins σ Q) X.xe s
def sFldAug (K : PySem.W.Frag) (ta tv : TE) (rd : V → V → Hp → VK → Prop) (f : Str) : TS := fun D σ H => ta σ H fun x H1 => ∃ a C dx fs v, x = .ref a ∧ H1 a = some (.ins C dx fs) ∧ Cls K C ∧ NoAttr K C f ∧ fs.lookup f = some v ∧
  tv σ H1 fun y H2 => rd v y H2 fun z H3 => ∃ dx' fs', H3 a = some (.ins C dx' fs') ∧ fs'.length < 1000 ∧ D.nx σ (upd H3 a (.ins C dx' (putF f z fs')))
section
variable {X : Cx} {o e value : Expr} {f : Str} {pos pos' tpos : Pos} {ta tv : TE}
theorem pe_fld (he : PE X e ta) (hb : attributeBase e f X.env (eval e X.env) = eval e X.env) : PE X (.Attribute e f pos) (tFld X.K ta f) := by
  intro pins s σ H Q I h
  refine attr_of hb (thn (he pins s σ H _ I h) fun u s1 ⟨x, H1, I1, rx, a, C, dx, fs, v, ex, ea, c, n, l, q⟩ => ?_)
  subst ex
  obtain rfl : u = Value.ref a := rx
  exact getattr_ok I1 ea c n l fun u' s2 I2 ru => ⟨v, H1, I2, ru, q⟩
theorem ps_fld (ha : PE X o ta) (hv : PE X value tv) (hs : swapsWith value (some (.Attribute o f pos')) pos.line X.env = pure false) : PS X (.Assign [.Attribute o f pos'] value pos) (sFld X.K ta tv f) := by
  intro pins s σ H D I h
  refine plainObj_wpAny_Assign_Attribute (thn (hv pins s σ H _ I h) fun u s1 ⟨y, H1, I1, ry, q⟩ => thn (ha pins s1 σ H1 _ I1 q) fun ov s2 ⟨x, H2, I2, rx, a, C, dx, fs, ex, ea, c, n, l, q2⟩ => ?_) hs
  subst ex
  obtain rfl : ov = Value.ref a := rx
  exact setattr_ok I2 ea c n l ry fun s3 I3 => ⟨σ, _, I3, q2⟩
theorem ps_fldaug {op : Operator} {rd : V → V → Hp → VK → Prop} (ha : PE X o ta) (hv : PE X value tv) (hop : InOp X op rd) : PS X (.AugAssign (.Attribute o f tpos) op value pos) (sFldAug X.K ta tv rd f) := by
  intro pins s σ H D I h
  refine wpAny_AugAssign_AttributeAny (thn (ha pins s σ H _ I h) fun ov s1 ⟨x, H1, I1, rx, a, C, dx, fs, v, ex, ea, c, n, l, q⟩ => ?_)
  subst ex
  obtain rfl : ov = Value.ref a := rx
  refine getattr_ok I1 ea c n l fun u s2 I2 ru => thn (hv pins s2 σ H1 _ I2 q) fun w3 s3 ⟨y, H2, I3, ry, q3⟩ => thn (hop pins s3 σ H2 v y u w3 _ I3 ru ry q3) fun w4 s4 ⟨z, H3, I4, rz, dx', fs', ea', l', q4⟩ => ?_
  exact setattr_ok I4 ea' c n l' rz fun s5 I5 => ⟨σ, _, I5, q4⟩
def rAdd : V → V → Hp → VK → Prop := fun x y H Q => ∃ i j, x = .int i ∧ y = .int j ∧ Q (.int (i + j)) H
def rSub : V → V → Hp → VK → Prop := fun x y H Q => ∃ i j, x = .int i ∧ y = .int j ∧ Q (.int (i - j)) H
theorem in_add : InOp X .Add rAdd := by
  rintro pins s σ H x y u v Q I rx ry ⟨i, j, rfl, rfl, q⟩
  obtain ⟨t, rfl⟩ := (show ∃ t, u = Value.int i t from rx)
  obtain ⟨t', rfl⟩ := (show ∃ t', v = Value.int j t' from ry)
  exact PyProof.Rows.iadd_int ⟨.int (i + j), H, I.tok _, ⟨_, rfl⟩, q⟩
theorem in_sub : InOp X .Sub rSub := by
  rintro pins s σ H x y u v Q I rx ry ⟨i, j, rfl, rfl, q⟩
  obtain ⟨t, rfl⟩ := (show ∃ t, u = Value.int i t from rx)
  obtain ⟨t', rfl⟩ := (show ∃ t', v = Value.int j t' from ry)
  exact PyProof.Rows.isub_int ⟨.int (i - j), H, I.tok _, ⟨_, rfl⟩, q⟩
end
section
variable {X : Cx} {pins : List (Addr × Obj)} {σ : St} {H : Hp} {s : Shared} {A : Around} {E : Value → Shared → Prop} {Q : Value → Shared → Prop} {c : Value} {b : Bool}
end
end L2
namespace L2
open PySem PySem.Spec PyProof.Rows
structure Room (k : Nat) (A : Around) : Prop where
  hd : A.handled = none
  dp : A.depth + 3 * k + 5 < recursionLimit
  un : A.units + 16 * k + 200 < cLine
theorem Room.mono {j k : Nat} {A : Around} (r : Room k A) (h : j ≤ k) : Room j A := ⟨r.hd, by have := r.dp; omega, by have := r.un; omega⟩
theorem Room.deeper {k : Nat} {A : Around} (r : Room (k + 1) A) (env : Env) : Room k (A.deeper env) :=
  ⟨r.hd, by have := r.dp; show A.depth + 1 + 3 * k + 5 < _; omega, by have := r.un; show A.units + 3 + 16 * k + 200 < _; omega⟩
theorem make_depth {A : Around} {C : Addr} {us : List Value} {kw : List (Str × Value)} : (A.under (.builtin "type.__call__" ⟨.ref C :: us, kw⟩)).depth = A.depth + 1 := by
  first | rfl | simp [Around.under, Code.weight, Code.isCreation, Code.isGuard, Code.isCaller, Code.frames, Code.isFrame, guardIds]
theorem make_units {A : Around} {C : Addr} {us : List Value} {kw : List (Str × Value)} : (A.under (.builtin "type.__call__" ⟨.ref C :: us, kw⟩)).units = A.units + 1 := by
  first | rfl | simp [Around.under, Code.cUnits, Code.frames, Code.isFrame]
theorem Room.make {k : Nat} {A : Around} (r : Room (k + 1) A) (C : Addr) (us : List Value) (kw : List (Str × Value)) : Room k (A.under (.builtin "type.__call__" ⟨.ref C :: us, kw⟩)) :=
  ⟨r.hd, by have := r.dp; rw [make_depth]; omega, by have := r.un; rw [make_units]; omega⟩
theorem Room.depth {k : Nat} {A : Around} (r : Room k A) : A.depth < recursionLimit := by have := r.dp; omega
theorem Room.units {k : Nat} {A : Around} (r : Room k A) : A.units + 64 < cLine := by have := r.un; omega
def tNil : TA := fun _ H Q => Q [] H
def tCons (ta : TE) (tr : TA) : TA := fun σ H Q => ta σ H fun x H1 => tr σ H1 fun xs H2 => Q (x :: xs) H2
section
variable {X : Cx} {e : Expr} {es : List Expr} {te : TE} {t : TA} {pos : Pos}
theorem pa_nil : PA X [] tNil := fun _ _ _ _ H Q I h => Calls.spliced_nil ⟨[], H, I, .nil, h⟩
theorem pa_cons (ha : PE X e te) (hr : PA X es t) (hs : starEach (e :: es) X.env = (false, eval e X.env) :: starEach es X.env := by rfl) : PA X (e :: es) (tCons te t) := by
  intro pos pins s σ H Q I h
  rw [hs]
  show wpAny _ _ (spliced ((false, eval e X.env) :: backTo pos (starEach es X.env))) _ _ s
  refine Calls.spliced_cons (thn (ha pins s σ H _ I h) fun u s1 ⟨x, H1, I1, r1, q1⟩ => ?_)
  exact thn (hr pos pins s1 σ H1 _ I1 q1) fun us s2 ⟨xs, H2, I2, r2, q2⟩ => ⟨x :: xs, H2, I2, .cons r1 r2, q2⟩
def tTup (t : TA) : TE := fun σ H Q => t σ H fun xs H1 => xs.length ≤ sizeLine ∧ ∀ p, H1 p = none → Q (.ref p) (upd H1 p (.tup xs))
def tLst (t : TA) : TE := fun σ H Q => t σ H fun xs H1 => xs.length ≤ sizeLine ∧ ∀ p, H1 p = none → Q (.ref p) (upd H1 p (.lst xs))
theorem pe_tup {x1} (h : PA X es t) : PE X (.Tuple es x1 pos) (tTup t) := by
  intro pins s σ H Q I hq
  refine wpAny_Tuple_spliced (thn (h pos pins s σ H _ I hq) fun us s1 ⟨xs, H1, I1, r, z, q⟩ => ⟨by rw [← r.length]; exact z, ?_⟩)
  have hf : H1 s1.heap.objs.size = none := I1.hok.fresh (Nat.le_refl _)
  refine ⟨.ref s1.heap.objs.size, upd H1 s1.heap.objs.size (.tup xs), I1.laid (t' := s1.toks) (fun b u e => Heap.get?_push_of_some _ e) (Nat.le_refl _) ?_, rfl, q _ hf⟩
  exact ⟨z, us, r, ⟨_, Heap.get?_push_size _ rfl, rfl, _, rfl⟩⟩
theorem pe_lst (h : PA X es t) : PE X (.List es pos) (tLst t) := by
  intro pins s σ H Q I hq
  refine wpAny_List_spliced (thn (h pos pins s σ H _ I hq) fun us s1 ⟨xs, H1, I1, r, z, q⟩ => ⟨by rw [← r.length]; exact z, ?_⟩)
  have hf : H1 s1.heap.objs.size = none := I1.hok.fresh (Nat.le_refl _)
  refine ⟨.ref s1.heap.objs.size, upd H1 s1.heap.objs.size (.lst xs), I1.laid (t' := s1.toks) (fun b u e => Heap.get?_push_of_some _ e) (Nat.le_refl _) ?_, rfl, q _ hf⟩
  exact ⟨z, us, 0, r, Heap.get?_push_size _ rfl⟩
end
abbrev Sp := List V → Hp → VK → XK → Prop
abbrev CXT := List Env → Hp → Shared → XK → Value → Shared → Prop
structure Env0 (P : Program) (w : World) (K : PySem.W.Frag) (mg : Str → Option Value) (base : Heap) (A : Around) (outer : List Env) (s : Shared) (H : Hp) : Prop where
  frames : A.frames = some outer
  mod : Mod K mg base
  bs : ∀ b o, base.get? b = some o → s.heap.get? b = some o ∧ H b = none
  bsz : base.objs.size ≤ s.heap.objs.size
  funs : s.heap.FunFrames base outer
  frf : ∀ b ∈ frs outer, H b = none
  hok : HOk P w H s.heap
  bare : AllBare s.gens
def CE (outer : List Env) (P : Program) (w : World) (H : Hp) (s : Shared) (Q : VK) (u : Value) (s' : Shared) : Prop :=
  ∃ v H', s'.os = s.os ∧ AllBare s'.gens ∧ Un (frs outer) [] H H' s.heap s'.heap ∧ HOk P w H' s'.heap ∧ RelV v u ∧ Q v H'
def CR (CX : CXT) (outer : List Env) (P : Program) (w : World) (H : Hp) (s : Shared) (Q : VK) (E : XK) (r : Result) (s' : Shared) : Prop :=
  match r with
  | .ok (.ret u) => CE outer P w H s Q u s'
  | .ok _ => False
  | .error e => CX outer H s E e s'
structure FnOk (P : Program) (w : World) (K : PySem.W.Frag) (mg : Str → Option Value) (base : Heap) (CX : CXT) (k : Nat) (f : Addr) (fd : FuncData) (ps : List Str) (sp : Sp) : Prop where
  len : ∀ vs H Q E, sp vs H Q E → vs.length = ps.length
  run : ∀ (A : Around) (outer : List Env) (s : Shared) (H : Hp) (args : Args) (us : List Value) (vs : List V) (Q : VK) (E : XK), Room k A → Env0 P w K mg base A outer s H → BindsTo s fd args (ps.zip us) → Vals vs us → sp vs H Q E →
    codeAny (model P w) A (.call (.ref f) args) (CR CX outer P w H s Q E) s
theorem Env0.make {P : Program} {w : World} {K : PySem.W.Frag} {mg : Str → Option Value} {base : Heap} {A : Around} {outer : List Env} {s : Shared} {H : Hp} (e : Env0 P w K mg base A outer s H) (C : Addr) (us : List Value) (kw : List (Str × Value)) :
    Env0 P w K mg base (A.under (.builtin "type.__call__" ⟨.ref C :: us, kw⟩)) outer s H := ⟨by first | exact e.frames | (simpa [Around.under, Code.envs, Code.isFrame, pushEnvs] using e.frames), e.mod, e.bs, e.bsz, e.funs, e.frf, e.hok, e.bare⟩
section
variable {X : Cx} {pins : List (Addr × Obj)} {σ : St} {H : Hp} {s s' : Shared}
theorem Inv.env0 (I : Inv X pins σ H s) : Env0 X.prog X.w X.K X.mg X.base X.A X.stack s H :=
  ⟨I.ok.frames, I.ok.mod, I.bs, Nat.le_trans I.ok.bsz I.sz, I.stack, I.stkFree, I.hok, I.bare⟩
theorem Inv.after {Q : VK} {u : Value} (I : Inv X pins σ H s) (h : CE X.stack X.prog X.w H s Q u s') : EP X pins σ Q u s' := by
  obtain ⟨v, H', os, bare, un, hok, r, q⟩ := h
  obtain ⟨hh, g, d, t, os'⟩ := s'
  obtain rfl : os' = s.os := os
  exact ⟨v, H', I.call (h' := hh) (g' := g) (d' := d) (t' := t) (ch := []) un hok bare (fun b z => absurd z (by simp)), r, q⟩
end
def tCall (sp : Sp) (dvs : List V) (E : XK) (t : TA) : TE := fun σ H Q => t σ H fun vs H1 => sp (vs ++ dvs) H1 Q E
def tMeth (C : Addr) (m : Str) (sp : Sp) (dvs : List V) (E : XK) (ta : TE) (t : TA) : TE := fun σ H Q => ta σ H fun x H1 => ∃ a dx fs, x = .ref a ∧ H1 a = some (.ins C dx fs) ∧ fs.lookup m = none ∧
  t σ H1 fun vs H2 => sp (x :: (vs ++ dvs)) H2 Q E
def tMake (C : Addr) (sp : Sp) (dvs : List V) (E : XK) (t : TA) : TE := fun σ H Q => t σ H fun vs H1 => ∀ x dx, H1 x = none → H1 dx = none → dx ≠ x →
  sp (.ref x :: (vs ++ dvs)) (upd (upd H1 dx (.own x)) x (.ins C dx [])) (fun v H2 => v = .non ∧ Q (.ref x) H2) E
def Binds (K : PySem.W.Frag) (fd : FuncData) (ps : List Str) (ds : List Value) : Prop :=
  ∀ (s : Shared) (us : List Value), K.In s.heap → (us ++ ds).length = ps.length → BindsTo s fd ⟨us, []⟩ (ps.zip (us ++ ds))
theorem Binds.all {K : PySem.W.Frag} {fd : FuncData} {ps : List Str} (h : ∀ us : List Value, us.length = ps.length → bindArgs fd ⟨us, []⟩ = pure (ps.zip us)) : Binds K fd ps [] := fun s us _ hl => by
  rw [List.append_nil] at hl ⊢
  exact .of_eq (h us hl)
def Passes (CX : CXT) (X : Cx) (E : XK) : Prop := ∀ (pins : List (Addr × Obj)) (σ : St) (H : Hp) (s : Shared) (e : Value) (s' : Shared), Inv X pins σ H s → CX X.stack H s E e s' → X.xe e s'
section
variable {X : Cx} {CX : CXT} {k : Nat} {f C : Addr} {fd : FuncData} {ps : List Str} {sp : Sp} {dvs : List V} {ds : List Value} {E : XK} {x m : Str} {p pos apos : Pos} {e o : Expr} {es : List Expr} {ta : TE} {t : TA}
theorem run_fn {pins : List (Addr × Obj)} {σ : St} {H : Hp} {s : Shared} {Q : VK} {us : List Value} {vs : List V} (F : FnOk X.prog X.w X.K X.mg X.base CX k f fd ps sp) (hr : Room k X.A) (hb : Binds X.K fd ps ds) (hd : Vals dvs ds) (hx : Passes CX X E)
    (I : Inv X pins σ H s) (r : Vals vs us) (h : sp (vs ++ dvs) H Q E) : wpAny (model X.prog X.w) X.A (call (.ref f) us) (EP X pins σ Q) X.xe s := by
  have r2 : Vals (vs ++ dvs) (us ++ ds) := r.append hd
  have hl : (us ++ ds).length = ps.length := by rw [← r2.length]; exact F.len _ _ _ _ h
  refine wpAny_call (codeAny_mono (F.run X.A X.stack s H ⟨us, []⟩ (us ++ ds) (vs ++ dvs) Q E hr I.env0 (hb s us I.kIn hl) r2 h) fun r s' hq => ?_)
  cases r with
  | error e => exact hx pins σ H s e s' I hq
  | ok fl =>
    cases fl with
    | ret u => exact I.after hq
    | next => exact False.elim hq
    | brk => exact False.elim hq
    | cont => exact False.elim hq
theorem pe_call (F : FnOk X.prog X.w X.K X.mg X.base CX k f fd ps sp) (hr : Room k X.A) (hg : Gl X x) (hm : X.mg x = some (.ref f)) (hk : PySem.W.keepIn X.K (.ref f) = true) (hb : Binds X.K fd ps ds) (hd : Vals dvs ds) (hx : Passes CX X E)
    (ha : PA X (e :: es) t) (hdb : (x == ("__debug__" : Str)) = false := by decide) (he : starEach (e :: es) X.env = (false, eval e X.env) :: starEach es X.env := by rfl) (hpl : (backTo pos (starEach es X.env)).any (·.1) = false := by rfl) :
    PE X (.Call (.Name x p) (e :: es) [] pos) (tCall sp dvs E t) := by
  intro pins s σ H Q I h
  refine wpAny_Call_Name_kw (ld_glob I hg hm ?_ hdb)
  refine PySem.W.callWith_K (h₀ := X.base) I.ok.mod.kin hk (thn (ha pos pins s σ H _ I h) fun us s1 ⟨vs, H1, I1, r, q⟩ => ⟨I1.kIn, ?_⟩) he hpl
  exact run_fn F hr hb hd hx I1 r q
theorem pe_meth {pl : Sem Bool} (he : PE X o ta) (c : Cls X.K C) (hm : Meth X.K C m f) (F : FnOk X.prog X.w X.K X.mg X.base CX k f fd ps sp) (hr : Room k X.A) (hb : Binds X.K fd ps ds) (hd : Vals dvs ds) (hx : Passes CX X E) (ha : PA X (e :: es) t)
    (hst : starEach (e :: es) X.env = (false, eval e X.env) :: starEach es X.env := by rfl) (hpl : (backTo pos (starEach es X.env)).any (·.1) = false := by rfl)
    (ht : eval (.Call (.Attribute o m apos) (e :: es) [] pos) X.env = (do
      let ov ← eval o X.env
      standAt apos.atName
      let (f, first) ← holding [ov] (getMethod ov m pl)
      callWith pos f first (backTo pos (starEach (e :: es) X.env)) (backToKw pos (keywordEach [] X.env))) := by rfl) :
    PE X (.Call (.Attribute o m apos) (e :: es) [] pos) (tMeth C m sp dvs E ta t) := by
  intro pins s σ H Q I h
  refine PySem.W.methodCall_KW (pl := pl) (thn (he pins s σ H _ I h) fun u s1 ⟨x, H1, I1, rx, a, dx, fs, ex, ea, l, q⟩ => ?_) ht
  subst ex
  obtain rfl : u = Value.ref a := rx
  refine getmeth_ok I1 ea c hm l ?_
  refine PySem.W.callWith_K (first := [.ref a]) (h₀ := X.base) I.ok.mod.kin hm.kp (thn (ha pos pins s1 σ H1 _ I1 q) fun us s2 ⟨vs, H2, I2, r, q2⟩ => ⟨I2.kIn, ?_⟩) hst hpl
  exact run_fn (us := .ref a :: us) (vs := .ref a :: vs) F hr hb hd hx I2 (.cons rfl r) q2
theorem pe_meth0 {pl : Sem Bool} (he : PE X o ta) (c : Cls X.K C) (hm : Meth X.K C m f) (F : FnOk X.prog X.w X.K X.mg X.base CX k f fd ps sp) (hr : Room k X.A) (hb : Binds X.K fd ps ds) (hd : Vals dvs ds) (hx : Passes CX X E)
    (ht : eval (.Call (.Attribute o m apos) [] [] pos) X.env = (do
      let ov ← eval o X.env
      standAt apos.atName
      let (f, first) ← holding [ov] (getMethod ov m pl)
      callWith pos f first (backTo pos (starEach [] X.env)) (backToKw pos (keywordEach [] X.env))) := by rfl) :
    PE X (.Call (.Attribute o m apos) [] [] pos) (tMeth C m sp dvs E ta tNil) := by
  intro pins s σ H Q I h
  refine PySem.W.methodCall_KW (pl := pl) (thn (he pins s σ H _ I h) fun u s1 ⟨x, H1, I1, rx, a, dx, fs, ex, ea, l, q⟩ => ?_) ht
  subst ex
  obtain rfl : u = Value.ref a := rx
  refine getmeth_ok I1 ea c hm l ?_
  exact PySem.W.callWith_K0 (first := [.ref a]) I1.kIn hm.kp (run_fn (us := [.ref a]) (vs := [.ref a]) F hr hb hd hx I1 (.cons rfl .nil) q)
structure Mk (K : PySem.W.Frag) (C f : Addr) : Prop where
  makes : PySem.W.makesIn K C = true
  init : PySem.W.findIn K (.ref C) "__init__" = some (some (.ref f))
  fn : PySem.W.isFn K (.ref f) = true
  kp : PySem.W.keepIn K (.ref C) = true
theorem run_make {pins : List (Addr × Obj)} {σ : St} {H : Hp} {s : Shared} {Q : VK} {us : List Value} {vs : List V} (M : Mk X.K C f) (F : FnOk X.prog X.w X.K X.mg X.base CX k f fd ps sp) (hr : Room (k + 1) X.A) (hb : Binds X.K fd ps ds) (hd : Vals dvs ds)
    (hx : Passes CX X E) (I : Inv X pins σ H s) (r : Vals vs us)
    (h : ∀ x dx, H x = none → H dx = none → dx ≠ x → sp (.ref x :: (vs ++ dvs)) (upd (upd H dx (.own x)) x (.ins C dx [])) (fun v H2 => v = .non ∧ Q (.ref x) H2) E) :
    wpAny (model X.prog X.w) X.A (call (.ref C) us) (EP X pins σ Q) X.xe s := by
  have hq := h (s.heap.objs.size + 1) s.heap.objs.size (I.hok.fresh (Nat.le_succ _)) (I.hok.fresh (Nat.le_refl _)) (Nat.ne_of_lt (Nat.lt_succ_self _))
  have I2 := Inv.made (C := C) I
  have r2 : Vals (V.ref (s.heap.objs.size + 1) :: (vs ++ dvs)) (Value.ref (s.heap.objs.size + 1) :: (us ++ ds)) := .cons rfl (r.append hd)
  have hl : (Value.ref (s.heap.objs.size + 1) :: us ++ ds).length = ps.length := by
    have e := r2.length
    rw [F.len _ _ _ _ hq] at e
    exact e.symm
  refine wpAny_call (make_map (f := f) I.kIn M.makes M.init (beq_iff_eq.mp M.fn) (codeAny_mono (F.run _ X.stack _ _ ⟨Value.ref (s.heap.objs.size + 1) :: us, []⟩ (Value.ref (s.heap.objs.size + 1) :: (us ++ ds)) _ _ E (hr.make C us [])
    (I2.env0.make C us []) (hb _ (Value.ref (s.heap.objs.size + 1) :: us) I2.kIn hl) r2 hq) fun r s' hq' => ?_))
  cases r with
  | error e => exact hx pins σ _ _ e s' I2 hq'
  | ok fl =>
    cases fl with
    | ret u =>
      obtain ⟨v, H', I3, rv, ev, q3⟩ := I2.after hq'
      subst ev
      exact ⟨rv, ⟨V.ref (s.heap.objs.size + 1), H', I3, rfl, q3⟩⟩
    | next => exact False.elim hq'
    | brk => exact False.elim hq'
    | cont => exact False.elim hq'
theorem pe_make (M : Mk X.K C f) (F : FnOk X.prog X.w X.K X.mg X.base CX k f fd ps sp) (hr : Room (k + 1) X.A) (hg : Gl X x) (hm : X.mg x = some (.ref C)) (hb : Binds X.K fd ps ds) (hd : Vals dvs ds) (hx : Passes CX X E)
    (ha : PA X (e :: es) t) (hdb : (x == ("__debug__" : Str)) = false := by decide) (he : starEach (e :: es) X.env = (false, eval e X.env) :: starEach es X.env := by rfl) (hpl : (backTo pos (starEach es X.env)).any (·.1) = false := by rfl) :
    PE X (.Call (.Name x p) (e :: es) [] pos) (tMake C sp dvs E t) := by
  intro pins s σ H Q I h
  refine wpAny_Call_Name_kw (ld_glob I hg hm ?_ hdb)
  refine PySem.W.callWith_K (h₀ := X.base) I.ok.mod.kin M.kp (thn (ha pos pins s σ H _ I h) fun us s1 ⟨vs, H1, I1, r, q⟩ => ⟨I1.kIn, ?_⟩) he hpl
  exact run_make M F hr hb hd hx I1 r q
theorem pe_make0 (M : Mk X.K C f) (F : FnOk X.prog X.w X.K X.mg X.base CX k f fd ps sp) (hr : Room (k + 1) X.A) (hg : Gl X x) (hm : X.mg x = some (.ref C)) (hb : Binds X.K fd ps ds) (hd : Vals dvs ds) (hx : Passes CX X E)
    (hdb : (x == ("__debug__" : Str)) = false := by decide) : PE X (.Call (.Name x p) [] [] pos) (tMake C sp dvs E tNil) := by
  intro pins s σ H Q I h
  refine wpAny_Call_Name_kw (ld_glob I hg hm ?_ hdb)
  exact PySem.W.callWith_K0 I.kIn M.kp (run_make (us := []) M F hr hb hd hx I .nil h)
end
section
variable {X : Cx} {CX : CXT} {k : Nat} {f C : Addr} {fd : FuncData} {ps ks : List Str} {sp : Sp} {E : XK} {x m : Str} {p pos apos kpos : Pos} {e o : Expr} {es : List Expr} {kws : List Keyword} {te ta : TE} {t tk : TA} {nm : Option Str}
variable {g : List Value → List Value → List Value} {gV : List V → List V → List V}
end
structure FnScope (N P : List Str) (sc : Scope) : Prop where
  kind : sc.kind = .function
  co : sc.isCoroutine = false
  gen : sc.isGenerator = false
  nd : N.Nodup
  pre : N.take P.length = P
  par : ∀ x ∈ P, sc.names.lookup x = some .local ∨ sc.names.lookup x = some .cell
  nofree : ∀ y ∈ sc.names, y.2 ≠ .free
theorem bindL_out {kindOf : Str → Option NameKind} {x : Str} : ∀ {binds : List (Str × Value)} {m : Str → Option Value}, (∀ v, (x, v) ∉ binds) → bindL kindOf binds m x = m x
  | [], _, _ => rfl
  | (n, v) :: r, m, h => by
    unfold bindL
    rw [bindL_out fun w hw => h w (List.mem_cons_of_mem _ hw)]
    split
    · have : x ≠ n := by rintro rfl; exact h v List.mem_cons_self
      simp [this]
    · rfl
theorem bindC_out {kindOf : Str → Option NameKind} {x : Str} : ∀ {binds : List (Str × Value)} {m : Str → Option Value}, (∀ v, (x, v) ∉ binds) → bindC kindOf binds m x = m x
  | [], _, _ => rfl
  | (n, v) :: r, m, h => by
    unfold bindC
    rw [bindC_out fun w hw => h w (List.mem_cons_of_mem _ hw)]
    split
    · rfl
    · have : x ≠ n := by rintro rfl; exact h v List.mem_cons_self
      simp [this]
theorem bindL_get {kindOf : Str → Option NameKind} {x : Str} {v : Value} : ∀ {P : List Str} {vs : List Value} {i : Nat} {m : Str → Option Value}, P.Nodup → P[i]? = some x → vs[i]? = some v → kindOf x = some .local →
    bindL kindOf (P.zip vs) m x = some v
  | [], _, _, _, _, h, _, _ => by simp at h
  | _ :: _, [], _, _, _, _, h, _ => by simp at h
  | p :: P, w :: vs, 0, m, nd, h1, h2, hk => by
    simp at h1 h2; subst h1; subst h2
    show bindL kindOf ((p, w) :: P.zip vs) m p = _
    unfold bindL
    rw [bindL_out fun v hv => (List.nodup_cons.mp nd).1 (List.of_mem_zip hv).1, if_pos hk]
    simp
  | p :: P, w :: vs, i + 1, m, nd, h1, h2, hk => by
    show bindL kindOf ((p, w) :: P.zip vs) m x = _
    unfold bindL
    exact bindL_get (i := i) (List.nodup_cons.mp nd).2 (by simpa using h1) (by simpa using h2) hk
theorem bindC_get {kindOf : Str → Option NameKind} {x : Str} {v : Value} : ∀ {P : List Str} {vs : List Value} {i : Nat} {m : Str → Option Value}, P.Nodup → P[i]? = some x → vs[i]? = some v → kindOf x ≠ some .local →
    bindC kindOf (P.zip vs) m x = some v
  | [], _, _, _, _, h, _, _ => by simp at h
  | _ :: _, [], _, _, _, _, h, _ => by simp at h
  | p :: P, w :: vs, 0, m, nd, h1, h2, hk => by
    simp at h1 h2; subst h1; subst h2
    show bindC kindOf ((p, w) :: P.zip vs) m p = _
    unfold bindC
    rw [bindC_out fun v hv => (List.nodup_cons.mp nd).1 (List.of_mem_zip hv).1, if_neg hk]
    simp
  | p :: P, w :: vs, i + 1, m, nd, h1, h2, hk => by
    show bindC kindOf ((p, w) :: P.zip vs) m x = _
    unfold bindC
    exact bindC_get (i := i) (List.nodup_cons.mp nd).2 (by simpa using h1) (by simpa using h2) hk
def start (N : List Str) (vs : List V) : St := vs.map some ++ List.replicate (N.length - vs.length) none
def cxOf (CX : CXT) (P : Program) (w : World) (K : PySem.W.Frag) (mg : Str → Option Value) (base : Heap) (N : List Str) (qual : Str) (scope : Scope) (f : Addr) (cd : Value) (A : Around) (outer : List Env) (s : Shared) (H : Hp) (E : XK) : Cx where
  prog := P
  w := w
  K := K
  mg := mg
  base := base
  A := A.deeper (envOfC qual scope s.heap.objs.size f cd)
  N := N
  s_0 := s
  H_0 := H
  env := envOfC qual scope s.heap.objs.size f cd
  outer := outer
  stack := envOfC qual scope s.heap.objs.size f cd :: outer
  ex := []
  calm := true
  fn := fun _ => true
  pn := []
  xe := fun e s' => wpAny (model P w) (A.deeper (envOfC qual scope s.heap.objs.size f cd)) (leaving (envOfC qual scope s.heap.objs.size f cd) e) (fun _ s'' => CX outer H s E e s'') (fun e' s'' => CX outer H s E e' s'') s'
theorem cell_has {sc : Scope} {n : Nat} {x : Str} (h : sc.names.lookup x = some .cell) : ∃ c, (cellsFrom n sc.names []).lookup x = some c := by
  have q := PySem.W.cellsFrom_some sc.names n [] (.inl h)
  exact Option.isSome_iff_exists.mp q
theorem inv_start {CX : CXT} {P : Program} {w : World} {K : PySem.W.Frag} {mg : Str → Option Value} {base : Heap} {N ps : List Str} {qual : Str} {scope : Scope} {f : Addr} {cd : Value} {A : Around} {outer : List Env} {s s1 : Shared} {H : Hp} {E : XK} {us : List Value} {vs : List V}
    (S : FnScope N ps scope) (hd : A.handled = none) (e0 : Env0 P w K mg base A outer s H) (hl : vs.length = ps.length) (r : Vals vs us)
    (x : InCallC s s.heap.objs.size (bindL (envOfC qual scope s.heap.objs.size f cd).kindOf (ps.zip us) fun _ => none) (cellsFrom (s.heap.objs.size + 1) scope.names []) (bindC (envOfC qual scope s.heap.objs.size f cd).kindOf (ps.zip us) fun _ => none) s1) :
    Inv (cxOf CX P w K mg base N qual scope f cd A outer s H E) [] (start N vs) H s1 := by
  have hpl : ps.length ≤ N.length := by have := congrArg List.length S.pre; rw [List.length_take] at this; omega
  obtain ⟨h1, tk, rfl, hk⟩ := x.done
  have noA : ∀ b : Addr, b ∉ (cxOf CX P w K mg base N qual scope f cd A outer s H E).ex := fun b z => absurd (show b ∈ ([] : List Addr) from z) (by simp)
  refine ⟨⟨e0.mod, S.kind, rfl, rfl, Nat.le_refl _, fun y z c h1 h2 => ?_, fun y hy => ?_, fun y c _ h => ?_, fun _ => hd, Around.frames_deeper e0.frames, .inr ⟨rfl, rfl⟩, fun b z => absurd z (noA b), e0.bs, e0.bsz, fun b _ _ => noA b, fun b z => absurd z (noA b), e0.funs, e0.frf⟩,
    rfl, e0.bare, Un.kept hk, ⟨_, x.toInCall.ns, fun i y v h1 h2 h3 => ?_⟩, fun y c h => ⟨_, x.cell y c h⟩, e0.hok.fresh (Nat.le_refl _), fun y c h => ?_, fun p hp => absurd (show p ∈ ([] : List (Addr × Obj)) from hp) (by simp), e0.hok.kept hk, ?_⟩
  · exact name_of_addr x.apart (PySem.mem_of_lookup h1) (PySem.mem_of_lookup h2)
  · have hy : scope.names.lookup y = some .cell ∨ scope.names.lookup y = some .free := hy
    rcases hy with hy | hy
    · exact cell_has hy
    · exact absurd rfl (S.nofree _ (PySem.mem_of_lookup hy))
  · exact Nat.le_of_lt (x.above y c (PySem.mem_of_lookup h))
  · have hi : i < vs.length := by
      unfold start at h2
      by_cases hi : i < vs.length
      · exact hi
      · rw [List.getElem?_append_right (by simpa using hi)] at h2
        rw [List.getElem?_replicate] at h2
        split at h2 <;> cases h2
    have ha : vs[i]? = some v := by
      unfold start at h2
      rw [List.getElem?_append_left (by simpa using hi), List.getElem?_map] at h2
      cases e : vs[i]? with
      | none => rw [e] at h2; cases h2
      | some a => rw [e] at h2; cases h2; rfl
    obtain ⟨u, hu, rv⟩ := r.get ha
    have hp : ps[i]? = some y := by
      rw [← S.pre, List.getElem?_take_of_lt (by omega)]; exact h1
    have ndP : ps.Nodup := by rw [← S.pre]; exact S.nd.sublist (List.take_sublist _ _)
    refine ⟨u, rv, ?_⟩
    rcases S.par y (List.mem_of_getElem? hp) with k | k
    · exact .inl ⟨k, bindL_get ndP hp hu k⟩
    · obtain ⟨c, e⟩ := cell_has (n := s.heap.objs.size + 1) k
      refine .inr ⟨.inl k, c, e, ?_⟩
      have q := x.cell y c e
      rw [bindC_get ndP hp hu (by show scope.names.lookup y ≠ _; rw [k]; decide)] at q
      exact q
  · exact e0.hok.fresh (Nat.le_of_lt (x.above y c (PySem.mem_of_lookup h)))
  · unfold start
    show _ = N.length
    rw [List.length_append, List.length_map, List.length_replicate]
    omega
theorem fn_of {CX : CXT} {P : Program} {w : World} {K : PySem.W.Frag} {mg : Str → Option Value} {base : Heap} {k : Nat} {f : Addr} {name qual : Str} {params : Arguments} {body : List Stmt} {scope : Scope} {dV kV doc pm cdv ct oc : Value} {an od : Option Addr}
    {osl : Array (Option Value)} {N ps : List Str} {sp : Sp} (lk : K.lookup f = some ⟨oc, od, .func (PySem.W.fnOf name qual params body scope dV kV doc pm an cdv ct), osl⟩) (hcd : PySem.W.codeIn K cdv qual = true) (S : FnScope N ps scope)
    (len : ∀ vs H Q E, sp vs H Q E → vs.length = ps.length)
    (hbody : ∀ (A : Around) (outer : List Env) (s : Shared) (H : Hp) (vs : List V) (Q : VK) (E : XK), Room k (A.deeper (envOfC qual scope s.heap.objs.size f cdv)) → sp vs H Q E →
      ∃ t, PSs (cxOf CX P w K mg base N qual scope f cdv A outer s H E) body t ∧ t { nx := fun _ H' => Q .non H', rt := Q } (start N vs) H) :
    FnOk P w K mg base CX (k + 1) f (PySem.W.fnOf name qual params body scope dV kV doc pm an cdv ct) ps sp := by
  refine ⟨len, fun A outer s H args us vs Q E hr e0 hb r hsp => ?_⟩
  have hl := len _ _ _ _ hsp
  have KX : K.In s.heap := e0.mod.kin.keeps fun b o e => (e0.bs b o e).1
  have lim : s.heap.NoLimit := e0.mod.nolimit.keeps fun b o e => (e0.bs b o e).1
  have hkind : ∀ y ∈ ps.zip us, scope.names.lookup y.1 = some .local ∨ (scope.names.lookup y.1 = some .cell ∧ ((cellsFrom (s.heap.objs.size + 1) scope.names []).lookup y.1).isSome = true) := fun ⟨n, v⟩ hy => by
    rcases S.par n (List.of_mem_zip hy).1 with q | q
    · exact .inl q
    · exact .inr ⟨q, PySem.W.cellsFrom_some _ _ _ (.inl q)⟩
  refine codeAny_call_function hr.depth (KX _ _ lk) rfl S.co S.gen rfl (PySem.W.codeRec_of KX hcd) (hb _ _ _ _ ?_)
  refine wpAny_newFunctionEnv_cells S.kind hkind fun env he s1 x => ?_
  subst he
  refine ⟨lim.keeps x.toInCall.keep, codeAny_func ?_⟩
  obtain ⟨t, ht, hq⟩ := hbody A outer s H vs Q E (hr.deeper _) hsp
  have I : Inv (cxOf CX P w K mg base N qual scope f cdv A outer s H E) [] (start N vs) H s1 := inv_start S hr.hd e0 hl r x
  refine wpAny_mono (ht [] s1 (start N vs) H _ I hq) (fun fl s' hs => ?_) fun e s' hs => hs
  have fin : ∀ {σ' : St} {H' : Hp} {v : V} {u : Value}, Inv (cxOf CX P w K mg base N qual scope f cdv A outer s H E) [] σ' H' s' → RelV v u → Q v H' → CE outer P w H s Q u s' :=
    fun {σ' H' v u} J rv q => ⟨v, H', J.os, J.bare, J.base, J.hok, rv, q⟩
  cases fl with
  | ret u =>
    obtain ⟨v, σ', H', J, rv, q⟩ := hs
    exact fin J rv q
  | next =>
    obtain ⟨σ', H', J, q⟩ := hs
    exact fin (v := V.non) (u := Value.none) J rfl q
  | brk =>
    obtain ⟨_, _, _, q⟩ := hs
    exact False.elim q
  | cont =>
    obtain ⟨_, _, _, q⟩ := hs
    exact False.elim q
end L2
namespace L2
open PySem PySem.Spec PyProof.Rows
section
variable {X : Cx} {x : Str} {p pos : Pos} {e : Expr} {es : List Expr} {t : TA} {id T : String} {r : List V → Hp → VK → Prop}
def tCB (r : List V → Hp → VK → Prop) (t : TA) : TE := fun σ H Q => t σ H fun vs H1 => r vs H1 Q
theorem pe_callB (hc : CallR X (.builtin id) r) (hg : Gl X x) (hm : X.mg x = none) (hv : bootBuiltins x = some (.builtin id)) (ha : PA X (e :: es) t) (hn : x ≠ "__name__" := by decide) (hdb : (x == ("__debug__" : Str)) = false := by decide)
    (he : starEach (e :: es) X.env = (false, eval e X.env) :: starEach es X.env := by rfl) (hpl : (backTo pos (starEach es X.env)).any (·.1) = false := by rfl) : PE X (.Call (.Name x p) (e :: es) [] pos) (tCB r t) := by
  intro pins s σ H Q I h
  refine wpAny_Call_Name_kw (ld_blt I hg hm hv ?_ hn hdb)
  exact PyProof.Rows.callWith_builtin1 (thn (ha pos pins s σ H _ I h) fun us s1 ⟨vs, H1, I1, r1, q1⟩ => hc pins s1 σ H1 vs us Q I1 r1 q1) he hpl
end
end L2
namespace HT
open PySem PyProof.Rows
section
open PySem.SeqAt
open PySem.AutoSeq1 (wpAny_loadPart')
open PySem.MeetsSeq PySem.MeetsSeq2 PySem.MeetsSeq3
end
section
variable {prog : Program} {w : World} {A : Around} {E : Value → Shared → Prop} {s : Shared}
def sIx (n d : Nat) : Option Int → Nat
  | none => d
  | some v => if v < 0 then (v + (n : Int)).toNat else min v.toNat n
theorem sIx_nat (n d k : Nat) : sIx n d (some (k : Int)) = min k n := by
  show (if (k : Int) < 0 then ((k : Int) + (n : Int)).toNat else min (k : Int).toNat n) = min k n
  rw [if_neg (by omega), Int.toNat_natCast]
end
end HT
namespace L2
open PySem PySem.Spec PyProof.Rows
abbrev TO := St → Hp → (Option Int → Hp → Prop) → Prop
def PO (X : Cx) (e : Option Expr) (t : TO) : Prop :=
  ∀ (pins : List (Addr × Obj)) (s : Shared) (σ : St) (H : Hp) (Q : Option Int → Hp → Prop), Inv X pins σ H s → t σ H Q →
    wpAny (model X.prog X.w) X.A (evalPart e X.env) (fun u s' => ∃ o H', Inv X pins σ H' s' ∧ IsPart u o ∧ Q o H') X.xe s
def tPart (t : TE) : TO := fun σ H Q => t σ H fun x H1 => ∃ i, x = .int i ∧ Q (some i) H1
section
variable {X : Cx} {e : Expr} {te : TE} {lo hi : Option Expr} {tl th : TO} {pos p2 : Pos}
theorem po_some (h : PE X e te) : PO X (some e) (tPart te) := by
  intro pins s σ H Q I hw
  rw [evalPart_some]
  refine thn (h pins s σ H _ I hw) fun u s1 ⟨x, H1, I1, r1, q1⟩ => ?_
  obtain ⟨i, rfl, q⟩ := q1
  obtain ⟨t, rfl⟩ := r1
  exact ⟨some i, H1, I1, .int i t, q⟩
def SlR (X : Cx) (r : V → Option Int → Option Int → Hp → VK → Prop) : Prop :=
  ∀ (pins : List (Addr × Obj)) (s : Shared) (σ : St) (H : Hp) (x : V) (v vl vu : Value) (lo hi : Option Int) (sl : Addr) (Q : VK), Inv X pins σ H s → RelV x v → s.heap.IsSliceOf sl vl vu .none → IsPart vl lo → IsPart vu hi → r x lo hi H Q →
    ∃ T id, typeLookup (.type T) "__getitem__" = pure (some (.builtin id)) ∧ s.TypeIs v T ∧ wpAny (model X.prog X.w) X.A (getItem v (.ref sl)) (EP X pins σ Q) X.xe s
def tSl (r : V → Option Int → Option Int → Hp → VK → Prop) (te : TE) (tl th : TO) : TE := fun σ H Q => te σ H fun x H1 => tl σ H1 fun l H2 => th σ H2 fun u H3 => r x l u H3 Q
theorem pe_slice {r : V → Option Int → Option Int → Hp → VK → Prop} (hr : SlR X r) (he : PE X e te) (hl : PO X lo tl) (hu : PO X hi th) : PE X (.Subscript e (.Slice lo hi none p2) pos) (tSl r te tl th) := by
  intro pins s σ H Q I h
  refine Subscript_ (thn (he pins s σ H _ I h) fun v s1 ⟨x, H1, I1, r1, q1⟩ => ?_)
  refine wpAny_Slice (thn (hl pins s1 σ H1 _ I1 q1) fun vl s2 ⟨l, H2, I2, pl, q2⟩ => thn (hu pins s2 σ H2 _ I2 q2) fun vu s3 ⟨u, H3, I3, pu, q3⟩ => ?_)
  rw [evalPart_none]
  refine wpAny_pure ?_
  have I4 : Inv X pins σ H3 { s3 with heap := s3.heap.push { cls := .type "slice", data := .fields #[vl, vu, .none] } } := I3.kept (t' := s3.toks) fun b ob q => Heap.get?_push_of_some _ q
  obtain ⟨T, id, hT, ht, hg⟩ := hr pins { s3 with heap := s3.heap.push { cls := .type "slice", data := .fields #[vl, vu, .none] } } σ H3 x v vl vu l u s3.heap.objs.size Q I4 r1 (Heap.IsSliceOf.new ..) pl pu q3
  show wpAny (model X.prog X.w) X.A (subscriptTail e (.Slice lo hi none p2) v (.ref s3.heap.objs.size)) (EP X pins σ Q) X.xe { s3 with heap := s3.heap.push { cls := .type "slice", data := .fields #[vl, vu, .none] } }
  exact tail_any (ops := [.ref s3.heap.objs.size, v]) ht hT hg (by with_unfolding_all rfl)
def cutV (xs : List V) (lo hi : Option Int) : List V := (xs.drop (HT.sIx xs.length 0 lo)).take (HT.sIx xs.length xs.length hi - HT.sIx xs.length 0 lo)
theorem cutV_length (xs : List V) (lo hi : Option Int) : (cutV xs lo hi).length ≤ xs.length := by
  unfold cutV
  rw [List.length_take, List.length_drop]
  omega
end
end L2
namespace L2
open PySem PySem.Spec PyProof.Rows
def ixN (n : Nat) (i : Int) : Option Nat := if 0 ≤ i then (if i < n then some i.toNat else none) else if -(n : Int) ≤ i then some (i + n).toNat else none
def atI {α : Type} (xs : List α) (i : Int) : Option α := (ixN xs.length i).bind fun j => xs[j]?
theorem ixN_seq {n : Nat} {i : Int} {j : Nat} (h : ixN n i = some j) : seqIndex? i n = some j ∧ j < n ∧ -(n : Int) ≤ i ∧ i < n := by
  unfold ixN at h
  by_cases h0 : 0 ≤ i
  · rw [if_pos h0] at h
    by_cases h1 : i < n
    · rw [if_pos h1] at h
      have e : i.toNat = j := Option.some.inj h
      exact ⟨by rw [seqIndex_of h0 h1, e], by omega, by omega, h1⟩
    · rw [if_neg h1] at h; cases h
  · rw [if_neg h0] at h
    by_cases h1 : -(n : Int) ≤ i
    · rw [if_pos h1] at h
      have e : (i + n).toNat = j := Option.some.inj h
      exact ⟨by rw [seqIndex_neg (by omega) h1, e], by omega, h1, by omega⟩
    · rw [if_neg h1] at h; cases h
theorem atI_get {α : Type} {xs : List α} {i : Int} {v : α} (h : atI xs i = some v) : ∃ j, seqIndex? i xs.length = some j ∧ xs[j]? = some v ∧ j < xs.length ∧ -(xs.length : Int) ≤ i ∧ i < xs.length := by
  unfold atI at h
  cases e : ixN xs.length i with
  | none => rw [e] at h; cases h
  | some j =>
    rw [e] at h
    obtain ⟨h1, h2, h3, h4⟩ := ixN_seq e
    exact ⟨j, h1, h, h2, h3, h4⟩
theorem atI_nat {α : Type} {xs : List α} {j : Nat} {v : α} (h : xs[j]? = some v) : atI xs (j : Int) = some v := by
  have hj : j < xs.length := (List.getElem?_eq_some_iff.mp h).1
  have e : ixN xs.length (j : Int) = some j := by
    unfold ixN
    rw [if_pos (by omega), if_pos (by omega)]; simp
  unfold atI; rw [e]; exact h
def PlainIx (b : Expr) : Prop := ∀ o i, subscripted b false o i = operate [o, i] (getItem o i)
def IxR (X : Cx) (r : R2) : Prop :=
  ∀ (value slice : Expr) (pins : List (Addr × Obj)) (s : Shared) (σ : St) (H : Hp) (x y : V) (v u : Value) (Q : VK), Inv X pins σ H s → RelV x v → RelV y u → r x y H Q →
    subscripted slice false v u = operate [v, u] (getItem v u) → wpAny (model X.prog X.w) X.A (subscriptTail value slice v u) (EP X pins σ Q) X.xe s
def MtR (X : Cx) (id : String) (r : V → List V → Hp → VK → Prop) : Prop :=
  ∀ (pins : List (Addr × Obj)) (s : Shared) (σ : St) (H : Hp) (x : V) (xs : List V) (v : Value) (us : List Value) (Q : VK), Inv X pins σ H s → RelV x v → Vals xs us → r x xs H Q →
    wpAny (model X.prog X.w) X.A (call (.builtin id) (v :: us)) (EP X pins σ Q) X.xe s
section
variable {X : Cx} {a b : Expr} {ta tb : TE} {pos : Pos}
theorem pe_ix {r : R2} (hr : IxR X r) (ha : PE X a ta) (hb : PE X b tb) (hs : PlainIx b) : PE X (.Subscript a b pos) (tOp r ta tb) := by
  intro pins s σ H Q I h
  exact Subscript_ (binT ha hb I h fun v u s2 x y H2 I2 rx ry q => hr a b pins s2 σ H2 x y v u Q I2 rx ry q (hs _ _))
def rIxL (K : PySem.W.Frag) : R2 := fun x y H Q => ∃ p xs i v, x = .ref p ∧ y = .int i ∧ SqL K H p xs ∧ atI xs i = some v ∧ Q v H
def rIxS : R2 := fun x y H Q => ∃ z i c, x = .str z ∧ y = .int i ∧ z.length ≤ sizeLine ∧ atI z.cps.toList i = some c ∧ Q (.str ⟨#[c]⟩) H
theorem ix_list : IxR X (rIxL X.K) := by
  intro value slice pins s σ H x y v u Q I rx ry h hs
  obtain ⟨p, xs, i, z, rfl, rfl, hq, he, q⟩ := h
  cases rx
  obtain ⟨t, rfl⟩ := ry
  obtain ⟨its, r, pl, hz⟩ := I.list hq
  obtain ⟨j, h1, h2, h3, h4, h5⟩ := atI_get he
  obtain ⟨w, ew, rw'⟩ := r.get h2
  have hl := r.length
  have hn := line63
  have fin : EP X pins σ Q w s := ⟨z, H, I, rw', q⟩
  by_cases h0 : 0 ≤ i
  · have hj : i.toNat = j := by
      rw [seqIndex_of h0 h5] at h1
      exact Option.some.inj h1
    exact item_listR pl.isList h0 (by omega) (by rw [hj]; simpa using ew) fin hs
  · have hj : (i + (its.toArray.size : Int)).toNat = j := by
      rw [seqIndex_neg (by omega) h4] at h1
      rw [List.size_toArray, ← hl]
      exact Option.some.inj h1
    exact subscriptTail_builtinR (x := w) pl.isList.typeIs slot_list_getitem.lookup
      (wpAny_getItem_list_neg (Q := fun r s' => r = w ∧ EP X pins σ Q r s') pl.isList (by omega) (by rw [List.size_toArray] <;> omega) (by omega) (by rw [hj]; simpa using ew) ⟨rfl, fin⟩) hs
theorem ix_str : IxR X rIxS := by
  intro value slice pins s σ H x y v u Q I rx ry h hs
  obtain ⟨z, i, c, rfl, rfl, hz, he, q⟩ := h
  obtain ⟨t, rfl⟩ := rx
  obtain ⟨t', rfl⟩ := ry
  obtain ⟨j, h1, h2, h3, h4, h5⟩ := atI_get he
  have hl : z.cps.toList.length = z.length := by simp [Str.length]
  rw [hl] at h1 h4 h5
  have hn := line63
  exact tail_any (typeIs_str s z t) slot_str_getitem.lookup (getItem_str (c := c) (by
    have e1 : decide (i < -(2 ^ 63 : Int)) = false := decide_eq_false (by omega)
    have e2 : decide (i ≥ 2 ^ 63) = false := decide_eq_false (by omega)
    rw [e1, e2, Bool.or_false]) (by rw [h1]; simpa using h2) ⟨.str ⟨#[c]⟩, H, I.tok _, ⟨_, rfl⟩, q⟩) hs
theorem slice_bounds (lo hi : Option Int) (n : Nat) : (sliceBounds lo hi none n).1 = ((HT.sIx n 0 lo : Nat) : Int) ∧ (sliceBounds lo hi none n).2.1 = ((HT.sIx n n hi : Nat) : Int) ∧ (sliceBounds lo hi none n).2.2 = 1 := by
  refine ⟨?_, ?_, rfl⟩
  · cases lo with
    | none => simp [sliceBounds, HT.sIx]
    | some i =>
      simp only [sliceBounds, HT.sIx, Option.getD_none, show (1 : Int) > 0 by decide, if_true]
      by_cases h : i < 0
      · simp only [h, if_true] <;> omega
      · simp only [h, if_false] <;> omega
  · cases hi with
    | none => simp [sliceBounds, HT.sIx]
    | some i =>
      simp only [sliceBounds, HT.sIx, Option.getD_none, show (1 : Int) > 0 by decide, if_true]
      by_cases h : i < 0
      · simp only [h, if_true] <;> omega
      · simp only [h, if_false] <;> omega
theorem slicePick_cut (its : List Value) (lo hi : Option Int) : slicePick its.toArray lo hi none = ((its.drop (HT.sIx its.length 0 lo)).take (HT.sIx its.length its.length hi - HT.sIx its.length 0 lo)).toArray := by
  obtain ⟨h1, h2, h3⟩ := slice_bounds lo hi its.toArray.size
  unfold slicePick
  rw [h1, h2, h3]
  simp only [sliceRange_one, pick_run, List.size_toArray] <;> rfl
def rSlL (K : PySem.W.Frag) : V → Option Int → Option Int → Hp → VK → Prop := fun x lo hi H Q => ∃ a xs, x = .ref a ∧ SqL K H a xs ∧ ∀ p, H p = none → Q (.ref p) (upd H p (.lst (cutV xs lo hi)))
theorem sl_list : SlR X (rSlL X.K) := by
  intro pins s σ H x v vl vu lo hi sl Q I rx hs pl pu h
  obtain ⟨a, xs, rfl, hx, q⟩ := h
  cases rx
  obtain ⟨its, r, ht, hz⟩ := I.list hx
  have hlen := r.length
  refine ⟨"list", _, slot_list_getitem.lookup, ht.isList.typeIs, ?_⟩
  refine wpAny_getItem_list_slice ht.isList hs pl pu .none (by simp) ?_ (by rw [List.size_toArray] <;> omega)
  rw [slicePick_cut, ← hlen]
  refine ⟨.ref s.heap.objs.size, _, I.laid (t' := s.toks) (o := .lst (cutV xs lo hi)) (fun b ob q => Heap.get?_push_of_some _ q) (Nat.le_refl _) ?_, rfl, q _ (I.hok.fresh (Nat.le_refl _))⟩
  exact ⟨Nat.le_trans (cutV_length xs lo hi) hz, _, 0, (r.drop (HT.sIx xs.length 0 lo)).take (HT.sIx xs.length xs.length hi - HT.sIx xs.length 0 lo), Heap.get?_push_size _ rfl⟩
def flatV : V → Bool
  | .non => true
  | .bl _ => true
  | .int _ => true
  | .str _ => true
  | _ => false
def eqV : V → V → Bool
  | .non, .non => true
  | .bl a, .bl b => a == b
  | .bl a, .int b => (if a then 1 else 0) == b
  | .int a, .bl b => a == (if b then 1 else 0)
  | .int a, .int b => a == b
  | .str a, .str b => a == b
  | _, _ => false
theorem eqAt_V {A : Around} {s : Shared} {y x : V} {u v : Value} (ry : RelV y u) (rx : RelV x v) (fy : flatV y = true) (fx : flatV x = true) : SeqAt.EqAt A s u v (eqV y x) := by
  cases y with
  | non =>
    cases ry
    cases x with
    | non => cases rx; exact SeqAt.EqAt.same _
    | bl b => cases rx; exact SeqAt.EqAt.none_bool b
    | int b => obtain ⟨t, rfl⟩ := rx; exact SeqAt.EqAt.none_int b t
    | str b => obtain ⟨t, rfl⟩ := rx; exact SeqAt.EqAt.none_str b t
    | _ => exact absurd (show false = true from fx) Bool.false_ne_true
  | bl a =>
    cases ry
    cases x with
    | non => cases rx; exact SeqAt.EqAt.bool_none a
    | bl b => cases rx; exact SeqAt.EqAt.bool_bool a b
    | int b => obtain ⟨t, rfl⟩ := rx; exact SeqAt.EqAt.bool_int a b t
    | str b => obtain ⟨t, rfl⟩ := rx; exact SeqAt.EqAt.bool_str a b t
    | _ => exact absurd (show false = true from fx) Bool.false_ne_true
  | int a =>
    obtain ⟨t', rfl⟩ := ry
    cases x with
    | non => cases rx; exact SeqAt.EqAt.int_none a t'
    | bl b => cases rx; exact SeqAt.EqAt.int_bool a t' b
    | int b => obtain ⟨t, rfl⟩ := rx; exact SeqAt.EqAt.int_int a t' b t
    | str b => obtain ⟨t, rfl⟩ := rx; exact SeqAt.EqAt.int_str a t' b t
    | _ => exact absurd (show false = true from fx) Bool.false_ne_true
  | str a =>
    obtain ⟨t', rfl⟩ := ry
    cases x with
    | non => cases rx; exact SeqAt.EqAt.str_none a t'
    | bl b => cases rx; exact SeqAt.EqAt.str_bool a t' b
    | int b => obtain ⟨t, rfl⟩ := rx; exact SeqAt.EqAt.str_int a t' b t
    | str b => obtain ⟨t, rfl⟩ := rx; exact SeqAt.EqAt.str_str a t' b t
    | _ => exact absurd (show false = true from fx) Bool.false_ne_true
  | _ => exact absurd (show false = true from fy) Bool.false_ne_true
def eqU (x : V) (u : Value) : Bool := match u with
  | .none => eqV .non x
  | .bool b => eqV (.bl b) x
  | .int i _ => eqV (.int i) x
  | .str z _ => eqV (.str z) x
  | _ => false
theorem eqU_of {x y : V} {u : Value} (r : RelV y u) (f : flatV y = true) : eqU x u = eqV y x := by
  cases y with
  | non => cases r; rfl
  | bl b => cases r; rfl
  | int i => obtain ⟨t, rfl⟩ := r; rfl
  | str z => obtain ⟨t, rfl⟩ := r; rfl
  | _ => exact absurd (show false = true from f) Bool.false_ne_true
theorem any_eqU {x : V} : ∀ {xs : List V} {us : List Value}, Vals xs us → xs.all flatV = true → us.any (eqU x) = xs.any fun y => eqV y x
  | _, _, .nil, _ => rfl
  | y :: xs, u :: us, .cons r t, f => by
    rw [List.all_cons, Bool.and_eq_true] at f
    rw [List.any_cons, List.any_cons, eqU_of r f.1, any_eqU t f.2]
theorem mem_eqAt {A : Around} {s : Shared} {x : V} {v : Value} (rx : RelV x v) (fx : flatV x = true) : ∀ {xs : List V} {us : List Value}, Vals xs us → xs.all flatV = true → ∀ u ∈ us, SeqAt.EqAt A s u v (eqU x u)
  | _, _, .nil, _ => fun u hu => by cases hu
  | y :: xs, u :: us, .cons r t, f => fun u' hu => by
    rw [List.all_cons, Bool.and_eq_true] at f
    rcases List.mem_cons.mp hu with rfl | hu
    · rw [eqU_of r f.1]; exact eqAt_V r rx f.1 fx
    · exact mem_eqAt rx fx t f.2 u' hu
def inV (x : V) (xs : List V) : Bool := xs.any fun y => eqV y x
def rIn (K : PySem.W.Frag) (neg : Bool) : R2 := fun x y H Q => ∃ p xs, y = .ref p ∧ (SqL K H p xs ∨ SqT K H p xs) ∧ flatV x = true ∧ xs.all flatV = true ∧ Q (.bl (if neg then !inV x xs else inV x xs)) H
theorem op_in_seq : OpR X (compareOp .In) (rIn X.K false) := by
  intro pins s σ H x y v u Q I rx ry h
  obtain ⟨p, xs, rfl, hq, fx, fs, q⟩ := h
  cases ry
  rcases hq with hq | hq
  · obtain ⟨its, r, pl, hz⟩ := I.list hq
    refine SeqAt.in_listAt (eqU x) pl.isList (fun w hw => mem_eqAt rx fx r fs w (by simpa using hw)) ⟨.bl _, H, I, rfl, ?_⟩
    rw [show its.toArray.any (eqU x) = its.any (eqU x) by simp, any_eqU r fs]
    exact q
  · obtain ⟨its, r, pl, hz⟩ := I.tuple hq
    refine SeqAt.in_tupleAt (eqU x) pl (fun w hw => mem_eqAt rx fx r fs w (by simpa using hw)) ⟨.bl _, H, I, rfl, ?_⟩
    rw [show its.toArray.any (eqU x) = its.any (eqU x) by simp, any_eqU r fs]
    exact q
theorem call_len_seq : CallR X (.builtin "len") (fun xs H Q => ∃ p ys, xs = [.ref p] ∧ (SqL X.K H p ys ∨ SqT X.K H p ys) ∧ Q (.int ys.length) H) := by
  intro pins s σ H xs us Q I r h
  obtain ⟨p, ys, rfl, hq, q⟩ := h
  obtain ⟨u, rfl, rx⟩ := vals1 r
  cases rx
  have hn := line63
  rcases hq with hq | hq
  · obtain ⟨its, r', pl, hz⟩ := I.list hq
    have hlen := r'.length
    exact Calls.call_len_list pl.isList (by simp only [List.size_toArray] <;> omega) ⟨.int ys.length, H, I.tok _, ⟨s.toks + 1, by rw [List.size_toArray, hlen]⟩, q⟩
  · obtain ⟨its, r', pl, hz⟩ := I.tuple hq
    have hlen := r'.length
    exact len_tuple pl (by simp only [List.size_toArray] <;> omega) ⟨.int ys.length, H, I.tok _, ⟨s.toks + 1, by rw [List.size_toArray, hlen]⟩, q⟩
theorem call_len_str : CallR X (.builtin "len") (fun xs H Q => ∃ z, xs = [.str z] ∧ z.length ≤ sizeLine ∧ Q (.int z.length) H) := by
  intro pins s σ H xs us Q I r h
  obtain ⟨z, rfl, hz, q⟩ := h
  obtain ⟨u, rfl, t, rfl⟩ := vals1 r
  have hn := line63
  exact len_str (by omega) ⟨.int z.length, H, I.tok _, ⟨_, rfl⟩, q⟩
variable {o e : Expr} {es : List Expr} {to : TE} {t : TA} {name : Str} {apos cpos : Pos} {T id : String} {r : V → List V → Hp → VK → Prop}
end
end L2
namespace L2
open PySem PySem.Spec PyProof.Rows
section
variable {X : Cx} {pins : List (Addr × Obj)} {σ : St} {H : Hp} {s : Shared} {l b : Addr} {xs ys zs : List V}
end
section
variable {X : Cx}
end
section
variable {prog : Program} {w : World} {A : Around} {E : Value → Shared → Prop} {s : Shared}
set_option maxRecDepth 100000 in
end
section
variable {X : Cx}
end
end L2
namespace L2
open PySem PySem.Spec PyProof.Rows
section
variable {prog : Program} {w : World} {A : Around} {E : Value → Shared → Prop} {s : Shared} {l : Addr} {its : List Value} {ns : List Int} {Q : Value → Shared → Prop}
end
section
variable {X : Cx}
end
section
variable {X : Cx}
end
section
variable {X : Cx}
end
section
variable {X : Cx}
end
section
variable {X : Cx} {pins : List (Addr × Obj)} {σ : St} {H : Hp} {s : Shared}
end
section
variable {X : Cx}
end
end L2
namespace L2
open PySem PySem.Spec PyProof.Rows
abbrev CellAt (h : Heap) (c : Addr) (v : Option Value) : Prop := h.IsCell c v
def relS (scope sc : Scope) : Scope :=
  { scope with names := scope.names.map fun (n, k) => if (k == .free && sc.kind == .function && sc.names.lookup n == some .cell) then (n, .cell) else (n, k) }
def cloFrom (cells : List (Str × Addr)) : List (Str × NameKind) → List (Str × Addr) → List (Str × Addr)
  | [], acc => acc
  | (n, k) :: r, acc => if k == .free then cloFrom cells r ((n, (cells.lookup n).getD 0) :: acc) else cloFrom cells r acc
theorem closure_loop (env : Env) (f : Str × NameKind → List (Str × Addr) → Sem (ForInStep (List (Str × Addr))))
    (hf : ∀ n k c, f (n, k) c = if k == .free then (do let a ← cellOf env n; pure (.yield ((n, a) :: c))) else pure (.yield c)) :
    ∀ (names : List (Str × NameKind)) (acc : List (Str × Addr)), (∀ y ∈ names, y.2 = .free → ∃ c, env.cells.lookup y.1 = some c) → forIn names acc f = pure (cloFrom env.cells names acc)
  | [], acc, _ => by rw [List.forIn_nil]; rfl
  | (n, k) :: r, acc, h => by
    rw [List.forIn_cons, hf]
    have ih := fun acc => closure_loop env f hf r acc fun y hy => h y (List.mem_cons_of_mem _ hy)
    unfold cloFrom
    by_cases hk : (k == NameKind.free) = true
    · rw [if_pos hk, if_pos hk]
      obtain ⟨c, hc⟩ := h (n, k) List.mem_cons_self (by simpa using hk)
      have e : cellOf env n = pure c := by unfold cellOf; rw [hc]
      rw [e]
      have e2 : (env.cells.lookup n).getD 0 = c := by rw [hc]; rfl
      rw [e2]
      exact ih _
    · rw [if_neg hk, if_neg hk]
      exact ih _
theorem closure_ok {scope : Scope} {env : Env} (h : ∀ y ∈ scope.names, y.2 = .free → ∃ c, env.cells.lookup y.1 = some c) : closureFor scope env = pure (cloFrom env.cells scope.names []) := by
  simp only [closureFor]
  rw [closure_loop env _ (fun n k c => rfl) scope.names [] h]
  rfl
theorem mem_lookup {α : Type} : ∀ {l : List (Str × α)} {n : Str} {c : α}, (n, c) ∈ l → ∃ c', l.lookup n = some c'
  | (k, v) :: r, n, c, h => by
    rw [List.lookup_cons]
    cases hb : n == k with
    | true => exact ⟨_, rfl⟩
    | false =>
      rcases List.mem_cons.mp h with e | h
      · cases e; simp at hb
      · exact mem_lookup h
theorem cloFrom_mem {cells : List (Str × Addr)} : ∀ {names : List (Str × NameKind)} {acc : List (Str × Addr)} {n : Str} {c : Addr}, (n, c) ∈ cloFrom cells names acc → (n, c) ∈ acc ∨ ((n, .free) ∈ names ∧ c = (cells.lookup n).getD 0)
  | [], _, _, _, h => .inl h
  | (m, k) :: r, acc, n, c, h => by
    unfold cloFrom at h
    split at h
    · rename_i hk
      have hk : k = .free := by simpa using hk
      rcases cloFrom_mem h with h | ⟨h1, h2⟩
      · rcases List.mem_cons.mp h with e | h
        · cases e; exact .inr ⟨hk ▸ List.mem_cons_self, rfl⟩
        · exact .inl h
      · exact .inr ⟨List.mem_cons_of_mem _ h1, h2⟩
    · rcases cloFrom_mem h with h | ⟨h1, h2⟩
      · exact .inl h
      · exact .inr ⟨List.mem_cons_of_mem _ h1, h2⟩
theorem cloFrom_acc {cells : List (Str × Addr)} : ∀ {names : List (Str × NameKind)} {acc : List (Str × Addr)} {p : Str × Addr}, p ∈ acc → p ∈ cloFrom cells names acc
  | [], _, _, h => h
  | (m, k) :: r, acc, p, h => by
    unfold cloFrom
    split
    · exact cloFrom_acc (List.mem_cons_of_mem _ h)
    · exact cloFrom_acc h
theorem cloFrom_has {cells : List (Str × Addr)} : ∀ {names : List (Str × NameKind)} {acc : List (Str × Addr)} {n : Str}, (n, .free) ∈ names → (n, (cells.lookup n).getD 0) ∈ cloFrom cells names acc
  | (m, k) :: r, acc, n, h => by
    unfold cloFrom
    rcases List.mem_cons.mp h with e | h
    · cases e
      exact cloFrom_acc List.mem_cons_self
    · split
      · exact cloFrom_has h
      · exact cloFrom_has h
theorem cells_mem : ∀ {names : List (Str × NameKind)} {h : Heap} {acc : List (Str × Addr)} {x : Str} {c : Addr}, (x, c) ∈ cellsFrom h.objs.size names acc →
    (x, c) ∈ acc ∨ ((x, .cell) ∈ names ∧ h.objs.size ≤ c ∧ CellAt (pushCells h names) c none)
  | [], _, _, _, _, h => .inl h
  | (n, k) :: r, h, acc, x, c, hm => by
    unfold cellsFrom at hm
    unfold pushCells
    split at hm
    · rename_i hk
      rw [if_pos hk]
      have hk : k = .cell := by simpa using hk
      rw [← Heap.size_push h { cls := .type "cell", data := .cell none }] at hm
      rcases cells_mem hm with hm | ⟨h1, h2, h3⟩
      · rcases List.mem_cons.mp hm with e | hm
        · cases e
          exact .inr ⟨hk ▸ List.mem_cons_self, Nat.le_refl _, _, pushCells_keeps r _ _ _ (Heap.get?_push_size _ rfl), rfl⟩
        · exact .inl hm
      · rw [Heap.size_push] at h2
        exact .inr ⟨List.mem_cons_of_mem _ h1, Nat.le_of_succ_le h2, h3⟩
    · rename_i hk
      rw [if_neg hk]
      rcases cells_mem hm with hm | ⟨h1, h2, h3⟩
      · exact .inl hm
      · exact .inr ⟨List.mem_cons_of_mem _ h1, h2, h3⟩
theorem cells_acc : ∀ {names : List (Str × NameKind)} {n : Nat} {acc : List (Str × Addr)} {p : Str × Addr}, p ∈ acc → p ∈ cellsFrom n names acc
  | [], _, _, _, h => h
  | (m, k) :: r, n, acc, p, h => by
    unfold cellsFrom
    split
    · exact cells_acc (List.mem_cons_of_mem _ h)
    · exact cells_acc h
theorem cells_has : ∀ {names : List (Str × NameKind)} {n : Nat} {acc : List (Str × Addr)} {x : Str}, (x, .cell) ∈ names → ∃ c, (x, c) ∈ cellsFrom n names acc
  | (m, k) :: r, n, acc, x, h => by
    unfold cellsFrom
    rcases List.mem_cons.mp h with e | h
    · cases e
      exact ⟨n, cells_acc List.mem_cons_self⟩
    · split
      · exact cells_has h
      · exact cells_has h
theorem cells_inj : ∀ {names : List (Str × NameKind)} {h : Heap} {acc : List (Str × Addr)} {x y : Str} {c : Addr}, (∀ p ∈ acc, p.2 < h.objs.size) → (∀ x y c, (x, c) ∈ acc → (y, c) ∈ acc → x = y) →
    (x, c) ∈ cellsFrom h.objs.size names acc → (y, c) ∈ cellsFrom h.objs.size names acc → x = y
  | [], _, _, _, _, _, _, hi, h1, h2 => hi _ _ _ h1 h2
  | (n, k) :: r, h, acc, x, y, c, hl, hi, h1, h2 => by
    unfold cellsFrom at h1 h2
    split at h1
    · rename_i hk
      rw [if_pos hk] at h2
      rw [← Heap.size_push h { cls := .type "cell", data := .cell none }] at h1 h2
      refine cells_inj (h := h.push _) (fun p hp => ?_) (fun x y c a b => ?_) h1 h2
      · rw [Heap.size_push]
        rcases List.mem_cons.mp hp with rfl | hp
        · exact Nat.lt_succ_self _
        · exact Nat.lt_succ_of_lt (hl p hp)
      · rcases List.mem_cons.mp a with e | a <;> rcases List.mem_cons.mp b with e' | b
        · cases e; cases e'; rfl
        · cases e; exact absurd (hl _ b) (Nat.lt_irrefl _)
        · cases e'; exact absurd (hl _ a) (Nat.lt_irrefl _)
        · exact hi _ _ _ a b
    · rename_i hk
      rw [if_neg hk] at h2
      exact cells_inj hl hi h1 h2
theorem newEnv_comp {M : Model} {A : Around} {E : Value → Shared → Prop} {s : Shared} {scope : Scope} {globals : Addr} {closure : List (Str × Addr)} {qual : Str} {func : Option Addr} {code : Value} {around : Env} {builtins : Addr} {Q : Env → Shared → Prop}
    (h : Q (newEnv scope s.heap.objs.size globals (cellsFrom (s.heap.objs.size + 1) scope.names closure) qual func code (some around) builtins)
      { s with heap := pushCells (s.heap.push { cls := .type "dict", data := .dict #[] }) scope.names }) :
    wpAny M A (newFunctionEnv scope globals closure [] qual func code (some around) builtins) Q E s := by
  simp only [newFunctionEnv, Option.isSome_some, if_true]
  refine wpAny_bind (wpAny_alloc ?_)
  refine wpAny_bind (wpAny_layCells _ (fun n k c => rfl) scope.names closure _ _ ?_)
  rw [show ({ s with heap := s.heap.push { cls := .type "dict", data := .dict #[] } } : Shared).heap.objs.size = s.heap.objs.size + 1 from Heap.size_push ..]
  rw [List.forIn_nil]
  exact wpAny_bind (wpAny_pure (wpAny_pure h))
theorem lookup_relS {sc : Scope} : ∀ {names : List (Str × NameKind)} {x : Str} {k : NameKind},
    (names.map fun (n, k) => if (k == NameKind.free && sc.kind == .function && sc.names.lookup n == some .cell) then (n, NameKind.cell) else (n, k)).lookup x = some k →
    ∃ k', names.lookup x = some k' ∧ (k = k' ∨ (k' = .free ∧ k = .cell))
  | [], _, _, h => by simp at h
  | (n, k₀) :: r, x, k, h => by
    have ih := @lookup_relS sc r x k
    have h' : List.lookup x ((if (k₀ == NameKind.free && sc.kind == .function && sc.names.lookup n == some .cell) = true then (n, NameKind.cell) else (n, k₀)) :: (r.map _)) = some k := h
    cases hx : x == n with
    | true =>
      simp only [List.lookup_cons, hx]
      by_cases hc : (k₀ == NameKind.free && sc.kind == .function && sc.names.lookup n == some .cell) = true
      · rw [if_pos hc] at h'
        simp only [List.lookup_cons, hx] at h'
        cases h'
        simp only [Bool.and_eq_true, beq_iff_eq] at hc
        exact ⟨k₀, rfl, .inr ⟨hc.1.1, rfl⟩⟩
      · rw [if_neg hc] at h'
        simp only [List.lookup_cons, hx] at h'
        cases h'
        exact ⟨_, rfl, .inl rfl⟩
    | false =>
      simp only [List.lookup_cons, hx]
      by_cases hc : (k₀ == NameKind.free && sc.kind == .function && sc.names.lookup n == some .cell) = true
      · rw [if_pos hc] at h'
        simp only [List.lookup_cons, hx] at h'
        exact ih h'
      · rw [if_neg hc] at h'
        simp only [List.lookup_cons, hx] at h'
        exact ih h'
structure BlkOk (N : List Str) (sc scope : Scope) (own : List (Str × Nat)) : Prop where
  kind : scope.kind = .function
  uniq : ∀ y ∈ scope.names, scope.names.lookup y.1 = some y.2
  ix : ∀ p ∈ own, N[p.2]? = some p.1
  free : ∀ y ∈ scope.names, y.2 = .free → sc.names.lookup y.1 = some .cell ∨ sc.names.lookup y.1 = some .free
  own : ∀ y ∈ scope.names, y.2 = .local ∨ y.2 = .cell → y.1 ∈ own.map (·.1) ∨ y.1 ∉ N
def wipe (σ : St) : List Nat → St
  | [] => σ
  | v :: vs => (wipe σ vs).set v none
theorem wipe_length (σ : St) : ∀ vs : List Nat, (wipe σ vs).length = σ.length
  | [] => rfl
  | v :: vs => by unfold wipe; rw [List.length_set, wipe_length σ vs]
theorem wipe_some {σ : St} {i : Nat} {x : V} : ∀ {vs : List Nat}, (wipe σ vs)[i]? = some (some x) → σ[i]? = some (some x) ∧ i ∉ vs
  | [], h => ⟨h, by simp⟩
  | v :: vs, h => by
    unfold wipe at h
    by_cases hi : v = i
    · subst hi
      by_cases hv : v < (wipe σ vs).length
      · rw [List.getElem?_set_self hv] at h; cases h
      · rw [List.getElem?_eq_none (by simpa using hv)] at h; cases h
    · rw [List.getElem?_set_ne hi] at h
      obtain ⟨h1, h2⟩ := wipe_some h
      exact ⟨h1, by simp only [List.mem_cons, not_or]; exact ⟨fun e => hi e.symm, h2⟩⟩
abbrev Cx.blk (X : Cx) (s : Shared) (H : Hp) (scope : Scope) (cenv : Env) (fp : List Addr) : Cx := { X with s_0 := s, H_0 := H, env := cenv, outer := X.stack, ex := fp, fn := fun x => scope.names.lookup x == some .cell, pn := [], xe := fun _ _ => False }
section
variable {X : Cx} {pins : List (Addr × Obj)} {σ : St} {H : Hp} {s : Shared}
theorem block_start {scope : Scope} {own : List (Str × Nat)} {fp : List Addr} (I : Inv X pins σ H s) (ok : BlkOk X.N X.env.scope scope own) (hN : X.N.Nodup) (hfp : ∀ b ∈ fp, FpOk X pins H b ∧ b < s.heap.objs.size) :
    Inv (X.blk s H scope (compEnvC scope (cellsFrom (s.heap.objs.size + 1) scope.names (cloFrom X.env.cells scope.names [])) s.heap.objs.size X.env) fp) [] (wipe σ (own.map (·.2))) H { s with heap := pushCells (s.heap.push { cls := .type "dict", data := .dict #[] }) scope.names } := by
  have hfree : ∀ y ∈ scope.names, y.2 = .free → ∃ c, X.env.cells.lookup y.1 = some c := fun y hy e => by
    rcases ok.free y hy e with k | k
    · exact I.ok.has _ (.inl k)
    · exact I.ok.has _ (.inr k)
  generalize hcenv : compEnvC scope (cellsFrom (s.heap.objs.size + 1) scope.names (cloFrom X.env.cells scope.names [])) s.heap.objs.size X.env = cenv
  have kp : ∀ b o, s.heap.get? b = some o → (pushCells (s.heap.push { cls := .type "dict", data := .dict #[] }) scope.names).get? b = some o := fun b o e => pushCells_keeps _ _ _ _ (Heap.get?_push_of_some _ e)
  have hL : cenv.locals = s.heap.objs.size := by rw [← hcenv]; rfl
  have hcl : cenv.cells = cellsFrom (s.heap.objs.size + 1) scope.names (cloFrom X.env.cells scope.names []) := by rw [← hcenv]; rfl
  have hsc : cenv.scope = relS scope X.env.scope := by rw [← hcenv]; rfl
  rw [← Heap.size_push s.heap { cls := .type "dict", data := .dict #[] }] at hcl
  have cm : ∀ {y c}, (y, c) ∈ cloFrom X.env.cells scope.names [] → X.env.cells.lookup y = some c ∧ c < s.heap.objs.size := fun {y c} hm => by
    rcases cloFrom_mem hm with hm | ⟨h1, rfl⟩
    · cases hm
    · obtain ⟨c, hc⟩ := hfree _ h1 rfl
      rw [hc]
      obtain ⟨w, z⟩ := I.cell _ _ hc
      exact ⟨rfl, z.lt⟩
  have mem : ∀ {y c}, cenv.cells.lookup y = some c → (X.env.cells.lookup y = some c ∧ c < s.heap.objs.size) ∨ (s.heap.objs.size + 1 ≤ c ∧ CellAt (pushCells (s.heap.push { cls := .type "dict", data := .dict #[] }) scope.names) c none) := fun {y c} e => by
    rw [hcl] at e
    rcases cells_mem (PySem.mem_of_lookup e) with hm | ⟨_, h2, h3⟩
    · exact .inl (cm hm)
    · rw [Heap.size_push] at h2; exact .inr ⟨h2, h3⟩
  have look : ∀ {y}, scope.names.lookup y = some .free → ∃ c, cenv.cells.lookup y = some c ∧ X.env.cells.lookup y = some c := fun {y} hl => by
    have hy : (y, NameKind.free) ∈ scope.names := PySem.mem_of_lookup hl
    obtain ⟨c', e'⟩ := mem_lookup (cells_acc (names := scope.names) (n := (s.heap.push { cls := .type "dict", data := .dict #[] }).objs.size) (cloFrom_has (cells := X.env.cells) (acc := []) hy))
    rw [← hcl] at e'
    refine ⟨c', e', ?_⟩
    rw [hcl] at e'
    rcases cells_mem (PySem.mem_of_lookup e') with hm | ⟨h1, _, _⟩
    · exact (cm hm).1
    · have := ok.uniq _ h1
      rw [hl] at this; cases this
  have okB : (X.blk s H scope cenv fp).Ok := by
    refine ⟨I.ok.mod, by show cenv.scope.kind = _; rw [hsc]; exact ok.kind, by show cenv.globals = _; rw [← hcenv]; exact I.ok.glob, by show cenv.builtins = _; rw [← hcenv]; exact I.ok.blt, by show s.heap.objs.size ≤ cenv.locals; rw [hL]; exact Nat.le_refl _,
      fun y z c e1 e2 => ?_, fun y hy => ?_, fun y c z e => ?_, I.ok.hd, I.ok.frames, .inl rfl, fun b hb => ⟨?_, fun y c e z => ?_⟩, I.bs, Nat.le_trans I.ok.bsz I.sz, fun b o e hb => ?_, fun b hb z => ?_, I.stack, I.stkFree⟩
    · have e1 : cenv.cells.lookup y = some c := e1
      have e2 : cenv.cells.lookup z = some c := e2
      rw [hcl] at e1 e2
      refine cells_inj (fun p hp => ?_) (fun y z c a b => I.ok.inj y z c (cm a).1 (cm b).1) (PySem.mem_of_lookup e1) (PySem.mem_of_lookup e2)
      rw [Heap.size_push]
      exact Nat.lt_succ_of_lt (cm (y := p.1) (c := p.2) hp).2
    · show ∃ c, cenv.cells.lookup y = some c
      have key : ∀ k, cenv.kindOf y = some k → (k = .cell ∨ k = .free) → ∃ c, cenv.cells.lookup y = some c := fun k hk hk' => by
        unfold Env.kindOf at hk
        rw [hsc] at hk
        obtain ⟨k', e, r⟩ := lookup_relS hk
        have : k' = .cell ∨ k' = .free := by
          rcases r with rfl | ⟨rfl, _⟩
          · exact hk'
          · exact .inr rfl
        rcases this with rfl | rfl
        · obtain ⟨c, hm⟩ := cells_has (n := (s.heap.push { cls := .type "dict", data := .dict #[] }).objs.size) (acc := cloFrom X.env.cells scope.names []) (PySem.mem_of_lookup e)
          obtain ⟨c', e'⟩ := mem_lookup hm
          exact ⟨c', by rw [hcl]; exact e'⟩
        · obtain ⟨c, h1, _⟩ := look e
          exact ⟨c, h1⟩
      rcases hy with hy | hy
      · exact key _ hy (.inl rfl)
      · exact key _ hy (.inr rfl)
    · have z : (scope.names.lookup y == some NameKind.cell) = true := z
      have z : scope.names.lookup y = some .cell := by simpa using z
      have e : cenv.cells.lookup y = some c := e
      rw [hcl] at e
      rcases cells_mem (PySem.mem_of_lookup e) with hm | ⟨_, h2, _⟩
      · rcases cloFrom_mem hm with hm | ⟨h1, _⟩
        · cases hm
        · have q := ok.uniq _ h1
          rw [z] at q; cases q
      · rw [Heap.size_push] at h2
        exact Nat.le_of_succ_le h2
    · show b ≠ cenv.locals
      rw [hL]; exact Nat.ne_of_lt (hfp b hb).2
    · have e : cenv.cells.lookup y = some c := e
      rcases mem e with ⟨h1, _⟩ | ⟨h1, _⟩
      · exact (hfp b hb).1.2.2.2.2.1 y c h1 z
      · have h2 : s.heap.objs.size + 1 ≤ b := by rw [← z]; exact h1
        exact absurd (Nat.lt_of_lt_of_le (hfp b hb).2 (Nat.le_of_succ_le h2)) (Nat.lt_irrefl _)
    · rcases (hfp b hb).1.2.2.2.1 with z | z
      · exact I.ok.noex b o e z
      · exact absurd (Nat.lt_of_lt_of_le (Heap.lt_size e) (Nat.le_trans I.ok.bsz z)) (Nat.lt_irrefl _)
    · rcases List.mem_cons.mp (I.stkSub b z) with z | z
      · exact (hfp b hb).1.2.1 z
      · exact (hfp b hb).1.2.2.1 z
  refine ⟨okB, rfl, I.bare, Un.kept kp, ⟨fun _ => none, ?_, fun i y av e1 e2 e3 => ?_⟩, fun y c e => ?_, ?_, fun y c e => ?_, fun p hp => ?_, I.hok.kept kp, by rw [wipe_length]; exact I.len⟩
  · show Heap.Ns _ cenv.locals _
    rw [hL]
    exact Heap.Ns.keeps (Heap.Ns.new ..) fun b o e => pushCells_keeps _ _ _ _ e
  · obtain ⟨e2, hne⟩ := wipe_some e2
    have hfr : scope.names.lookup y = some .free ∧ (cenv.kindOf y = some .cell ∨ cenv.kindOf y = some .free) := by
      have key : ∀ k, cenv.scope.names.lookup y = some k → k = .local ∨ k = .cell ∨ k = .free → scope.names.lookup y = some .free ∧ (cenv.kindOf y = some .cell ∨ cenv.kindOf y = some .free) := fun k hk hk' => by
        have hk0 := hk
        rw [hsc] at hk
        obtain ⟨k', e, r⟩ := lookup_relS hk
        have no : ¬ (k' = .local ∨ k' = .cell) := fun hh => by
          rcases ok.own _ (PySem.mem_of_lookup e) hh with e' | e'
          · obtain ⟨p, hp, hpy⟩ := List.mem_map.mp e'
            have e3 := ok.ix p hp
            have : p.1 = y := hpy
            rw [this] at e3
            exact hne (List.mem_map.mpr ⟨p, hp, nodup_ix hN e3 e1⟩)
          · exact e' (List.mem_of_getElem? e1)
        rcases r with rfl | ⟨rfl, rfl⟩
        · rcases hk' with rfl | rfl | rfl
          · exact absurd (.inl rfl) no
          · exact absurd (.inr rfl) no
          · exact ⟨e, .inr hk0⟩
        · exact ⟨e, .inl hk0⟩
      have e3 : Vis cenv.scope y := e3
      rcases e3 with e3 | e3 | e3
      · exact key _ e3 (.inl rfl)
      · exact key _ e3 (.inr (.inl rfl))
      · exact key _ e3 (.inr (.inr rfl))
    obtain ⟨m, hn, hl⟩ := I.loc
    have hvis : Vis X.env.scope y := (ok.free _ (PySem.mem_of_lookup hfr.1) rfl).elim (fun k => .inr (.inl k)) (fun k => .inr (.inr k))
    obtain ⟨w, r, q⟩ := hl i y av e1 e2 hvis
    refine ⟨w, r, .inr ⟨hfr.2, ?_⟩⟩
    obtain ⟨c, h1, h2⟩ := look hfr.1
    rcases q with ⟨k, _⟩ | ⟨_, c', e', z⟩
    · have k : X.env.scope.names.lookup y = some .local := k
      rcases ok.free _ (PySem.mem_of_lookup hfr.1) rfl with k' | k' <;> rw [show X.env.scope.names.lookup y = _ from k'] at k <;> cases k
    · rw [h2] at e'; cases e'
      exact ⟨c, h1, z.keeps kp⟩
  · have e : cenv.cells.lookup y = some c := e
    rcases mem e with ⟨h1, _⟩ | ⟨_, z⟩
    · obtain ⟨w, z⟩ := I.cell y c h1
      exact ⟨w, z.keeps kp⟩
    · exact ⟨_, z⟩
  · show H cenv.locals = none
    rw [hL]; exact I.hok.fresh (Nat.le_refl _)
  · have e : cenv.cells.lookup y = some c := e
    rcases mem e with ⟨h1, _⟩ | ⟨h1, _⟩
    · exact I.freeC y c h1
    · exact I.hok.fresh (Nat.le_of_succ_le h1)
  · exact absurd (show p ∈ ([] : List (Addr × Obj)) ++ [] from hp) (by simp)
theorem app_ok {E : Value → Shared → Prop} {D : Addr} {xs : List V} {y : V} {v : Value} {Q : Value → Shared → Prop} (I : Inv X pins σ H s) (hD : H D = some (.lst xs)) (hz : xs.length < sizeLine) (r : RelV y v)
    (h : ∀ s', Inv X pins σ (upd H D (.lst (xs ++ [y]))) s' → Q .none s') : wpAny (model X.prog X.w) X.A (call (.builtin "list.append") [.ref D, v]) Q E s := by
  obtain ⟨hz', its, n, ri, e⟩ := I.hok D _ hD
  have hl := ri.length
  refine append_at (hsz := by rw [List.size_toArray]; omega) e fun h' sb ho' => ?_
  refine h { s with heap := h' } (I.write (t' := s.toks) (by rw [hD]; trivial) (.inl rfl) (fun b u hb q => (sb.2 b hb).trans q) ⟨_, ho'⟩ ⟨by rw [List.length_append]; exact hz, its ++ [v], n + 1, ri.append (.cons r .nil), ?_⟩)
  rw [ho']
  simp
def PTs (X : Cx) (ifs : List Expr) (t : TT) : Prop :=
  ∀ (pins : List (Addr × Obj)) (s : Shared) (σ : St) (H : Hp) (Q : Bool → Hp → Prop), Inv X pins σ H s → t σ H Q →
    wpAny (model X.prog X.w) X.A (forIn ifs true fun c r => if r = true then do let ok ← isTrue c X.env (eval c X.env); pure (ForInStep.yield ok) else pure (ForInStep.yield r)) (TP X pins σ Q) X.xe s
def tYes : TT := fun _ H Q => Q true H
theorem pts_nil : PTs X [] tYes := fun _ _ _ H _ I h => wpAny_tests_nil ⟨H, I, h⟩
end
theorem thnF {α : Type} {t : Sem α} {Q Q' : α → Shared → Prop} {M : Model} {A : Around} {E : Value → Shared → Prop} {s : Shared} (h : wpAny M A t Q (fun _ _ => False) s) (hQ : ∀ a s, Q a s → Q' a s) : wpAny M A t Q' E s := wpAny_mono h hQ fun _ _ z => False.elim z
theorem compLoop_any {prog : Program} {w : World} {A : Around} {R : Result → Shared → Prop} {s : Shared} {elt target iter : Expr} {ifs : List Expr} {scope : Scope} {pos : Pos} {it acc : Value} {env : Env} (I : Nat → Shared → Prop)
    (turn : ∀ n s, I n s → wpAny (model prog w) A (pyNext it) (fun r s₁ => match r with
      | none => R (.ok .next) s₁
      | some v => wpAny (model prog w) A (letOwnedTupleGo target it v) (fun _ s₁' => wpAny (model prog w) A (assign target env v) (fun _ s₂ =>
          wpAny (model prog w) A (forIn ifs true fun c r => if r = true then do let ok ← isTrue c env (eval c env); pure (ForInStep.yield ok) else pure (ForInStep.yield r)) (fun ok s₃ =>
            if ok = true then wpAny (model prog w) A (eval elt env) (fun x s₄ =>
              wpAny (model prog w) A (call (.builtin "list.append") [acc, x]) (fun _ s₅ => ∃ m, m < n ∧ I m s₅) (notedBy (model prog w) A env fun e s' => R (.error e) s') s₄) (notedBy (model prog w) A env fun e s' => R (.error e) s') s₃
            else ∃ m, m < n ∧ I m s₃) (notedBy (model prog w) A env fun e s' => R (.error e) s') s₂) (notedBy (model prog w) A env fun e s' => R (.error e) s') s₁') (notedBy (model prog w) A env fun e s' => R (.error e) s') s₁) (notedBy (model prog w) A env fun e s' => R (.error e) s') s)
    (n : Nat) (h : I n s) :
    codeAny (model prog w) A (.compLoop (.ListComp elt [⟨target, iter, ifs, 0⟩] scope pos) 0 it acc env) R s := by
  refine codeAny_loop rfl I (fun n s hI => ?_) n h
  show wpAny _ A ((compTurn (.ListComp elt [⟨target, iter, ifs, 0⟩] scope pos) 0 it acc env).onRaise (fun x => do noteFrame x env; theTreesLotGoes x)) _ _ s
  refine wpAny_noted ?_
  rw [compTurn_list]
  refine wpAny_bind (wpAny_standAt (wpAny_bind (wpAny_mono (turn n s hI) (fun r s₁ h₁ => ?_) fun _ _ h' => h')))
  cases r with
  | none => exact wpAny_pure h₁
  | some v =>
    refine wpAny_bind (wpAny_mono h₁ (fun _ s₁' h₁' => ?_) fun _ _ h' => h')
    refine wpAny_bind (wpAny_mono h₁' (fun _ s₂ h₂ => wpAny_bind (wpAny_mono h₂ (fun ok s₃ h₃ => ?_) fun _ _ h' => h')) fun _ _ h' => h')
    cases ok with
    | false => exact wpAny_pure ⟨rfl, h₃⟩
    | true =>
      exact wpAny_bind (wpAny_bind (wpAny_mono h₃ (fun x s₄ h₄ => wpAny_bind (wpAny_mono h₄ (fun _ s₅ h₅ => wpAny_pure (wpAny_pure ⟨rfl, h₅⟩)) fun _ _ h' => h')) fun _ _ h' => h'))
section
variable {X : Cx}
def tLc (wi : TI) (g : TG) (tt : TT) (te : TE) (vs : List Nat) : TE := fun σ H Q => wi σ H fun J H1 => ∀ D, H1 D = none → ∃ W : Nat → Nat → Hp → Prop, (∃ m, W 0 m (upd H1 D (.lst []))) ∧ ∀ i m H, W i m H →
  (J.stop i H ∧ Q (.ref D) H) ∨ (J.go i H ∧ ∃ Nx : Hp → Prop, (∀ H', Nx H' → ∃ m', m' < m ∧ W (i + 1) m' H') ∧ ∀ x H', J.yld i H x H' → g x (wipe σ vs) H' fun σ2 H2 => wipe σ2 vs = wipe σ vs ∧ tt σ2 H2 fun b H3 =>
    if b = true then te σ2 H3 fun y H4 => ∃ acc, H4 D = some (.lst acc) ∧ acc.length < sizeLine ∧ Nx (upd H4 D (.lst (acc ++ [y]))) else Nx H3)
theorem lc_core {pins : List (Addr × Obj)} {s : Shared} {σ : St} {H : Hp} {Q : VK} {elt tg iter : Expr} {ifs : List Expr} {scope : Scope} {own : List (Str × Nat)} {pos pos' : Pos} {wi : TI} {g : TG} {tt : TT} {te : TE} {use : Option (Value → Sem Unit)} {Qf : Value → Shared → Prop}
    (hc : X.calm = true) (hN : X.N.Nodup) (I : Inv X pins σ H s) (hi : PI X tg iter wi) (ok : BlkOk X.N X.env.scope scope own)
    (hg : ∀ (s : Shared) (H : Hp) (C : Addr) (cl : List (Str × Addr)) (fp : List Addr), PG (X.blk s H scope (compEnvC scope cl C X.env) fp) tg g) (ht : ∀ (s : Shared) (H : Hp) (C : Addr) (cl : List (Str × Addr)) (fp : List Addr), PTs (X.blk s H scope (compEnvC scope cl C X.env) fp) ifs tt)
    (he : ∀ (s : Shared) (H : Hp) (C : Addr) (cl : List (Str × Addr)) (fp : List Addr), PE (X.blk s H scope (compEnvC scope cl C X.env) fp) elt te) (hs : ∀ x, foldedSetIterable iter X.env x = pure x)
    (h : tLc wi g tt te (own.map (·.2)) σ H Q)
    (hRR : ∀ D C s' m H', Inv X pins σ H' s' → Q (.ref D) H' → s'.heap.Ns C m → FpOk X pins H' C → compPost (model X.prog X.w) X.A X.xe use Qf (.ref D) C (.ok .next) s') :
    wpAny (model X.prog X.w) X.A (comprehension (.ListComp elt [⟨tg, iter, ifs, 0⟩] scope pos) scope X.env pos' (newList []) false (eval iter X.env) use) Qf X.xe s := by
  have hfree : ∀ y ∈ scope.names, y.2 = .free → ∃ c, X.env.cells.lookup y.1 = some c := fun y hy e => by
    rcases ok.free y hy e with k | k
    · exact I.ok.has _ (.inl k)
    · exact I.ok.has _ (.inr k)
  refine wpAny_comprehension_free (use := use) rfl hs (closure_ok hfree) ok.kind (fun y hy e => by rw [ok.uniq y hy, e])
    (thn (hi pins s σ H _ I h) fun xv s1 hx => thn hx fun itv s2 h2 => ?_)
  obtain ⟨it, fp, tn, J, H2, e, I2, T, st2, f2, q⟩ := h2
  subst e
  refine wpAny_newObj_type (newEnv_comp ?_) (by show 0 ≤ sizeLine; decide)
  generalize hD : s2.heap.objs.size = D
  have hDn : H2 D = none := I2.hok.fresh (Nat.le_of_eq hD)
  obtain ⟨W, ⟨m0, w0⟩, turn⟩ := q D hDn
  -- the new list
  generalize hs3 : ({ s2 with heap := s2.heap.push { cls := .type "list", data := .seq ([] : List Value).toArray } } : Shared) = s3
  have I3 : Inv X pins σ (upd H2 D (.lst [])) s3 := by
    rw [← hs3]
    refine I2.laid (t' := s2.toks) (fun b o e => Heap.get?_push_of_some _ e) (Nat.le_of_eq hD) ⟨Nat.zero_le _, [], 0, .nil, ?_⟩
    rw [← hD]
    exact Heap.get?_push_size _ rfl
  have h3 : s3.heap = s2.heap.push { cls := .type "list", data := .seq ([] : List Value).toArray } := by rw [← hs3]
  have sz : ∀ b ∈ fp, b < s2.heap.objs.size := fun b hb => by
    obtain ⟨o, e, _⟩ := T.obj _ _ st2 b hb
    exact Heap.lt_size e
  have f3 : ∀ b ∈ fp, FpOk X pins (upd H2 D (.lst [])) b ∧ b < s3.heap.objs.size := fun b hb => by
    have hlt := sz b hb
    refine ⟨⟨?_, (f2 b hb).2⟩, by rw [h3, Heap.size_push]; exact Nat.lt_succ_of_lt hlt⟩
    rw [upd_ne (by rw [← hD]; exact Nat.ne_of_lt hlt)]
    exact (f2 b hb).1
  have st3 : tn 0 s3.heap := T.keep _ _ _ st2 fun b _ o e => by rw [h3]; exact Heap.get?_push_of_some _ e
  have I4 := block_start I3 ok hN f3
  have pg := hg s3 (upd H2 D (.lst [])) s3.heap.objs.size (cellsFrom (s3.heap.objs.size + 1) scope.names (cloFrom X.env.cells scope.names [])) fp
  have pt := ht s3 (upd H2 D (.lst [])) s3.heap.objs.size (cellsFrom (s3.heap.objs.size + 1) scope.names (cloFrom X.env.cells scope.names [])) fp
  have pe := he s3 (upd H2 D (.lst [])) s3.heap.objs.size (cellsFrom (s3.heap.objs.size + 1) scope.names (cloFrom X.env.cells scope.names [])) fp
  show codeAny _ _ (.compStart (.ListComp elt [⟨tg, iter, ifs, 0⟩] scope pos) 0 (.ref it) (.ref D) (compEnvC scope (cellsFrom (s3.heap.objs.size + 1) scope.names (cloFrom X.env.cells scope.names [])) s3.heap.objs.size X.env)) (compPost (model X.prog X.w) X.A X.xe use Qf (.ref D) s3.heap.objs.size) { s3 with heap := pushCells (s3.heap.push { cls := .type "dict", data := .dict #[] }) scope.names }
  have nfp : ∀ b ∈ fp, (upd H2 D (.lst [])) b = none := fun b hb => (f3 b hb).1.1
  generalize hce : compEnvC scope (cellsFrom (s3.heap.objs.size + 1) scope.names (cloFrom X.env.cells scope.names [])) s3.heap.objs.size X.env = ce at I4 pg pt pe ⊢
  have cL : ce.locals = s3.heap.objs.size := by subst hce; rfl
  generalize hH3 : upd H2 D (.lst []) = H3 at I3 I4 pg pt pe w0 nfp f3
  generalize hs4 : ({ s3 with heap := pushCells (s3.heap.push { cls := .type "dict", data := .dict #[] }) scope.names } : Shared) = s4 at I4 ⊢
  have st4 : tn 0 s4.heap := T.keep _ _ _ st3 fun b _ o e => by rw [← hs4]; exact pushCells_keeps _ _ _ _ (Heap.get?_push_of_some _ e)
  have stat : ∀ {σ' : St} {H' : Hp} {s' : Shared}, Inv (X.blk s3 H3 scope ce fp) [] σ' H' s' → (∀ b ∈ fp, H' b = none) → ∀ b ∈ fp, FpOk (X.blk s3 H3 scope ce fp) [] H' b := fun {σ' H' s'} I' hn b hb =>
    ⟨hn b hb, (I'.ok.exf b hb).1, I'.ok.exfs b hb, .inl hb, fun x c e => (I'.ok.exf b hb).2 x c e, fun p hp => absurd (show p ∈ ([] : List (Addr × Obj)) ++ [] from hp) (by simp)⟩
  have loop : codeAny (model X.prog X.w) X.A (.compLoop (.ListComp elt [⟨tg, iter, ifs, 0⟩] scope pos) 0 (.ref it) (.ref D) ce) (compPost (model X.prog X.w) X.A X.xe use Qf (.ref D) s3.heap.objs.size) s4 := by
    refine compLoop_any (fun n s' => ∃ i H', Inv (X.blk s3 H3 scope ce fp) [] (wipe σ (own.map (·.2))) H' s' ∧ tn i s'.heap ∧ (∀ b ∈ fp, H' b = none) ∧ W i n H') ?_ m0 ⟨0, H3, I4, st4, nfp, w0⟩
    rintro n s5 ⟨i, H5, I5, st5, n5, w5⟩
    rcases turn i n H5 w5 with ⟨stop, qq⟩ | ⟨go, Nx, hNx, step⟩
    · have td := T.done (X.blk s3 H3 scope ce fp) rfl rfl rfl hc i [] s5 _ H5 (fun _ _ => False) I5 (stat I5 n5) st5 stop
      refine thnF td fun r s6 ⟨hr, I6⟩ => ?_
      subst hr
      -- back in the def's context
      have I7 : Inv X pins σ H5 s6 := I3.call' (ch := fp) I6.os I6.base I6.hok I6.bare fun b hb => ⟨(f3 b hb).1.2.2.2.1, (f3 b hb).1.2.1, (f3 b hb).1.2.2.2.2.1, (f3 b hb).1.2.2.2.2.2⟩
      have nC : H5 s3.heap.objs.size = none := by
        have z : H5 ce.locals = none := I6.free
        rw [cL] at z
        exact z
      obtain ⟨m, hn, _⟩ := I6.loc
      have hn : s6.heap.Ns ce.locals m := hn
      rw [cL] at hn
      exact hRR D s3.heap.objs.size s6 m H5 I7 qq hn (I3.fpOk (Nat.le_refl _) nC)
    · have ti := T.item (X.blk s3 H3 scope ce fp) rfl rfl rfl hc i [] s5 _ H5 (fun _ _ => False) I5 (stat I5 n5) st5 go
      refine thnF ti fun r s6 ⟨u, hr, h6⟩ => ?_
      subst hr
      refine thnF h6 fun _ s7 ⟨x, H7, I7, r7, y7, st7, n7⟩ => ?_
      have I7' := I7.pinned (stat I7 n7) (T.obj _ _ st7)
      refine thnF (pg _ s7 _ H7 x u _ I7' r7 (step x H7 y7)) fun _ s8 ⟨σ8, H8, I8, hw8, q8⟩ => ?_
      refine thnF (pt _ s8 σ8 H8 _ I8 q8) fun b s9 ⟨H9, I9, q9⟩ => ?_
      -- the turn's end
      have fin : ∀ {s' : Shared} {H' : Hp}, Inv (X.blk s3 H3 scope ce fp) ([] ++ pinsAt fp s7.heap) σ8 H' s' → Nx H' → ∃ m, m < n ∧ ∃ i H', Inv (X.blk s3 H3 scope ce fp) [] (wipe σ (own.map (·.2))) H' s' ∧ tn i s'.heap ∧ (∀ b ∈ fp, H' b = none) ∧ W i m H' := fun {s' H'} I' nx => by
        obtain ⟨m', hm, w'⟩ := hNx H' nx
        have pin' : ∀ b ∈ fp, ∀ o, s7.heap.get? b = some o → s'.heap.get? b = some o ∧ H' b = none := fun b hb o e =>
          let z := I'.pin (b, o) (List.mem_append_right _ (List.mem_append_right _ (mem_pinsAt hb e)))
          ⟨z.1, z.2.1⟩
        have hl : (wipe σ (own.map (·.2))).length = σ8.length := by rw [← hw8, wipe_length]
        refine ⟨m', hm, i + 1, H', (I'.unpinned (pins := [])).weak hl (fun j v e => ?_), T.keep _ _ _ st7 fun b hb o e => (pin' b hb o e).1, fun b hb => ?_, w'⟩
        · rw [← hw8] at e
          exact (wipe_some e).1
        · obtain ⟨o, e, _⟩ := T.obj _ _ st7 b hb
          exact (pin' b hb o e).2
      cases b with
      | false =>
        simp only [Bool.false_eq_true, if_false] at q9 ⊢
        exact fin I9 q9
      | true =>
        simp only [if_true] at q9 ⊢
        refine thnF (pe _ s9 σ8 H9 _ I9 q9) fun z s10 ⟨yv, H10, I10, r10, acc, hD10, hz10, nx⟩ => ?_
        exact app_ok (X := X.blk s3 H3 scope ce fp) I10 hD10 hz10 r10 fun s11 I11 => fin I11 nx
  exact codeAny_compStart_list loop (T.self X.A 0 _ _ _ st4 loop)
theorem pe_lc {elt tg iter : Expr} {ifs : List Expr} {scope : Scope} {own : List (Str × Nat)} {pos : Pos} {wi : TI} {g : TG} {tt : TT} {te : TE} (hc : X.calm = true) (hN : X.N.Nodup) (hi : PI X tg iter wi) (ok : BlkOk X.N X.env.scope scope own)
    (hg : ∀ (s : Shared) (H : Hp) (C : Addr) (cl : List (Str × Addr)) (fp : List Addr), PG (X.blk s H scope (compEnvC scope cl C X.env) fp) tg g) (ht : ∀ (s : Shared) (H : Hp) (C : Addr) (cl : List (Str × Addr)) (fp : List Addr), PTs (X.blk s H scope (compEnvC scope cl C X.env) fp) ifs tt)
    (he : ∀ (s : Shared) (H : Hp) (C : Addr) (cl : List (Str × Addr)) (fp : List Addr), PE (X.blk s H scope (compEnvC scope cl C X.env) fp) elt te) (hs : ∀ x, foldedSetIterable iter X.env x = pure x := by intro _; rfl) :
    PE X (.ListComp elt [⟨tg, iter, ifs, 0⟩] scope pos) (tLc wi g tt te (own.map (·.2))) := by
  intro pins s σ H Q I h
  rw [eval_ListComp]
  refine lc_core hc hN I hi ok hg ht he hs h fun D C s' m H' I' q hn f => ⟨m, hn, fun h'' sb => ?_⟩
  obtain ⟨f0, f1, f2, f3, f4, f5⟩ := f
  exact ⟨.ref D, H', I'.turned (t' := s'.toks) (fun b o hb e => (sb.2 b hb).trans e) f0 f1 f3 f4 f5, rfl, q⟩
end
theorem lc_list {K : PySem.W.Frag} {a : Addr} {xs : List V} {g : TG} {tt : TT} {te : TE} {vs : List Nat} {σ : St} {H1 : Hp} {D : Addr} {Qd : Hp → Prop} (Pv : Nat → Hp → Prop) (h0 : Pv 0 (upd H1 D (.lst []))) (hl : ∀ i H, i ≤ xs.length → Pv i H → SqL K H a xs)
    (hs : ∀ i x H, xs[i]? = some x → Pv i H → g x (wipe σ vs) H fun σ2 H2 => wipe σ2 vs = wipe σ vs ∧ tt σ2 H2 fun b H3 =>
      if b = true then te σ2 H3 fun y H4 => ∃ acc, H4 D = some (.lst acc) ∧ acc.length < sizeLine ∧ Pv (i + 1) (upd H4 D (.lst (acc ++ [y]))) else Pv (i + 1) H3) (hd : ∀ H, Pv xs.length H → Qd H) :
    ∃ W : Nat → Nat → Hp → Prop, (∃ m, W 0 m (upd H1 D (.lst []))) ∧ ∀ i m H, W i m H →
      ((Itl K a).stop i H ∧ Qd H) ∨ ((Itl K a).go i H ∧ ∃ Nx : Hp → Prop, (∀ H', Nx H' → ∃ m', m' < m ∧ W (i + 1) m' H') ∧ ∀ x H', (Itl K a).yld i H x H' → g x (wipe σ vs) H' fun σ2 H2 => wipe σ2 vs = wipe σ vs ∧ tt σ2 H2 fun b H3 =>
        if b = true then te σ2 H3 fun y H4 => ∃ acc, H4 D = some (.lst acc) ∧ acc.length < sizeLine ∧ Nx (upd H4 D (.lst (acc ++ [y]))) else Nx H3) := by
  refine ⟨fun i m H => m = xs.length - i ∧ i ≤ xs.length ∧ Pv i H, ⟨xs.length, by simp, Nat.zero_le _, h0⟩, ?_⟩
  rintro i m H ⟨rfl, hi, p⟩
  have q := hl i H hi p
  by_cases hlt : i < xs.length
  · refine .inr ⟨⟨xs, xs[i], q, by simp [hlt]⟩, Pv (i + 1), fun H' p' => ⟨xs.length - (i + 1), by omega, rfl, hlt, p'⟩, fun x H' y => ?_⟩
    obtain ⟨e, y⟩ := y
    subst e
    exact hs i x _ (y xs q) p
  · have e : i = xs.length := by omega
    subst e
    exact .inl ⟨⟨xs, q, Nat.le_refl _⟩, hd H p⟩
def blkC (N : List Str) (sc scope : Scope) (own : List (Str × Nat)) : Bool :=
  (match scope.kind with | .function => true | _ => false) && (scope.names.all fun y => decide (scope.names.lookup y.1 = some y.2)) && (own.all fun p => decide (N[p.2]? = some p.1)) &&
    (scope.names.all fun y => match y.2 with
      | .free => (match sc.names.lookup y.1 with | some .cell => true | some .free => true | _ => false)
      | .local => decide (y.1 ∈ own.map (·.1)) || decide (y.1 ∉ N)
      | .cell => decide (y.1 ∈ own.map (·.1)) || decide (y.1 ∉ N)
      | _ => true)
theorem blkOk_by {N : List Str} {sc scope : Scope} {own : List (Str × Nat)} (h : blkC N sc scope own = true) : BlkOk N sc scope own := by
  unfold blkC at h
  simp only [Bool.and_eq_true, List.all_eq_true, decide_eq_true_eq] at h
  obtain ⟨⟨⟨h1, h2⟩, h3⟩, h4⟩ := h
  refine ⟨?_, h2, h3, fun y hy e => ?_, fun y hy e => ?_⟩
  · split at h1
    · assumption
    · cases h1
  · have q := h4 y hy
    simp only [e] at q
    split at q <;> first | exact .inl (by assumption) | exact .inr (by assumption) | cases q
  · have q := h4 y hy
    rcases e with e | e <;> (simp only [e, Bool.or_eq_true, decide_eq_true_eq] at q; exact q)
end L2
namespace L2
open PySem PySem.Spec PyProof.Rows
section
variable {prog : Program} {w : World} {A : Around} {R : Result → Shared → Prop} {s : Shared} {elt t0 i0 t1 i1 : Expr} {ifs0 ifs1 : List Expr} {scope : Scope} {pos : Pos} {it acc : Value} {env : Env}
end
section
variable {X : Cx}
end
end L2
namespace L2
open PySem PySem.Spec PyProof.Rows
section
variable {κ : Type} [DecidableEq κ]
def valV (kvs : List (κ × V)) (k : κ) : Option V := (kvs.find? fun kv => decide (kv.1 = k)).map (·.2)
def putK (kvs : List (κ × V)) (k : κ) (v : V) : List (κ × V) :=
  if (kvs.any fun kv => decide (kv.1 = k)) = true then kvs.map (fun kv => if kv.1 = k then (kv.1, v) else kv) else kvs ++ [(k, v)]
theorem valV_nil {k : κ} : valV ([] : List (κ × V)) k = none := rfl
theorem valV_pos {p : κ × V} {r : List (κ × V)} {k : κ} (e : p.1 = k) : valV (p :: r) k = some p.2 := by simp [valV, List.find?_cons, e]
theorem valV_neg {p : κ × V} {r : List (κ × V)} {k : κ} (e : ¬ p.1 = k) : valV (p :: r) k = valV r k := by simp [valV, List.find?_cons, e]
theorem valV_any (k : κ) : ∀ kvs : List (κ × V), (kvs.any fun kv => decide (kv.1 = k)) = (valV kvs k).isSome
  | [] => rfl
  | p :: r => by
    rw [List.any_cons]
    by_cases e : p.1 = k
    · simp only [valV_pos e, decide_eq_true e, Bool.true_or, Option.isSome_some]
    · rw [valV_neg e, decide_eq_false e, Bool.false_or]; exact valV_any k r
theorem valV_map (k j : κ) (y : V) : ∀ kvs : List (κ × V), valV (kvs.map fun kv => if kv.1 = k then (kv.1, y) else kv) j = (valV kvs j).map fun x => if j = k then y else x
  | [] => rfl
  | p :: r => by
    have ih := valV_map k j y r
    rw [List.map_cons]
    by_cases h : p.1 = k
    · rw [if_pos h]
      by_cases e : p.1 = j
      · rw [valV_pos (p := (p.1, y)) e, valV_pos e, Option.map_some, if_pos (e.symm.trans h)]
      · rw [valV_neg (p := (p.1, y)) e, valV_neg e, ih]
    · rw [if_neg h]
      by_cases e : p.1 = j
      · rw [valV_pos (p := p) e, valV_pos e, Option.map_some, if_neg (fun z => h (e.trans z))]
      · rw [valV_neg (p := p) e, valV_neg e, ih]
theorem valV_snoc (k j : κ) (y : V) : ∀ kvs : List (κ × V), valV kvs k = none → valV (kvs ++ [(k, y)]) j = if j = k then some y else valV kvs j
  | [], _ => by
    by_cases e : k = j
    · rw [if_pos e.symm]; exact valV_pos (p := (k, y)) e
    · rw [if_neg (fun z => e z.symm)]; exact valV_neg (p := (k, y)) e
  | p :: r, hn => by
    rw [List.cons_append]
    have hk : ¬ p.1 = k := fun z => by rw [valV_pos z] at hn; cases hn
    rw [valV_neg hk] at hn
    have ih := valV_snoc k j y r hn
    by_cases e : p.1 = j
    · rw [valV_pos e, valV_pos e, if_neg (fun z => hk (e.trans z))]
    · rw [valV_neg e, valV_neg e, ih]
theorem valV_put (kvs : List (κ × V)) (k j : κ) (y : V) : valV (putK kvs k y) j = if j = k then some y else valV kvs j := by
  unfold putK
  by_cases a : (kvs.any fun kv => decide (kv.1 = k)) = true
  · rw [if_pos a, valV_map]
    rw [valV_any] at a
    by_cases e : j = k
    · obtain ⟨x, hx⟩ := Option.isSome_iff_exists.mp a
      rw [if_pos e, e, hx, Option.map_some, if_pos rfl]
    · rw [if_neg e]
      cases valV kvs j with
      | none => rfl
      | some x => rw [Option.map_some, if_neg e]
  · rw [if_neg a]
    refine valV_snoc k j y kvs ?_
    rw [valV_any] at a
    cases q : valV kvs k with
    | none => rfl
    | some x => rw [q] at a; exact (a rfl).elim
theorem length_putK (kvs : List (κ × V)) (k : κ) (v : V) : (putK kvs k v).length ≤ kvs.length + 1 := by
  unfold putK
  split
  · rw [List.length_map]; omega
  · rw [List.length_append, List.length_cons, List.length_nil]; omega
theorem RelO.isSome_eq {o : Option V} {u : Option Value} (r : RelO o u) : o.isSome = u.isSome := by
  cases o with
  | none => cases u with
    | none => rfl
    | some _ => exact (show False from r).elim
  | some _ => cases u with
    | none => exact (show False from r).elim
    | some _ => rfl
theorem RelO.getD {o : Option V} {u : Option Value} {d : V} {d' : Value} (r : RelO o u) (rd : RelV d d') : RelV (o.getD d) (u.getD d') := by
  cases o with
  | none => cases u with
    | none => exact rd
    | some _ => exact (show False from r).elim
  | some _ => cases u with
    | none => exact (show False from r).elim
    | some _ => exact r
theorem KV.val {kvs : List (κ × V)} {vs : List (κ × Value)} (r : KV kvs vs) (k : κ) : RelO (valV kvs k) (valueAt vs k) := by
  unfold KV at r
  induction r with
  | nil => exact True.intro
  | @cons p q ps qs h t ih =>
    obtain ⟨h1, h2⟩ := h
    by_cases e : p.1 = k
    · have e' : q.1 = k := h1.symm.trans e
      have b : valueAt (q :: qs) k = some q.2 := by simp [valueAt, List.find?_cons, e']
      rw [valV_pos e, b]; exact h2
    · have e' : ¬ q.1 = k := fun z => e (h1.trans z)
      have b : valueAt (q :: qs) k = valueAt qs k := by simp [valueAt, List.find?_cons, e']
      rw [valV_neg e, b]; exact ih
theorem KV.any {kvs : List (κ × V)} {vs : List (κ × Value)} (r : KV kvs vs) (k : κ) : (kvs.any fun kv => decide (kv.1 = k)) = vs.any fun kv => decide (kv.1 = k) := by
  unfold KV at r
  induction r with
  | nil => rfl
  | cons h t ih => rw [List.any_cons, List.any_cons, ih, h.1]
theorem KV.repl {kvs : List (κ × V)} {vs : List (κ × Value)} (r : KV kvs vs) (k : κ) {y : V} {u : Value} (ry : RelV y u) :
    KV (kvs.map fun kv => if kv.1 = k then (kv.1, y) else kv) (vs.map fun kv => if kv.1 = k then (kv.1, u) else kv) := by
  unfold KV at r ⊢
  induction r with
  | nil => exact .nil
  | @cons p q ps qs h t ih =>
    rw [List.map_cons, List.map_cons]
    refine .cons ?_ ih
    obtain ⟨h1, h2⟩ := h
    by_cases e : p.1 = k
    · rw [if_pos e, if_pos (h1.symm.trans e)]; exact ⟨h1, ry⟩
    · rw [if_neg e, if_neg (fun z => e (h1.trans z))]; exact ⟨h1, h2⟩
theorem KV.put {kvs : List (κ × V)} {vs : List (κ × Value)} (r : KV kvs vs) (k : κ) {y : V} {u : Value} (ry : RelV y u) : KV (putK kvs k y) (stored vs k u) := by
  unfold putK stored
  rw [r.any k]
  by_cases e : (vs.any fun kv => decide (kv.1 = k)) = true
  · rw [if_pos e, if_pos e]; exact r.repl k ry
  · rw [if_neg e, if_neg e]; exact Paired.snoc r ⟨rfl, ry⟩
theorem KV.length {kvs : List (κ × V)} {vs : List (κ × Value)} (r : KV kvs vs) : kvs.length = vs.length := Paired.length r
end
theorem kV_is {P : Program} {w : World} {k : Key} {u : Value} (r : RelV (kV k) u) : (mixKind P w).is k u = true := by
  cases k with
  | inl i => obtain ⟨t, e⟩ := (show ∃ t, u = Value.int i t from r); subst e; exact mixKind_int P w i t
  | inr x => obtain ⟨t, e⟩ := (show ∃ t, u = Value.str x t from r); subst e; exact mixKind_str P w x t
theorem items_are {P : Program} {w : World} : ∀ {ks : List Key} {us : List Value}, Vals (ks.map kV) us → ItemsAre (mixKind P w) ks us
  | [], _, r => by rw [List.map_nil] at r; cases r; exact .nil
  | k :: ks, _, r => by
    rw [List.map_cons] at r
    cases r with
    | cons h t => exact .cons (kV_is h) (items_are t)
abbrev KT (H : Hp) : List (List Key × V) → List (List Key × Addr × Value) → Prop := Paired fun p q => p.1 = q.1 ∧ H q.2.1 = some (.tup (p.1.map kV)) ∧ RelV p.2 q.2.2
theorem KT.val {H : Hp} {kvs : List (List Key × V)} {xs : List (List Key × Addr × Value)} (r : KT H kvs xs) (k : List Key) : RelO (valV kvs k) ((atKey xs k).map (·.2)) := by
  induction r with
  | nil => exact True.intro
  | @cons p q ps qs h t ih =>
    obtain ⟨h1, _, h2⟩ := h
    by_cases e : p.1 = k
    · have e' : q.1 = k := h1.symm.trans e
      have b : atKey (q :: qs) k = some q.2 := by simp [atKey, List.find?_cons, e']
      rw [valV_pos e, b]; exact h2
    · have e' : ¬ q.1 = k := fun z => e (h1.trans z)
      have b : atKey (q :: qs) k = atKey qs k := by simp [atKey, List.find?_cons, e']
      rw [valV_neg e, b]; exact ih
theorem KT.repl {H : Hp} {kvs : List (List Key × V)} {xs : List (List Key × Addr × Value)} (r : KT H kvs xs) (k : List Key) {y : V} {u : Value} (ry : RelV y u) :
    KT H (kvs.map fun kv => if kv.1 = k then (kv.1, y) else kv) (xs.map (putAt k u)) := by
  induction r with
  | nil => exact .nil
  | @cons p q ps qs h t ih =>
    rw [List.map_cons, List.map_cons]
    refine .cons ?_ ih
    obtain ⟨h1, h2, h3⟩ := h
    unfold putAt
    by_cases e : p.1 = k
    · rw [if_pos e, if_pos (h1.symm.trans e)]; exact ⟨h1, h2, ry⟩
    · rw [if_neg e, if_neg (fun z => e (h1.trans z))]; exact ⟨h1, h2, h3⟩
theorem KT.put {H : Hp} {kvs : List (List Key × V)} {xs : List (List Key × Addr × Value)} (r : KT H kvs xs) (k : List Key) {b : Addr} {y : V} {u : Value} (hb : H b = some (.tup (k.map kV))) (ry : RelV y u) :
    KT H (putK kvs k y) (storedH xs k b u) := by
  have e : (kvs.any fun kv => decide (kv.1 = k)) = (atKey xs k).isSome := by
    rw [valV_any, (r.val k).isSome_eq, Option.isSome_map]
  unfold putK storedH
  rw [e]
  by_cases q : (atKey xs k).isSome = true
  · rw [if_pos q, if_pos q]; exact r.repl k ry
  · rw [if_neg q, if_neg q]; exact Paired.snoc r ⟨rfl, hb, ry⟩
theorem KT.keeps {H H' : Hp} {kvs : List (List Key × V)} {xs : List (List Key × Addr × Value)} (r : KT H kvs xs) (ht : ∀ b ys, H b = some (.tup ys) → H' b = some (.tup ys)) : KT H' kvs xs :=
  Paired.mapP r fun _ _ z => ⟨z.1, ht _ _ z.2.1, z.2.2⟩
section
variable {P : Program} {w : World} {H : Hp} {h : Heap} {a : Addr}
theorem rd_of {u : HO} (ok : HOk P w H h) (e : Rd H a u) : ObjOk P w H h a u := e.ok ok
theorem dk_rd {kvs : List (Key × V)} (ok : HOk P w H h) (e : Rd H a (.dK kvs)) : kvs.length ≤ sizeLine ∧ (a == sysModules) = false ∧ ∃ vs, KV kvs vs ∧ h.DictOf (mixKind P w) a vs :=
  show ObjOk P w H h a (.dK kvs) from rd_of ok e
theorem dk_of {kvs : List (Key × V)} (ok : HOk P w H h) (e : H a = some (.dK kvs)) : kvs.length ≤ sizeLine ∧ (a == sysModules) = false ∧ ∃ vs, KV kvs vs ∧ h.DictOf (mixKind P w) a vs := dk_rd ok (.inl e)
theorem key_of {ks : List Key} (ok : HOk P w H h) (e : H a = some (.tup (ks.map kV))) : (tupleKind (mixKind P w)).is h ks a := by
  obtain ⟨_, its, r, o, h1, h2, n, h3⟩ := (show ObjOk P w H h a (.tup (ks.map kV)) from ok a _ e)
  exact ⟨o, its.toArray, n, h1, h2, h3, by simpa using items_are r⟩
theorem dt_rd {kvs : List (List Key × V)} (ok : HOk P w H h) (e : Rd H a (.dT kvs)) : kvs.length ≤ sizeLine ∧ (a == sysModules) = false ∧
    ∃ xs, KT H kvs xs ∧ h.DictOfH (tupleKind (mixKind P w)) a xs := by
  obtain ⟨z, y, xs, r, o, es, ep, h1, h2, h3, h4, h5⟩ := (show ObjOk P w H h a (.dT kvs) from rd_of ok e)
  refine ⟨z, y, xs, r, o, es, ep, h1, h2, h3, h4, fun x hx => ?_, h5⟩
  have all : ∀ {l : List (List Key × V)} {m : List (List Key × Addr × Value)}, KT H l m → ∀ x ∈ m, (tupleKind (mixKind P w)).is h x.1 x.2.1 := by
    intro l m q
    induction q with
    | nil => intro x hx; exact nomatch hx
    | @cons p q ps qs hq t ih =>
      intro x hx
      rcases List.mem_cons.mp hx with e | hx
      · subst e
        exact key_of ok (by rw [← hq.1]; exact hq.2.1)
      · exact ih x hx
  exact all r x hx
theorem dt_of {kvs : List (List Key × V)} (ok : HOk P w H h) (e : H a = some (.dT kvs)) : kvs.length ≤ sizeLine ∧ (a == sysModules) = false ∧
    ∃ xs, KT H kvs xs ∧ h.DictOfH (tupleKind (mixKind P w)) a xs := dt_rd ok (.inl e)
end
def DGet (H : Hp) (a : Addr) (y : V) (r : Option V) : Prop :=
  (∃ kvs k, Rd H a (.dK kvs) ∧ y = kV k ∧ r = valV kvs k) ∨ ∃ kvs k b, Rd H a (.dT kvs) ∧ y = .ref b ∧ H b = some (.tup (k.map kV)) ∧ r = valV kvs k
def DPut (H : Hp) (a : Addr) (y v : V) (H' : Hp) : Prop :=
  (∃ kvs k, H a = some (.dK kvs) ∧ y = kV k ∧ kvs.length < sizeLine ∧ H' = upd H a (.dK (putK kvs k v))) ∨
  ∃ kvs k b, H a = some (.dT kvs) ∧ y = .ref b ∧ H b = some (.tup (k.map kV)) ∧ kvs.length < sizeLine ∧ H' = upd H a (.dT (putK kvs k v))
theorem DGet.k {H : Hp} {a : Addr} {kvs : List (Key × V)} {k : Key} (e : H a = some (.dK kvs)) : DGet H a (kV k) (valV kvs k) := .inl ⟨kvs, k, .inl e, rfl, rfl⟩
theorem DGet.t {H : Hp} {a b : Addr} {kvs : List (List Key × V)} {k : List Key} (e : H a = some (.dT kvs)) (eb : H b = some (.tup (k.map kV))) : DGet H a (.ref b) (valV kvs k) := .inr ⟨kvs, k, b, .inl e, rfl, eb, rfl⟩
theorem DPut.k {H : Hp} {a : Addr} {kvs : List (Key × V)} {k : Key} {v : V} (e : H a = some (.dK kvs)) (hl : kvs.length < sizeLine) : DPut H a (kV k) v (upd H a (.dK (putK kvs k v))) := .inl ⟨kvs, k, e, rfl, hl, rfl⟩
theorem DPut.t {H : Hp} {a b : Addr} {kvs : List (List Key × V)} {k : List Key} {v : V} (e : H a = some (.dT kvs)) (eb : H b = some (.tup (k.map kV))) (hl : kvs.length < sizeLine) :
    DPut H a (.ref b) v (upd H a (.dT (putK kvs k v))) := .inr ⟨kvs, k, b, e, rfl, eb, hl, rfl⟩
section
variable {X : Cx} {pins : List (Addr × Obj)} {σ : St} {H : Hp} {s : Shared} {a : Addr} {y v : V} {u r : Value} {o : Option V} {A : Around} {E : Value → Shared → Prop}
theorem Inv.big (I : Inv X pins σ H s) : sysModules < s.heap.objs.size := by
  have h : mainGlobals < s.heap.objs.size := (I.mod.glob.keeps I.bk).lt
  exact Nat.lt_trans (by decide) h
theorem d_in {Q : Value → Shared → Prop} (hu : A.units + 1 < cLine) (I : Inv X pins σ H s) (g : DGet H a y o) (ry : RelV y u) (h : ∀ s', Inv X pins σ H s' → Q (.bool o.isSome) s') :
    wpAny (model X.prog X.w) A (compareOp .In u (.ref a)) Q E s := by
  rcases g with ⟨kvs, k, e, ey, l⟩ | ⟨kvs, k, b, e, ey, eb, l⟩
  · subst ey
    obtain ⟨z, hd, vs, rel, dd⟩ := dk_rd I.hok e
    refine wpAny_in_of (kV_is ry) hd dd.mapOf ?_
    rw [← (rel.val k).isSome_eq, ← l]
    exact h _ (I.tok _)
  · subst ey
    cases (show u = Value.ref b from ry)
    obtain ⟨z, hd, xs, rel, dd⟩ := dt_rd I.hok e
    refine wpAny_in_heap (tupleKind_room_in1 hu) (key_of I.hok eb) hd dd ?_
    have q := (rel.val k).isSome_eq
    rw [Option.isSome_map] at q
    rw [← q, ← l]
    exact h _ (I.tok _)
theorem d_write {h' : Heap} {t' : Nat} {ob : HO} (I : Inv X pins σ H s) (mu : Mut (H a)) (hs : Heap.SameBut a s.heap h') (he : ∃ q, h'.get? a = some q) (new : ObjOk X.prog X.w (upd H a ob) h' a ob) :
    Inv X pins σ (upd H a ob) { s with heap := h', toks := t' } :=
  I.write (x := a) (e := a) mu (.inl rfl) (fun b q hb z => (hs.2 b hb).trans z) he new
theorem dk_new {P : Program} {w : World} {H' : Hp} {h' : Heap} {kvs : List (Key × V)} {vs : List (Key × Value)} (z : kvs.length ≤ sizeLine) (hd : (a == sysModules) = false) (rel : KV kvs vs) (dd : h'.DictOf (mixKind P w) a vs) :
    ObjOk P w H' h' a (.dK kvs) := ⟨z, hd, vs, rel, dd⟩
theorem d_setItem {H' : Hp} {Q : Unit → Shared → Prop} (hu : A.units + 1 < cLine) (I : Inv X pins σ H s) (g : DPut H a y v H') (ry : RelV y u) (rv : RelV v r) (h : ∀ s', Inv X pins σ H' s' → Q () s') :
    wpAny (model X.prog X.w) A (setItem (.ref a) u r) Q E s := by
  rcases g with ⟨kvs, k, e, ey, l, eH⟩ | ⟨kvs, k, b, e, ey, eb, l, eH⟩
  · subst ey eH
    obtain ⟨z, hd, vs, rel, dd⟩ := dk_of I.hok e
    have hz : vs.length ≤ sizeLine := by rw [← rel.length]; exact z
    have hl : (putK kvs k v).length ≤ sizeLine := by have := length_putK kvs k v; omega
    refine wpAny_setItem_pairs (hsz := hz) (kV_is ry) dd fun h' dd' hs => h _ ?_
    have he : ∃ q, h'.get? a = some q := let ⟨q, _, _, hq, _⟩ := dd'; ⟨q, hq⟩
    exact d_write I (by rw [e]; exact True.intro) hs he (dk_new hl hd (rel.put k rv) dd')
  · subst ey eH
    cases (show u = Value.ref b from ry)
    obtain ⟨z, hd, xs, rel, dd⟩ := dt_of I.hok e
    have hz : xs.length ≤ sizeLine := by rw [← Paired.length rel]; exact z
    have hl : (putK kvs k v).length ≤ sizeLine := by have := length_putK kvs k v; omega
    refine wpAny_setItem_heap (hsz := hz) (tupleKind_room_in1 hu) (key_of I.hok eb) dd fun h' dd' hs => h _ ?_
    obtain ⟨q, es, ep, hq, h2, h3, h4, _, h5⟩ := dd'
    refine d_write I (by rw [e]; exact True.intro) hs ⟨q, hq⟩ ⟨hl, hd, _, (rel.put k eb rv).keeps fun c ys ec => ?_, q, es, ep, hq, h2, h3, h4, h5⟩
    rw [upd_ne (ne_of ec e (fun z => nomatch z))]
    exact ec
end
section
variable {X : Cx} {pins : List (Addr × Obj)} {σ : St} {H : Hp} {s : Shared} {a : Addr} {kvs : List (Key × V)} {k : Key} {u : Value} {A : Around} {E : Value → Shared → Prop}
end
def NoSl (i : Expr) : Prop := ∀ ov iv, subscripted i false ov iv = operate [ov, iv] (getItem ov iv)
theorem subD_of {prog : Program} {w : World} {A : Around} {E : Value → Shared → Prop} {s : Shared} {env : Env} {value slice : Expr} {pos : Pos} {T id : String} {Q : Value → Shared → Prop}
    (hl : typeLookup (.type T) "__getitem__" = pure (some (.builtin id))) (hs : NoSl slice)
    (h : wpAny (model prog w) A (eval value env) (fun o s₁ => wpAny (model prog w) A (eval slice env) (fun i s₂ => s₂.TypeIs o T ∧ wpAny (model prog w) A (getItem o i) Q E s₂) E s₁) E s) :
    wpAny (model prog w) A (eval (.Subscript value slice pos) env) Q E s := by
  refine Subscript_ (wpAny_mono h (fun o s₁ h₁ => wpAny_mono h₁ (fun i s₂ h₂ => ?_) fun _ _ x => x) fun _ _ x => x)
  obtain ⟨hT, h₂⟩ := h₂
  unfold subscriptTail
  refine wpAny_bind ?_
  rw [getitemInPython_of_ne hT.not_modules]
  refine wpAny_bind (wpAny_specialOf hT hl ?_)
  have fin : wpAny (model prog w) A (subscripted slice false o i) (fun r s₃ => wpAny (model prog w) A (letTemporaryGo value o r >>= fun _ => pure r) Q E s₃) E s₂ := by
    rw [hs o i]
    exact wpAny_operating (wpAny_mono h₂ (fun r s₃ h₃ => wpAny_bind (wpAny_letTemporaryGo (wpAny_pure h₃))) fun _ _ x => x)
  first
    | exact wpAny_pure (wpAny_bind fin)
    | exact wpAny_bind (wpAny_pure (wpAny_bind fin))
    | exact wpAny_bind fin
def tDIn (ty td : TE) : TE := fun σ H Q => ty σ H fun y H1 => td σ H1 fun x H2 => ∃ a o, x = .ref a ∧ DGet H2 a y o ∧ Q (.bl o.isSome) H2
def sDPut (td ty tv : TE) : TS := fun D σ H => tv σ H fun v H1 => td σ H1 fun x H2 => ty σ H2 fun y H3 => ∃ a H4, x = .ref a ∧ DPut H3 a y v H4 ∧ D.nx σ H4
section
variable {X : Cx} {o i e value : Expr} {pos pos' tpos : Pos} {td ty tv : TE}
theorem pc_din (hu : X.A.units + 1 < cLine) (hi : PE X i ty) (ho : PE X o td) : PC X .In i o (tDIn ty td) := by
  intro pins s σ H Q I h
  refine thn (hi pins s σ H _ I h) fun iv s1 ⟨y, H1, I1, ry, q1⟩ => thn (ho pins s1 σ H1 _ I1 q1) fun u s2 ⟨x, H2, I2, rx, a, ov, ex, g, q2⟩ => ?_
  subst ex
  obtain rfl : u = Value.ref a := rx
  exact d_in hu I2 g ry fun s3 I3 => ⟨.bl ov.isSome, H2, I3, rfl, q2⟩
theorem ps_dput (hu : X.A.units + 1 < cLine) (ho : PE X o td) (hi : PE X i ty) (hv : PE X value tv) (hs : swapsWith value (some (.Subscript o i pos')) pos.line X.env = pure false) :
    PS X (.Assign [.Subscript o i pos'] value pos) (sDPut td ty tv) := by
  intro pins s σ H D I h
  refine wpAny_Assign_Subscript (thn (hv pins s σ H _ I h) fun r s1 ⟨v, H1, I1, rv, q1⟩ => thn (ho pins s1 σ H1 _ I1 q1) fun u s2 ⟨x, H2, I2, rx, q2⟩ => thn (hi pins s2 σ H2 _ I2 q2) fun iv s3 ⟨y, H3, I3, ry, a, H4, ex, g, q3⟩ => ?_) hs
  subst ex
  obtain rfl : u = Value.ref a := rx
  exact d_setItem hu I3 g ry rv fun s4 I4 => ⟨σ, H4, I4, q3⟩
end
theorem dk_empty {P : Program} {w : World} {H : Hp} (h : Heap) (hb : sysModules < h.objs.size) : ObjOk P w H (h.push { cls := .type "dict", data := .dict #[] }) h.objs.size (.dK []) :=
  ⟨Nat.zero_le _, beq_eq_false_iff_ne.mpr (Ne.symm (Nat.ne_of_lt hb)), [], .nil, Heap.DictOf.new h⟩
theorem dt_empty {P : Program} {w : World} {H : Hp} (h : Heap) (hb : sysModules < h.objs.size) : ObjOk P w H (h.push { cls := .type "dict", data := .dict #[] }) h.objs.size (.dT []) :=
  ⟨Nat.zero_le _, beq_eq_false_iff_ne.mpr (Ne.symm (Nat.ne_of_lt hb)), [], .nil, _, #[], 0, Heap.get?_push_size _ rfl, ⟨rfl, rfl, rfl⟩, rfl, rfl, List.nodup_nil⟩
def tDNewK : TE := fun _ H Q => ∀ p, H p = none → Q (.ref p) (upd H p (.dK []))
def tDNewT : TE := fun _ H Q => ∀ p, H p = none → Q (.ref p) (upd H p (.dT []))
section
variable {X : Cx} {pos : Pos}
theorem pe_dnewK : PE X (.Dict [] [] pos) tDNewK := fun pins s σ H Q I h =>
  wpAny_Dict_empty ⟨.ref s.heap.objs.size, _, I.laid (a := s.heap.objs.size) (o := .dK []) (t' := s.toks) (fun _ _ q => Heap.get?_push_of_some _ q) (Nat.le_refl _) (dk_empty s.heap I.big), rfl, h _ (I.hok.fresh (Nat.le_refl _))⟩
theorem pe_dnewT : PE X (.Dict [] [] pos) tDNewT := fun pins s σ H Q I h =>
  wpAny_Dict_empty ⟨.ref s.heap.objs.size, _, I.laid (a := s.heap.objs.size) (o := .dT []) (t' := s.toks) (fun _ _ q => Heap.get?_push_of_some _ q) (Nat.le_refl _) (dt_empty s.heap I.big), rfl, h _ (I.hok.fresh (Nat.le_refl _))⟩
end
structure M2 (X : Cx) (o : Expr) (m : Str) (apos : Pos) (e f : Expr) (cpos : Pos) : Prop where
  base : attributeBase o m X.env (eval o X.env) = eval o X.env
  few : ((backTo cpos (starEach [e, f] X.env)).all (fun x => !x.1) && (backToKw cpos (keywordEach [] X.env)).all (fun x => x.1.isSome)
    && decide (([e, f] : List Expr).length + ([] : List Keyword).length + (if ([] : List Keyword).isEmpty then 0 else 1) < 30)) = true
  line : (apos.endLine == cpos.line) = true
  trees : backTo cpos (starEach [e, f] X.env) = [(false, eval e X.env), (false, eval f X.env)]
def IsD (H : Hp) (a : Addr) : Prop := (∃ kvs, Rd H a (.dK kvs)) ∨ ∃ kvs, Rd H a (.dT kvs)
theorem isD_at {X : Cx} {pins : List (Addr × Obj)} {σ : St} {H : Hp} {s : Shared} {a : Addr} (I : Inv X pins σ H s) (d : IsD H a) :
    s.TypeIs (.ref a) "dict" ∧ (∀ b, Value.ref a = .ref b → ∃ ob, s.heap.get? b = some ob ∧ ob.dict = none) ∧ (a == sysModules) = false := by
  rcases d with ⟨kvs, e⟩ | ⟨kvs, e⟩
  · obtain ⟨_, hd, vs, _, dd⟩ := dk_rd I.hok e
    refine ⟨dd.typeIs, fun b q => ?_, hd⟩
    cases q
    obtain ⟨ob, _, _, h1, h2, _⟩ := dd
    exact ⟨ob, h1, h2.2.1⟩
  · obtain ⟨_, hd, xs, _, dd⟩ := dt_rd I.hok e
    refine ⟨dd.typeIs, fun b q => ?_, hd⟩
    cases q
    obtain ⟨ob, _, _, h1, h2, _⟩ := dd
    exact ⟨ob, h1, h2.2.1⟩
section
variable {X : Cx} {pins : List (Addr × Obj)} {σ : St} {H : Hp} {s : Shared} {a : Addr} {y d : V} {u r : Value} {o : Option V} {A : Around} {E : Value → Shared → Prop}
theorem d_get2 {Q : Value → Shared → Prop} (hu : A.units + 1 < cLine) (I : Inv X pins σ H s) (g : DGet H a y o) (ry : RelV y u) (rd : RelV d r) (h : ∀ w' s', Inv X pins σ H s' → RelV (o.getD d) w' → Q w' s') :
    wpAny (model X.prog X.w) A (call (.builtin "dict.get") [.ref a, u, r]) Q E s := by
  rcases g with ⟨kvs, k, e, ey, l⟩ | ⟨kvs, k, b, e, ey, eb, l⟩
  · subst ey
    obtain ⟨z, hd, vs, rel, dd⟩ := dk_rd I.hok e
    refine call_meetsIn PySem.F.slot_dict_get dd.typeIs PySem.F.entry_dict_get (PySem.F.args_dict_get_3 _ _ _) (meets_dict_get_default (mixKind X.prog X.w) a (kV_is ry) hd r) ⟨_, dd.mapOf, h _ _ (I.tok _) ?_⟩
    rw [l]
    exact (rel.val k).getD rd
  · subst ey
    cases (show u = Value.ref b from ry)
    obtain ⟨z, hd, xs, rel, dd⟩ := dt_rd I.hok e
    refine call_meetsIn PySem.F.slot_dict_get dd.typeIs PySem.F.entry_dict_get (PySem.F.args_dict_get_3 _ _ _) (meetsH_dict_get_default (tupleKind (mixKind X.prog X.w)) a b hd r) ⟨tupleKind_room_in1 hu, k, xs, key_of I.hok eb, dd, h _ _ (I.tok _) ?_⟩
    rw [l]
    exact (rel.val k).getD rd
end
def tDGet2 (td ty tx : TE) : TE := fun σ H Q => td σ H fun x H1 => ∃ a, x = .ref a ∧ IsD H1 a ∧ ty σ H1 fun y H2 => tx σ H2 fun z H3 => ∃ o, DGet H3 a y o ∧ Q (o.getD z) H3
section
variable {X : Cx} {o e f : Expr} {apos cpos : Pos} {td ty tx : TE}
theorem pe_dget2 (hu : X.A.units + 1 < cLine) (ho : PE X o td) (he : PE X e ty) (hf : PE X f tx) (m : M2 X o "get" apos e f cpos) : PE X (.Call (.Attribute o "get" apos) [e, f] [] cpos) (tDGet2 td ty tx) := by
  intro pins s σ H Q I h
  refine wpAny_Call_method m.base m.few m.line PySem.F.plainAttrs_dict PySem.F.slot_dict_get PySem.F.type_dict_get (thn (ho pins s σ H _ I h) fun u s1 ⟨x, H1, I1, rx, a, ex, d, q1⟩ => ?_)
  subst ex
  obtain rfl : u = Value.ref a := rx
  obtain ⟨t1, t2, _⟩ := isD_at I1 d
  refine ⟨t1, t2, ?_⟩
  rw [m.trees]
  refine Calls.callWith_builtin rfl (Calls.evalArgs_plain (Calls.spliced_cons (thn (he pins s1 σ H1 _ I1 q1) fun iv s2 ⟨y, H2, I2, ry, q2⟩ =>
    Calls.spliced_cons (thn (hf pins s2 σ H2 _ I2 q2) fun fv s3 ⟨z, H3, I3, rz, ov, g, q3⟩ => Calls.spliced_nil ?_))))
  exact d_get2 hu I3 g ry rz fun w' s4 I4 rw' => ⟨_, H3, I4, rw', q3⟩
end
section
variable {X : Cx} {pins : List (Addr × Obj)} {σ : St} {H : Hp} {s : Shared} {a : Addr} {kvs : List (Key × V)} {A : Around} {E : Value → Shared → Prop}
end
section
variable {X : Cx} {pins : List (Addr × Obj)} {σ : St} {H : Hp} {s : Shared} {a : Addr} {y : V} {u : Value} {A : Around} {E : Value → Shared → Prop}
end
end L2
namespace L2
open PySem PySem.Spec PyProof.Rows
section
variable {prog : Program} {w : World} {A : Around} {E : Value → Shared → Prop}
end
section
variable {X : Cx}
end
end L2
namespace L2
open PySem PySem.Spec PyProof.Rows
section
variable {X : Cx} {pins : List (Addr × Obj)} {σ : St} {H : Hp} {s : Shared} {h' : Heap}
end
section
variable {X : Cx}
end
section
variable {X : Cx} {tg : Expr}
end
section
variable {X : Cx} {tg : Expr}
end
section
variable {prog : Program} {w : World} {A : Around} {E : Value → Shared → Prop} {s : Shared}
end
section
variable {X : Cx} {pins : List (Addr × Obj)} {σ : St} {H : Hp} {s : Shared} {d : Addr} {o : Obj}
end
section
variable {P : Program} {w : World} {K : PySem.W.Frag} {tg : Expr} {d : Addr} {o : Obj} {es : Array DictEntry} {ep : Nat}
end
section
variable {X : Cx} {tg e : Expr} {td : TE} {apos cpos : Pos}
end
end L2
section
namespace Bits
open PySem PyProof.Rows
end Bits
end
section
namespace TL
open PySem PySem.Builtin PySem.Builtin.Str PySem.StrLaws
abbrev tl (x : Str) : List Nat := x.cps.toList
theorem tl_append (x y : Str) : tl (x ++ y) = tl x ++ tl y := by
  show (x ++ y).cps.toList = _
  rw [Str.cps_append, Array.toList_append]
def joinL (S : List Nat) : List (List Nat) → List Nat
  | [] => []
  | [p] => p
  | p :: q :: r => p ++ (S ++ joinL S (q :: r))
theorem tl_join (y : Str) : ∀ parts : List Str, tl (Str.join y parts) = joinL (tl y) (parts.map tl)
  | [] => rfl
  | [_] => rfl
  | x :: z :: r => by
    show tl (x ++ y ++ Str.join y (z :: r)) = tl x ++ (tl y ++ joinL (tl y) ((z :: r).map tl))
    rw [tl_append, tl_append, tl_join y (z :: r), List.append_assoc]
theorem join_eq (y : Str) (parts : List Str) : Txt.join y parts = Str.join y parts := glued_eq_join y parts
end TL
end
namespace L2
open PySem PySem.Spec PyProof.Rows
theorem strs_of_vals : ∀ {ys : List Str} {us : List Value}, Vals (ys.map V.str) us → StrsAre us ys
  | [], _, .nil => .nil
  | y :: ys, _, .cons r t => by
    obtain ⟨k, rfl⟩ := r
    exact .cons y k (strs_of_vals t)
section
variable {X : Cx} {pins : List (Addr × Obj)} {σ : St} {H : Hp} {s : Shared} {Q : VK}
end
section
variable {X : Cx}
theorem mt_join : MtR X "str.join" (fun x xs H Q => ∃ a p, ∃ ys : List Str, x = .str a ∧ xs = [.ref p] ∧ (SqL X.K H p (ys.map V.str) ∨ SqT X.K H p (ys.map V.str)) ∧
    (ys.map (·.length)).sum + ys.length * a.length ≤ 16777216 ∧ Q (.str (Txt.join a ys)) H) := by
  intro pins s σ H x xs v us Q I rx rs h
  obtain ⟨a, p, ys, rfl, rfl, hp, hz, h⟩ := h
  obtain ⟨t, rfl⟩ := rx
  cases rs with
  | cons r1 rs =>
    cases rs
    cases r1
    rcases hp with hp | hp
    · obtain ⟨its, r, ⟨o, n, ho, hc, _, hd⟩, _⟩ := I.list hp
      exact PyProof.Rows.join_list (items := its.toArray) ⟨o, ho, hc, n, hd⟩ (by rw [List.toList_toArray]; exact strs_of_vals r) hz fun t' k => ⟨.str _, H, I.tok k, ⟨t', rfl⟩, h⟩
    · obtain ⟨its, r, ht, _⟩ := I.tuple hp
      exact PyProof.Rows.join_tuple (items := its.toArray) ht (by rw [List.toList_toArray]; exact strs_of_vals r) hz fun t' k => ⟨.str _, H, I.tok k, ⟨t', rfl⟩, h⟩
end
section
variable {X : Cx} {o e : Expr} {to te : TE}
def tM1 (r : V → List V → Hp → VK → Prop) (to te : TE) : TE := fun σ H Q => to σ H fun x H1 => (∃ a, x = .str a) ∧ te σ H1 fun y H2 => r x [y] H2 Q
theorem pe_m1 {id : String} {name : Str} {apos pos : Pos} {r : V → List V → Hp → VK → Prop} (slot : Slot "str" name id) (ty : typeOf (.builtin id) = pure (.type "method_descriptor")) (rule : MtR X id r) (ho : PE X o to) (he : PE X e te)
    (hs : starEach [e] X.env = [(false, eval e X.env)] := by rfl) (hbase : attributeBase o name X.env (eval o X.env) = eval o X.env := by rfl) (hline : (apos.endLine == pos.line) = true := by rfl) :
    PE X (.Call (.Attribute o name apos) [e] [] pos) (tM1 r to te) := by
  intro pins s σ H Q I h
  refine PySem.Call_method1 hbase hs hline (thn (ho pins s σ H _ I h) fun v s1 ⟨x, H1, I1, r1, q1⟩ => ?_)
  obtain ⟨⟨a, rfl⟩, q1⟩ := q1
  obtain ⟨t, rfl⟩ := _root_.id r1
  refine ⟨"str", _, F.plainAttrs_str, slot, ty, typeIs_str _ _ _, (fun _ e => nomatch e), Calls.callWith_builtin rfl (Calls.evalArgs_plain (Calls.spliced_cons ?_))⟩
  exact thn (he pins s1 σ H1 _ I1 q1) fun u s2 ⟨y, H2, I2, r2, q2⟩ => Calls.spliced_nil (rule pins s2 σ H2 _ [y] _ [u] Q I2 r1 (.cons r2 .nil) q2)
theorem pe_join {apos pos : Pos} (ho : PE X o to) (he : PE X e te) (hs : starEach [e] X.env = [(false, eval e X.env)] := by rfl) (hbase : attributeBase o "join" X.env (eval o X.env) = eval o X.env := by rfl) (hline : (apos.endLine == pos.line) = true := by rfl) :
    PE X (.Call (.Attribute o "join" apos) [e] [] pos) (tM1 (fun x xs H Q => ∃ a p, ∃ ys : List Str, x = .str a ∧ xs = [.ref p] ∧ (SqL X.K H p (ys.map V.str) ∨ SqT X.K H p (ys.map V.str)) ∧
      (ys.map (·.length)).sum + ys.length * a.length ≤ 16777216 ∧ Q (.str (Txt.join a ys)) H) to te) :=
  pe_m1 F.slot_str_join F.type_str_join mt_join ho he hs hbase hline
end
end L2
namespace L2
open PySem PySem.Spec PyProof.Rows
section
variable {X : Cx}
end
end L2
namespace Att
open PySem PySem.W PySem.Calls PyProof.Rows
section
variable {prog : Program} {w : World} {A : Around} {E : Value → Shared → Prop} {s : Shared} {K : Frag}
end
end Att
namespace L2
open PySem PySem.Spec PyProof.Rows
end L2
namespace L2
open PySem PySem.Spec PyProof.Rows
end L2
namespace L2
open PySem PySem.Spec PyProof.Rows
def inClass (s : Stmt) (j : Nat) : Stmt := match s with
  | .ClassDef _ _ _ body _ _ _ _ _ _ _ => body.getD j (.Pass ⟨0, 0, 0, 0⟩)
  | _ => .Pass ⟨0, 0, 0, 0⟩
def defArgs (s : Stmt) : Arguments := match s with
  | .FunctionDef _ a _ _ _ _ _ _ _ _ => a
  | _ => { posonlyargs := [], args := [], vararg := none, kwonlyargs := [], kw_defaults := [], kwarg := none, defaults := [] }
def defBody (s : Stmt) : List Stmt := match s with
  | .FunctionDef _ _ b _ _ _ _ _ _ _ => b
  | _ => []
def defScope (s : Stmt) : Scope := match s with
  | .FunctionDef _ _ _ _ _ _ sc _ _ _ => sc
  | _ => { kind := .function, names := [], isGenerator := false, isCoroutine := false }
abbrev CX0 : CXT := fun _ _ _ _ _ _ => False
abbrev E0 : XK := fun _ _ _ => False
theorem pass0 {X : Cx} : Passes CX0 X E0 := fun _ _ _ _ _ _ _ h => h.elim
structure Fun (K : PySem.W.Frag) (x qual : Str) (st : Stmt) (f : Addr) (fd : FuncData) : Prop where
  ex : ∃ (oc : Value) (od : Option Addr) (kV doc pm : Value) (an : Option Addr) (cdv ct : Value) (osl : Array (Option Value)),
    fd = PySem.W.fnOf x qual (defArgs st) (defBody st) (defScope st) .none kV doc pm an cdv ct ∧ K.lookup f = some ⟨oc, od, .func fd, osl⟩ ∧ PySem.W.codeIn K cdv qual = true
  kp : PySem.W.keepIn K (.ref f) = true
section
variable {P : Program} {w : World} {K : PySem.W.Frag} {mg : Str → Option Value} {base : Heap}
theorem Fun.ok {x qual : Str} {st : Stmt} {f : Addr} {fd : FuncData} {N ps : List Str} {k : Nat} {sp : Sp} (F : Fun K x qual st f fd) (S : FnScope N ps (defScope st)) (len : ∀ vs H Q E, sp vs H Q E → vs.length = ps.length)
    (hbody : ∀ (cdv : Value) (A : Around) (outer : List Env) (s : Shared) (H : Hp) (vs : List V) (Q : VK) (E : XK), Room k (A.deeper (envOfC qual (defScope st) s.heap.objs.size f cdv)) → sp vs H Q E →
      ∃ t, PSs (cxOf CX0 P w K mg base N qual (defScope st) f cdv A outer s H E).nox (defBody st) t ∧ t { nx := fun _ H' => Q .non H', rt := Q } (start N vs) H) : FnOk P w K mg base CX0 (k + 1) f fd ps sp := by
  obtain ⟨oc, od, kV, doc, pm, an, cdv, ct, osl, rfl, lk, hcd⟩ := F.ex
  refine fn_of lk hcd S len fun A outer s H vs Q E hr hsp => ?_
  obtain ⟨t, h, q⟩ := hbody cdv A outer s H vs Q E hr hsp
  exact ⟨t, h.nox, q⟩
theorem Fun.binds {x qual : Str} {st : Stmt} {f : Addr} {fd : FuncData} {ps : List Str} (F : Fun K x qual st f fd)
    (h : ∀ (kV doc pm : Value) (an : Option Addr) (cdv ct : Value) (us : List Value), us.length = ps.length → bindArgs (PySem.W.fnOf x qual (defArgs st) (defBody st) (defScope st) .none kV doc pm an cdv ct) ⟨us, []⟩ = pure (ps.zip us)) : Binds K fd ps [] := by
  obtain ⟨oc, od, kV, doc, pm, an, cdv, ct, osl, rfl, lk, hcd⟩ := F.ex
  exact .all (h kV doc pm an cdv ct)
theorem fun_mk {x qual : Str} {st : Stmt} {f : Addr} {oc : Value} {od an : Option Addr} {osl : Array (Option Value)} {kV doc pm cdv ct : Value} (l : K.lookup f = some ⟨oc, od, .func (PySem.W.fnOf x qual (defArgs st) (defBody st) (defScope st) .none kV doc pm an cdv ct), osl⟩)
    (c : PySem.W.codeIn K cdv qual = true) (k : PySem.W.keepIn K (.ref f) = true) : Fun K x qual st f (PySem.W.fnOf x qual (defArgs st) (defBody st) (defScope st) .none kV doc pm an cdv ct) := ⟨⟨oc, od, kV, doc, pm, an, cdv, ct, osl, rfl, l, c⟩, k⟩
end
theorem hu_of {A : Around} {k : Nat} (hr : Room k A) : A.units + 1 < cLine := Nat.lt_of_le_of_lt (Nat.add_le_add_left (by decide : 1 ≤ 64) _) hr.units
theorem small1000 {n : Nat} (h : n ≤ 1000) : n < sizeLine := Nat.lt_of_le_of_lt h (by decide)
section
variable {X : Cx}
theorem pv (i : Nat) {x : Str} {pos : Pos} (hN : X.N[i]? = some x := by rfl) (hv : Vis X.env.scope x := by first | exact Or.inl rfl | exact Or.inr (Or.inl rfl) | exact Or.inr (Or.inr rfl)) (hd : (x == ("__debug__" : Str)) = false := by decide)
    (hcd : (x == ("__classdict__" : Str)) = false := by decide) : PE X (.Name x pos) (tVar i) := pe_var hN hv hd hcd
end
theorem iteF {A B : Prop} (h : B) : if false = true then A else B := by
  rw [if_neg Bool.false_ne_true]
  exact h
theorem iteT {A B : Prop} (h : A) : if true = true then A else B := by
  rw [if_pos rfl]
  exact h
theorem ite2 {c A B : Prop} [Decidable c] (h1 : c → A) (h2 : ¬ c → B) : if c then A else B := by
  by_cases h : c
  · rw [if_pos h]
    exact h1 h
  · rw [if_neg h]
    exact h2 h
theorem iteNS {c A B : Prop} [Decidable c] (hc : c) (h : B) : if (!decide c) = true then A else B := by
  rw [decide_eq_true hc]
  exact iteF h
def Same (H H' : Hp) : Prop := ∀ b o, H b = some o → H' b = some o
theorem Same.refl (H : Hp) : Same H H := fun _ _ h => h
theorem Same.trans {H H1 H2 : Hp} (a : Same H H1) (b : Same H1 H2) : Same H H2 := fun c o h => b c o (a c o h)
theorem Same.free {H H' : Hp} (e : Same H H') {l : Addr} (h : H' l = Option.none) : H l = Option.none := by
  cases q : H l with
  | none => rfl
  | some o =>
    rw [e l o q] at h
    cases h
theorem Same.seq {K : PySem.W.Frag} {H H' : Hp} {a : Addr} {xs : List V} (e : Same H H') (h : SqL K H a xs) : SqL K H' a xs := by
  rcases h with (h | ⟨o, h⟩) | h
  · exact .inl (.inl (e _ _ h))
  · exact .inl (.inr ⟨o, e _ _ h⟩)
  · exact .inr h
section
variable {κ : Type} [DecidableEq κ]
end
theorem Same.made {H H1 : Hp} {x dx C : Addr} (nx : H x = Option.none) (nd : H dx = Option.none) (k : ∀ b o, (upd (upd H dx (.own x)) x (.ins C dx [])) b = some o → b ≠ x → H1 b = some o) : Same H H1 := fun b o e =>
  k b o (by rw [upd_ne (ne_of_none e nx), upd_ne (ne_of_none e nd)]; exact e) (ne_of_none e nx)
end L2
end
section
section
set_option Elab.async false
set_option linter.all false
set_option maxRecDepth 100000
set_option maxHeartbeats 2000000
namespace L2
open PySem PySem.Spec PyProof.Rows
open PySem.W (WData Codec OpenSpec Well WellAll ReadsW ReadsAllW)
mutual
inductive Dw (K : PySem.W.Frag) (H : Hp) : V → WData → Prop
  | non : Dw K H .non .none
  | bl (b : Bool) : Dw K H (.bl b) (.bool b)
  | int (i : Int) : Dw K H (.int i) (.int i)
  | str (x : Str) : Dw K H (.str x) (.str x)
  | byt (b : Array UInt8) : Dw K H (.byt b) (.bytes b.toList)
  | lst {a : Addr} {xs : List V} {ds : List WData} : SqL K H a xs → DwAll K H xs ds → Dw K H (.ref a) (.list ds)
  | tup {a : Addr} {xs : List V} {ds : List WData} : SqT K H a xs → DwAll K H xs ds → Dw K H (.ref a) (.tuple ds)
inductive DwAll (K : PySem.W.Frag) (H : Hp) : List V → List WData → Prop
  | nil : DwAll K H [] []
  | cons {v : V} {vs : List V} {d : WData} {ds : List WData} : Dw K H v d → DwAll K H vs ds → DwAll K H (v :: vs) (d :: ds)
end
theorem dw_ints {K : PySem.W.Frag} {H : Hp} : ∀ ns : List Int, DwAll K H (ns.map V.int) (ns.map WData.int)
  | [] => .nil
  | n :: r => .cons (.int n) (dw_ints r)
theorem ints_dw {K : PySem.W.Frag} {H : Hp} : ∀ (ns : List Int) (xs : List V), DwAll K H xs (ns.map WData.int) → xs = ns.map V.int
  | [], xs, h => by
    cases h
    rfl
  | n :: r, xs, h => by
    cases h with
    | cons h1 h2 =>
      cases h1
      rw [ints_dw r _ h2] <;> rfl
section
variable {P : Program} {w : World} {K : PySem.W.Frag} {H : Hp} {h : Heap} {R : PySem.W.WRecords} {cl : Str → Option Addr}
theorem sqL_at {a : Addr} {xs : List V} (hok : HOk P w H h) (KX : K.In h) (q : SqL K H a xs) : ∃ (its : List Value) (o : Obj) (n : Nat), Vals xs its ∧ h.get? a = some o ∧ o.cls = .type "list" ∧ o.data = .seq its.toArray n := by
  rcases q with q | ⟨o, its, n, e, hc, _, hd, _, hv⟩
  · obtain ⟨_, its, n, hv, e⟩ := (show ObjOk P w H h a (.lst xs) from q.ok hok)
    exact ⟨its, _, n, hv, e, rfl, rfl⟩
  · exact ⟨its.toList, o, n, hv, KX _ _ e, hc, by simp [hd]⟩
theorem sqT_at {a : Addr} {xs : List V} (hok : HOk P w H h) (KX : K.In h) (q : SqT K H a xs) : ∃ (its : List Value) (o : Obj) (n : Nat), Vals xs its ∧ h.get? a = some o ∧ o.cls = .type "tuple" ∧ o.data = .seq its.toArray n := by
  rcases q with q | ⟨o, its, n, e, hc, hd, _, hv⟩
  · obtain ⟨_, its, hv, o, e, hc, n, hd⟩ := (show ObjOk P w H h a (.tup xs) from q.ok hok)
    exact ⟨its, o, n, hv, e, hc, hd⟩
  · exact ⟨its.toList, o, n, hv, KX _ _ e, hc, by simp [hd]⟩
mutual
theorem Dw.reads (hok : HOk P w H h) (KX : K.In h) : ∀ (d : WData) (v : V) (u : Value), Dw K H v d → RelV v u → ∃ as, ReadsW R cl h u d as
  | .none, _, _, x, r => by
    cases x
    cases r
    exact ⟨_, ReadsW.none⟩
  | .bool b, _, _, x, r => by
    cases x
    cases r
    exact ⟨_, ReadsW.bool b⟩
  | .int i, _, _, x, r => by
    cases x
    obtain ⟨t, rfl⟩ := r
    exact ⟨_, ReadsW.int i t⟩
  | .str s, _, _, x, r => by
    cases x
    obtain ⟨t, rfl⟩ := r
    exact ⟨_, ReadsW.str s t⟩
  | .bytes b, _, _, x, r => by
    cases x
    obtain ⟨t, rfl⟩ := r
    exact ⟨_, ReadsW.bytes _ t⟩
  | .list ds, _, _, x, r => by
    cases x with
    | lst hs ha =>
      cases r
      obtain ⟨its, o, n, rv, ho, hc, hd⟩ := sqL_at hok KX hs
      obtain ⟨as, hr⟩ := Dw.readsAll hok KX ds _ its ha rv
      exact ⟨_, ReadsW.list ho hc hd hr⟩
  | .tuple ds, _, _, x, r => by
    cases x with
    | tup hs ha =>
      cases r
      obtain ⟨its, o, n, rv, ho, hc, hd⟩ := sqT_at hok KX hs
      obtain ⟨as, hr⟩ := Dw.readsAll hok KX ds _ its ha rv
      exact ⟨_, ReadsW.tuple ho hc hd hr⟩
  | .float _, _, _, x, _ => by cases x
  | .dict _, _, _, x, _ => by cases x
  | .bytearray _, _, _, x, _ => by cases x
  | .set _, _, _, x, _ => by cases x
  | .frozenset _, _, _, x, _ => by cases x
  | .obj _ _, _, _, x, _ => by cases x
theorem Dw.readsAll (hok : HOk P w H h) (KX : K.In h) : ∀ (ds : List WData) (vs : List V) (us : List Value), DwAll K H vs ds → Vals vs us → ∃ as, ReadsAllW R cl h us ds as
  | [], _, _, x, r => by
    cases x
    cases r
    exact ⟨_, ReadsAllW.nil⟩
  | d :: ds, _, _, x, r => by
    cases x with
    | cons h1 h2 =>
      cases r with
      | cons r1 r2 =>
        obtain ⟨as, q1⟩ := Dw.reads hok KX d _ _ h1 r1
        obtain ⟨bs, q2⟩ := Dw.readsAll hok KX ds _ _ h2 r2
        exact ⟨_, ReadsAllW.cons q1 q2⟩
end
end
mutual
def plW : WData → Bool
  | .none => true
  | .bool _ => true
  | .int _ => true
  | .str _ => true
  | .bytes _ => true
  | .list xs => plWs xs
  | .tuple xs => plWs xs
  | _ => false
def plWs : List WData → Bool
  | [] => true
  | x :: r => plW x && plWs r
end
theorem plWs_map {α : Type} {f : α → WData} (h : ∀ a, plW (f a) = true) : ∀ l : List α, plWs (l.map f) = true
  | [] => rfl
  | x :: r => by
    show (plW (f x) && plWs (r.map f)) = true
    rw [h x, plWs_map h r] <;> rfl
theorem pl_enc : ∀ (c : Codec) (a : c.denote), plW (c.enc a) = true
  | .unit, _ => rfl
  | .bool, _ => rfl
  | .int _ _, _ => rfl
  | .nat _ _, _ => rfl
  | .u8, _ => rfl
  | .bytes _ _, _ => rfl
  | .text _ _ _ _, _ => rfl
  | .list _ _ c, a => plWs_map (fun x => pl_enc c x) a
  | .pair c d, a => by
    show (plW (c.enc a.1) && (plW (d.enc a.2) && true)) = true
    rw [pl_enc c a.1, pl_enc d a.2] <;> rfl
  | .triple c d e, a => by
    show (plW (c.enc a.1) && (plW (d.enc a.2.1) && (plW (e.enc a.2.2) && true))) = true
    rw [pl_enc c a.1, pl_enc d a.2.1, pl_enc e a.2.2] <;> rfl
  | .option c, none => rfl
  | .option c, some x => pl_enc c x
theorem pl_encAll : ∀ (cs : List Codec) (a : Codec.denoteAll cs), plWs (Codec.encAll cs a) = true
  | [], _ => rfl
  | c :: cs, a => by
    show (plW (c.enc a.1) && plWs (Codec.encAll cs a.2)) = true
    rw [pl_enc c a.1, pl_encAll cs a.2] <;> rfl
theorem weight_mem : ∀ {xs : List WData} {d : WData}, d ∈ xs → d.weight ≤ WData.weightAll xs
  | [], d, h => absurd h (by simp)
  | x :: r, d, h => by
    show d.weight ≤ x.weight + 1 + WData.weightAll r
    rcases List.mem_cons.mp h with e | m
    · rw [e]
      omega
    · have z := weight_mem m
      omega
def toV : Value → V
  | .none => .non
  | .bool b => .bl b
  | .int i _ => .int i
  | .str x _ => .str x
  | .bytes b _ => .byt b
  | .ref a => .ref a
  | _ => .non
def OkU (A : List Addr) : Value → Prop
  | .none => True
  | .bool _ => True
  | .int _ _ => True
  | .str _ _ => True
  | .bytes _ _ => True
  | .ref a => a ∈ A
  | _ => False
theorem OkU.mono {A B : List Addr} (h : ∀ a ∈ A, a ∈ B) : ∀ {u : Value}, OkU A u → OkU B u := fun {u} x => by
  cases u with
  | ref a => exact h a x
  | none => trivial
  | bool b => trivial
  | int i t => trivial
  | str s t => trivial
  | bytes b t => trivial
  | _ => exact False.elim x
theorem relV_toV {A : List Addr} {u : Value} (x : OkU A u) : RelV (toV u) u := by
  cases u with
  | ref a => rfl
  | none => rfl
  | bool b => rfl
  | int i t => exact ⟨t, rfl⟩
  | str s t => exact ⟨t, rfl⟩
  | bytes b t => exact ⟨t, rfl⟩
  | _ => exact False.elim x
theorem vals_toV {A : List Addr} : ∀ {vs : List Value}, (∀ u ∈ vs, OkU A u) → Vals (vs.map toV) vs
  | [], _ => .nil
  | u :: r, h => .cons (relV_toV (h u (List.mem_cons_self ..))) (vals_toV fun x hx => h x (List.mem_cons_of_mem _ hx))
def ArgOb (h : Heap) (A : List Addr) (a : Addr) : Prop := ∃ vs : List Value, vs.length ≤ sizeLine ∧ (∀ u ∈ vs, OkU A u) ∧
  (h.get? a = some { cls := .type "list", data := .seq vs.toArray } ∨ h.get? a = some { cls := .type "tuple", data := .seq vs.toArray })
theorem ArgOb.mono {h : Heap} {A B : List Addr} {a : Addr} (k : ∀ a ∈ A, a ∈ B) (x : ArgOb h A a) : ArgOb h B a := by
  obtain ⟨vs, h1, h2, h3⟩ := x
  exact ⟨vs, h1, fun u hu => (h2 u hu).mono k, h3⟩
theorem wellAll_len {P : Params} {h : Heap} : ∀ {vs : List Value} {ds : List WData}, WellAll P h vs ds → vs.length = ds.length
  | _, _, .nil => rfl
  | _, _, .cons _ b => by
    show _ + 1 = _ + 1
    rw [wellAll_len b]
theorem well_list {P : Params} {h : Heap} {v : Value} {ds : List WData} (x : Well P h v (.list ds)) : ∃ (a : Addr) (vs : List Value), v = .ref a ∧ h.get? a = some { cls := .type "list", data := .seq vs.toArray } ∧ WellAll P h vs ds := by
  cases x with
  | list ho hall => exact ⟨_, _, rfl, ho, hall⟩
theorem well_tuple {P : Params} {h : Heap} {v : Value} {ds : List WData} (x : Well P h v (.tuple ds)) : ∃ (a : Addr) (vs : List Value), v = .ref a ∧ h.get? a = some { cls := .type "tuple", data := .seq vs.toArray } ∧ WellAll P h vs ds := by
  cases x with
  | tuple ho hall => exact ⟨_, _, rfl, ho, hall⟩
theorem well_cons {P : Params} {h : Heap} {us : List Value} {d : WData} {ds : List WData} (x : WellAll P h us (d :: ds)) : ∃ (v : Value) (vs : List Value), us = v :: vs ∧ Well P h v d ∧ WellAll P h vs ds := by
  cases x with
  | cons a b => exact ⟨_, _, rfl, a, b⟩
theorem line_of {n : Nat} (h : n ≤ 1048576) : n ≤ sizeLine := Nat.le_trans h (by decide)
section
variable {P : Params} {h : Heap}
mutual
theorem area_one : ∀ (d : WData) (v : Value), Well P h v d → plW d = true → d.weight ≤ 1048576 → ∃ A : List Addr, OkU A v ∧ ∀ a ∈ A, ArgOb h A a
  | .none, _, x, _, _ => by
    cases x
    exact ⟨[], trivial, fun a m => absurd m (by simp)⟩
  | .bool b, _, x, _, _ => by
    cases x
    exact ⟨[], trivial, fun a m => absurd m (by simp)⟩
  | .int i, _, x, _, _ => by
    cases x
    exact ⟨[], trivial, fun a m => absurd m (by simp)⟩
  | .str s, _, x, _, _ => by
    cases x
    exact ⟨[], trivial, fun a m => absurd m (by simp)⟩
  | .bytes b, _, x, _, _ => by
    cases x
    exact ⟨[], trivial, fun a m => absurd m (by simp)⟩
  | .list ds, _, x, p, z => by
    obtain ⟨a, vs, rfl, ho, hall⟩ := well_list x
    have z2 : WData.weightAll ds ≤ 1048576 := z
    obtain ⟨A, h1, h2⟩ := area_all ds _ hall p fun d hd => Nat.le_trans (weight_mem hd) z2
    have k : ∀ b ∈ A, b ∈ a :: A := fun b hb => List.mem_cons_of_mem _ hb
    refine ⟨a :: A, List.mem_cons_self .., fun b hb => ?_⟩
    rcases List.mem_cons.mp hb with e | m
    · rw [e]
      exact ⟨vs, line_of (by rw [wellAll_len hall]; exact Nat.le_trans (PySem.W.length_le_weightAllW ds) z2), fun u hu => (h1 u hu).mono k, .inl ho⟩
    · exact (h2 b m).mono k
  | .tuple ds, _, x, p, z => by
    obtain ⟨a, vs, rfl, ho, hall⟩ := well_tuple x
    have z2 : WData.weightAll ds ≤ 1048576 := z
    obtain ⟨A, h1, h2⟩ := area_all ds _ hall p fun d hd => Nat.le_trans (weight_mem hd) z2
    have k : ∀ b ∈ A, b ∈ a :: A := fun b hb => List.mem_cons_of_mem _ hb
    refine ⟨a :: A, List.mem_cons_self .., fun b hb => ?_⟩
    rcases List.mem_cons.mp hb with e | m
    · rw [e]
      exact ⟨vs, line_of (by rw [wellAll_len hall]; exact Nat.le_trans (PySem.W.length_le_weightAllW ds) z2), fun u hu => (h1 u hu).mono k, .inr ho⟩
    · exact (h2 b m).mono k
  | .float _, _, _, p, _ => Bool.noConfusion (show false = true from p)
  | .dict _, _, _, p, _ => Bool.noConfusion (show false = true from p)
  | .bytearray _, _, _, p, _ => Bool.noConfusion (show false = true from p)
  | .set _, _, _, p, _ => Bool.noConfusion (show false = true from p)
  | .frozenset _, _, _, p, _ => Bool.noConfusion (show false = true from p)
  | .obj _ _, _, _, p, _ => Bool.noConfusion (show false = true from p)
theorem area_all : ∀ (ds : List WData) (vs : List Value), WellAll P h vs ds → plWs ds = true → (∀ d ∈ ds, d.weight ≤ 1048576) → ∃ A : List Addr, (∀ u ∈ vs, OkU A u) ∧ ∀ a ∈ A, ArgOb h A a
  | [], _, x, _, _ => by
    cases x
    exact ⟨[], fun u m => absurd m (by simp), fun a m => absurd m (by simp)⟩
  | d :: ds, _, x, p, z => by
    obtain ⟨v, vs, rfl, x1, x2⟩ := well_cons x
    have q : plW d = true ∧ plWs ds = true := Bool.and_eq_true_iff.mp p
    obtain ⟨A, a1, a2⟩ := area_one d v x1 q.1 (z d (List.mem_cons_self ..))
    obtain ⟨B, b1, b2⟩ := area_all ds vs x2 q.2 fun e he => z e (List.mem_cons_of_mem _ he)
    have kA : ∀ b ∈ A, b ∈ A ++ B := fun b hb => List.mem_append.mpr (.inl hb)
    have kB : ∀ b ∈ B, b ∈ A ++ B := fun b hb => List.mem_append.mpr (.inr hb)
    refine ⟨A ++ B, fun u hu => ?_, fun b hb => ?_⟩
    · rcases List.mem_cons.mp hu with e | m
      · rw [e]
        exact a1.mono kA
      · exact (b1 u m).mono kB
    · rcases List.mem_append.mp hb with m | m
      · exact (a2 b m).mono kA
      · exact (b2 b m).mono kB
end
end
def hoOf (o : Obj) : Option HO := match o.data with
  | .seq vs _ => if (o.cls == Value.type "list") = true then some (.frz o (.lst (vs.toList.map toV))) else some (.frz o (.tup (vs.toList.map toV)))
  | _ => none
def argH (K : PySem.W.Frag) (h : Heap) (A : List Addr) : Hp := fun b => if b ∈ A then (if (K.lookup b).isNone = true then (h.get? b).bind hoOf else none) else none
def OnlyF (H : Hp) : Prop := ∀ b, H b = none ∨ ∃ o u, H b = some (.frz o u)
theorem hoOf_lst (vs : List Value) : hoOf { cls := .type "list", data := .seq vs.toArray } = some (.frz { cls := .type "list", data := .seq vs.toArray } (.lst (vs.map toV))) := by
  show (if (Value.type "list" == Value.type "list") = true then some (HO.frz { cls := .type "list", data := .seq vs.toArray } (.lst (vs.toArray.toList.map toV))) else some (HO.frz { cls := .type "list", data := .seq vs.toArray } (.tup (vs.toArray.toList.map toV)))) = _
  rw [if_pos (beq_self_eq_true _)]
theorem hoOf_tup (vs : List Value) : hoOf { cls := .type "tuple", data := .seq vs.toArray } = some (.frz { cls := .type "tuple", data := .seq vs.toArray } (.tup (vs.map toV))) := by
  show (if (Value.type "tuple" == Value.type "list") = true then some (HO.frz { cls := .type "tuple", data := .seq vs.toArray } (.lst (vs.toArray.toList.map toV))) else some (HO.frz { cls := .type "tuple", data := .seq vs.toArray } (.tup (vs.toArray.toList.map toV)))) = _
  rw [if_neg (by decide)]
section
variable {P : Program} {w : World} {K : PySem.W.Frag} {h : Heap} {A : List Addr}
theorem argH_at {b : Addr} {o : Obj} (hb : b ∈ A) (hk : K.lookup b = none) (e : h.get? b = some o) : argH K h A b = hoOf o := by
  unfold argH
  rw [if_pos hb, hk, if_pos (show (none : Option Obj).isNone = true from rfl), e] <;> rfl
theorem of_argH {b : Addr} {u : HO} (q : argH K h A b = some u) : b ∈ A ∧ K.lookup b = none := by
  unfold argH at q
  by_cases hb : b ∈ A
  · rw [if_pos hb] at q
    cases hk : K.lookup b with
    | none => exact ⟨hb, rfl⟩
    | some o =>
      rw [hk, if_neg (by simp)] at q
      cases q
  · rw [if_neg hb] at q
    cases q
theorem argH_is (ar : ∀ a ∈ A, ArgOb h A a) {b : Addr} {u : HO} (q : argH K h A b = some u) : K.lookup b = none ∧ ∃ vs : List Value, vs.length ≤ sizeLine ∧ (∀ u ∈ vs, OkU A u) ∧
    ((h.get? b = some { cls := .type "list", data := .seq vs.toArray } ∧ u = .frz { cls := .type "list", data := .seq vs.toArray } (.lst (vs.map toV))) ∨
     (h.get? b = some { cls := .type "tuple", data := .seq vs.toArray } ∧ u = .frz { cls := .type "tuple", data := .seq vs.toArray } (.tup (vs.map toV)))) := by
  obtain ⟨hb, hk⟩ := of_argH q
  obtain ⟨vs, h1, h2, h3⟩ := ar b hb
  refine ⟨hk, vs, h1, h2, ?_⟩
  rcases h3 with e | e
  · rw [argH_at hb hk e, hoOf_lst] at q
    exact .inl ⟨e, (Option.some.inj q).symm⟩
  · rw [argH_at hb hk e, hoOf_tup] at q
    exact .inr ⟨e, (Option.some.inj q).symm⟩
theorem argH_only (ar : ∀ a ∈ A, ArgOb h A a) : OnlyF (argH K h A) := fun b => by
  cases q : argH K h A b with
  | none => exact .inl rfl
  | some u =>
    obtain ⟨_, vs, _, _, ⟨_, e⟩ | ⟨_, e⟩⟩ := argH_is ar q
    · exact .inr ⟨_, _, by rw [e]⟩
    · exact .inr ⟨_, _, by rw [e]⟩
theorem argH_ok (ar : ∀ a ∈ A, ArgOb h A a) : HOk P w (argH K h A) h := fun b u q => by
  obtain ⟨_, vs, h1, h2, ⟨e, rfl⟩ | ⟨e, rfl⟩⟩ := argH_is ar q
  · exact ⟨e, by rw [List.length_map]; exact h1, vs, _, vals_toV h2, e⟩
  · exact ⟨e, by rw [List.length_map]; exact h1, vs, vals_toV h2, _, e, rfl, _, rfl⟩
theorem seq_inj {c c' : Value} {vs us : List Value} (e : (some { cls := c, data := .seq vs.toArray } : Option Obj) = some { cls := c', data := .seq us.toArray }) : c = c' ∧ vs = us := by
  have e1 := Option.some.inj e
  have e2 : c = c' := congrArg Obj.cls e1
  have e3 : Data.seq vs.toArray = Data.seq us.toArray := congrArg Obj.data e1
  injection e3 with e4
  refine ⟨e2, ?_⟩
  have e5 := congrArg Array.toList e4
  simpa using e5
theorem argL (KX : K.In h) (ar : ∀ a ∈ A, ArgOb h A a) {a : Addr} {vs : List Value} (ha : a ∈ A) (e : h.get? a = some { cls := .type "list", data := .seq vs.toArray }) : (∀ u ∈ vs, OkU A u) ∧ SqL K (argH K h A) a (vs.map toV) := by
  obtain ⟨us, h1, h2, h3⟩ := ar a ha
  have hu : us = vs := by
    rcases h3 with q | q
    · rw [e] at q
      exact (seq_inj q).2.symm
    · rw [e] at q
      exact absurd (Value.type.inj (seq_inj q).1) (by decide)
  subst hu
  refine ⟨h2, ?_⟩
  cases hk : K.lookup a with
  | none => exact .inl (.inr ⟨_, by rw [argH_at ha hk e, hoOf_lst]⟩)
  | some o =>
    have e2 := KX a o hk
    rw [e] at e2
    obtain rfl := Option.some.inj e2
    exact .inr ⟨_, us.toArray, _, hk, rfl, rfl, rfl, by rw [List.size_toArray]; exact h1, by simpa using vals_toV h2⟩
theorem argT (KX : K.In h) (ar : ∀ a ∈ A, ArgOb h A a) {a : Addr} {vs : List Value} (ha : a ∈ A) (e : h.get? a = some { cls := .type "tuple", data := .seq vs.toArray }) : (∀ u ∈ vs, OkU A u) ∧ SqT K (argH K h A) a (vs.map toV) := by
  obtain ⟨us, h1, h2, h3⟩ := ar a ha
  have hu : us = vs := by
    rcases h3 with q | q
    · rw [e] at q
      exact absurd (Value.type.inj (seq_inj q).1) (by decide)
    · rw [e] at q
      exact (seq_inj q).2.symm
  subst hu
  refine ⟨h2, ?_⟩
  cases hk : K.lookup a with
  | none => exact .inl (.inr ⟨_, by rw [argH_at ha hk e, hoOf_tup]⟩)
  | some o =>
    have e2 := KX a o hk
    rw [e] at e2
    obtain rfl := Option.some.inj e2
    exact .inr ⟨_, us.toArray, _, hk, rfl, rfl, by rw [List.size_toArray]; exact h1, by simpa using vals_toV h2⟩
mutual
theorem dw_one {Pm : Params} (KX : K.In h) (ar : ∀ a ∈ A, ArgOb h A a) : ∀ (d : WData) (v : Value), Well Pm h v d → plW d = true → OkU A v → Dw K (argH K h A) (toV v) d
  | .none, _, x, _, _ => by
    cases x
    exact .non
  | .bool b, _, x, _, _ => by
    cases x
    exact .bl b
  | .int i, _, x, _, _ => by
    cases x
    exact .int i
  | .str s, _, x, _, _ => by
    cases x
    exact .str s
  | .bytes b, _, x, _, _ => by
    cases x
    have z := Dw.byt (K := K) (H := argH K h A) b.toArray
    exact z
  | .list ds, _, x, p, hu => by
    obtain ⟨a, vs, rfl, ho, hall⟩ := well_list x
    obtain ⟨h2, hs⟩ := argL KX ar hu ho
    exact .lst hs (dw_all KX ar ds _ hall p h2)
  | .tuple ds, _, x, p, hu => by
    obtain ⟨a, vs, rfl, ho, hall⟩ := well_tuple x
    obtain ⟨h2, hs⟩ := argT KX ar hu ho
    exact .tup hs (dw_all KX ar ds _ hall p h2)
  | .float _, _, _, p, _ => Bool.noConfusion (show false = true from p)
  | .dict _, _, _, p, _ => Bool.noConfusion (show false = true from p)
  | .bytearray _, _, _, p, _ => Bool.noConfusion (show false = true from p)
  | .set _, _, _, p, _ => Bool.noConfusion (show false = true from p)
  | .frozenset _, _, _, p, _ => Bool.noConfusion (show false = true from p)
  | .obj _ _, _, _, p, _ => Bool.noConfusion (show false = true from p)
theorem dw_all {Pm : Params} (KX : K.In h) (ar : ∀ a ∈ A, ArgOb h A a) : ∀ (ds : List WData) (vs : List Value), WellAll Pm h vs ds → plWs ds = true → (∀ u ∈ vs, OkU A u) → DwAll K (argH K h A) (vs.map toV) ds
  | [], _, x, _, _ => by
    cases x
    exact .nil
  | d :: ds, _, x, p, hu => by
    obtain ⟨v, vs, rfl, x1, x2⟩ := well_cons x
    have q : plW d = true ∧ plWs ds = true := Bool.and_eq_true_iff.mp p
    exact .cons (dw_one KX ar d v x1 q.1 (hu _ (List.mem_cons_self ..))) (dw_all KX ar ds vs x2 q.2 fun u m => hu u (List.mem_cons_of_mem _ m))
end
end
theorem spec_call {P : Program} {w : World} {K : PySem.W.Frag} {mg mb : Str → Option Value} {CX : CXT} {k : Nat} {fa : Addr} {fd : FuncData} {ps : List Str} {sp : Sp} {s₁ : Shared} {vals : List Value} {ds : List WData} {R : PySem.W.WRecords} {cl : Str → Option Addr} {d0 : WData}
    (KX : K.In s₁.heap) (hns : s₁.heap.Ns mainGlobals mg) (hb : s₁.heap.Ns builtinsNs mb) (hbb : ∀ x : Str, x ≠ "__name__" → mb x = bootBuiltins x) (hlim : s₁.heap.NoLimit) (hg : s₁.gens = #[])
    (hwl : WellAll w.params s₁.heap vals ds) (hpl : plWs ds = true) (hwt : ∀ d ∈ ds, d.weight ≤ 1048576) (hr : Room k callerA)
    (F : ∀ base : Heap, K.In base → base.Ns mainGlobals mg → FnOk P w K mg base CX k fa fd ps sp) (hbind : ∀ (s : Shared) (us : List Value), us.length = ps.length → BindsTo s fd ⟨us, []⟩ (ps.zip us)) (hlen : ds.length = ps.length)
    (hsp : ∀ (H : Hp) (xs : List V), OnlyF H → DwAll K H xs ds → sp xs H (fun v H' => Dw K H' v d0) fun _ _ _ => False)
    (hCX : ∀ H e s', CX [] H s₁ (fun _ _ _ => False) e s' → False) :
    codeAny (model P w) callerA (.call (.ref fa) ⟨vals, []⟩) (fun r s' => ∃ u as, r = .ok (.ret u) ∧ ReadsW R cl s'.heap u d0 as ∧ OldK s₁.heap s'.heap ∧ s'.os = s₁.os ∧ AllBare s'.gens) s₁ := by
  obtain ⟨A, ho, ar⟩ := area_all ds vals hwl hpl hwt
  have hO : OnlyF (argH K s₁.heap A) := argH_only ar
  have hok : HOk P w (argH K s₁.heap A) s₁.heap := argH_ok ar
  have hS := dw_all KX ar ds vals hwl hpl ho
  have hV := vals_toV ho
  have hK : ∀ b u, argH K s₁.heap A b = some u → K.lookup b = none := fun b u q => (argH_is ar q).1
  have noA : ∀ {b : Addr} {o : Obj} {es : Array DictEntry} {ep : Nat}, s₁.heap.get? b = some o → o.data = .dict es ep → argH K s₁.heap A b = none := fun {b o es ep} e d => by
    cases q : argH K s₁.heap A b with
    | none => rfl
    | some u =>
      obtain ⟨_, vs, _, _, ⟨e2, _⟩ | ⟨e2, _⟩⟩ := argH_is ar q
      · rw [e2] at e
        cases e
        have d' : Data.seq vs.toArray _ = Data.dict es ep := d
        cases d'
      · rw [e2] at e
        cases e
        have d' : Data.seq vs.toArray _ = Data.dict es ep := d
        cases d'
  generalize argH K s₁.heap A = H at hO hok hS hK noA
  have base_of : ∀ {b : Addr} {o : Obj}, s₁.heap.get? b = some o → H b = none → (hidT s₁.heap H).get? b = some o := fun e n => hidT_get e n
  have nsK : ∀ {b : Addr} {m : Str → Option Value}, s₁.heap.Ns b m → (hidT s₁.heap H).Ns b m := fun {b m} ⟨o, es, ep, e, d, r⟩ => ⟨o, es, ep, base_of e (noA e d), d, r⟩
  have nK : ∀ b o, K.lookup b = some o → H b = none := fun b o e => by
    cases q : H b with
    | none => rfl
    | some u =>
      rw [hK b u q] at e
      cases e
  have hKb : K.In (hidT s₁.heap H) := fun b o e => base_of (KX b o e) (nK b o e)
  have hM : Mod K mg (hidT s₁.heap H) := ⟨hKb, nsK hns, ⟨mb, nsK hb, hbb⟩, let ⟨mc, h1, h2⟩ := hlim; ⟨mc, nsK h1, h2⟩⟩
  have e0 : Env0 P w K mg (hidT s₁.heap H) callerA [] s₁ H := ⟨rfl, hM, fun b o e => of_hidT e, Nat.le_of_eq (hidT_size _ _), trivial, fun b hb => absurd (show b ∈ ([] : List Addr) from hb) (by simp), hok, .of_eq hg⟩
  have hl : vals.length = ps.length := by rw [wellAll_len hwl]; exact hlen
  refine codeAny_mono ((F _ hKb (nsK hns)).run callerA [] s₁ H ⟨vals, []⟩ vals (vals.map toV) _ _ hr e0 (hbind s₁ vals hl) hV (hsp H _ hO hS)) fun r s' x => ?_
  cases r with
  | error e => exact (hCX H e s' x).elim
  | ok fl =>
    cases fl with
    | next => exact False.elim x
    | brk => exact False.elim x
    | cont => exact False.elim x
    | ret u =>
      obtain ⟨v, H', os, bare, un, hok', r', q⟩ := x
      have kept : ∀ b o, s₁.heap.get? b = some o → s'.heap.get? b = some o := fun b o e => by
        cases q2 : H b with
        | none => exact un.keep b o e q2 (by intro z; exact absurd (show b ∈ ([] : List Addr) from z) (by simp)) (by simp)
        | some u2 =>
          rcases hO b with z | ⟨ob, u3, z⟩
          · rw [q2] at z
            cases z
          · have z2 := un.frzs b ob _ z
            obtain ⟨e1, _⟩ := hok b _ z
            obtain ⟨e2, _⟩ := hok' b _ z2
            rw [e] at e1
            cases e1
            exact e2
      have KX' : K.In s'.heap := fun b o e => kept b o (KX b o e)
      obtain ⟨as, hrd⟩ := Dw.reads (R := R) (cl := cl) hok' KX' d0 v u q r'
      exact ⟨u, as, rfl, hrd, OldK.of_keep kept, os, bare⟩
theorem layable_weight {ds : List WData} (h : WData.layableAll ds = true) : ∀ d ∈ ds, d.weight ≤ 1048576 := fun d hd =>
  (PySem.W.layableW_iff.mp (List.all_eq_true.mp h d hd)).2.2
theorem encAll_len : ∀ (cs : List Codec) (a : Codec.denoteAll cs), (Codec.encAll cs a).length = cs.length
  | [], _ => rfl
  | c :: cs, a => by
    show (Codec.encAll cs a.2).length + 1 = cs.length + 1
    rw [encAll_len cs a.2]
theorem walk_spec {r : OpenSpec} {k : Nat} {q : Program} {loose : List Str} {XP : (Str → Option Value) → Heap → Prop} {YP : World → Heap → Prop} {d : DefRec} {K : Params → PySem.W.Frag} {CX : World → CXT} {ps : List Str} {sp : World → Sp}
    (hwell : r.wellSaid = true) (hdf : d.params.defaults = []) (hlen : r.args.length = ps.length) (hr : Room k callerA)
    (hY : ∀ (w : World) (h : Heap), YP w h → (K w.params).In h)
    (F : ∀ (w : World) (mg : Str → Option Value) (fa : Addr) (h : Heap), YP w h → (K w.params).In h → h.Ns mainGlobals mg → mg d.name = some (.ref fa) →
      ∃ fd : FuncData, (∀ (s : Shared) (us : List Value), us.length = ps.length → BindsTo s fd ⟨us, []⟩ (ps.zip us)) ∧
        ∀ base : Heap, (K w.params).In base → base.Ns mainGlobals mg → FnOk r.prog w (K w.params) mg base (CX w) k fa fd ps (sp w))
    (hsp : ∀ (w : World) (H : Hp) (xs : List V) (a : Codec.denoteAll r.args), OnlyF H → Codec.withinAll r.args a = true → Codec.app r.args r.asked a = true → DwAll (K w.params) H xs (Codec.encAll r.args a) →
      sp w xs H (fun v H' => Dw (K w.params) H' v (r.ret.enc (Codec.app r.args r.f a))) fun _ _ _ => False)
    (hCX : ∀ (w : World) (H : Hp) (s : Shared) (e : Value) (s' : Shared), CX w [] H s (fun _ _ _ => False) e s' → False) :
    PySem.W.WalkOS q loose XP YP r d [] (fun f vs => PySem.call f vs) := by
  intro w s_0 s₁ mg mb G Y fa o pm cd doc dV kV ho hd hcd hD hmg hg args vals as hpre hlay hrd hwl hlo
  obtain ⟨a, e1, e2⟩ := PySem.W.os_pre_some hpre
  obtain ⟨e3, hwi⟩ := Codec.encAll_of_decAll r.args args a e1
  subst e3
  have KX := hY w _ Y
  obtain ⟨fd, hb, hF⟩ := F w mg fa _ Y KX G.T.g hmg
  refine PySem.W.enter_call (codeAny_mono (spec_call (R := []) (cl := classAt s_0.heap) (d0 := r.ret.enc (Codec.app r.args r.f a)) KX G.T.g G.T.b G.T.builtins G.T.nolimit hg hwl (pl_encAll _ _) (layable_weight hlay) hr hF hb (by rw [encAll_len]; exact hlen)
    (fun H xs hO hS => hsp w H xs a hO hwi e2 hS) fun H e s' => hCX w H s₁ e s') fun r' s' hq => ?_)
  obtain ⟨u, as', rfl, h1, h2, h3, h4⟩ := hq
  exact ⟨.inl ⟨u, _, as', rfl, fun _ => rfl, h1, (OpenSpec.post_iff hwell hwi _ _).mpr rfl, fun z => Bool.noConfusion (show false = true from z)⟩, h2, h3, h4⟩
theorem walk_specK {r : OpenSpec} {k : Nat} {q : Program} {loose : List Str} {XP : (Str → Option Value) → Heap → Prop} {YP : World → Heap → Prop} {d : DefRec} {K : Params → PySem.W.Frag} {CX : CXT} {ps : List Str} {sp : PySem.W.Frag → Sp}
    (hwell : r.wellSaid = true) (hdf : d.params.defaults = []) (hlen : r.args.length = ps.length) (hr : Room k callerA)
    (hY : ∀ (w : World) (h : Heap), YP w h → (K w.params).In h)
    (F : ∀ (w : World) (mg : Str → Option Value) (fa : Addr) (h : Heap), YP w h → (K w.params).In h → h.Ns mainGlobals mg → mg d.name = some (.ref fa) →
      ∃ fd : FuncData, (∀ (s : Shared) (us : List Value), us.length = ps.length → BindsTo s fd ⟨us, []⟩ (ps.zip us)) ∧
        ∀ base : Heap, (K w.params).In base → base.Ns mainGlobals mg → FnOk r.prog w (K w.params) mg base CX k fa fd ps (sp (K w.params)))
    (hsp : ∀ (K : PySem.W.Frag) (H : Hp) (xs : List V) (a : Codec.denoteAll r.args), OnlyF H → Codec.withinAll r.args a = true → Codec.app r.args r.asked a = true → DwAll K H xs (Codec.encAll r.args a) →
      sp K xs H (fun v H' => Dw K H' v (r.ret.enc (Codec.app r.args r.f a))) fun _ _ _ => False)
    (hCX : ∀ (H : Hp) (s : Shared) (e : Value) (s' : Shared), CX [] H s (fun _ _ _ => False) e s' → False) :
    PySem.W.WalkOS q loose XP YP r d [] (fun f vs => PySem.call f vs) :=
  walk_spec (K := K) (CX := fun _ => CX) (sp := fun w => sp (K w.params)) hwell hdf hlen hr hY F (fun w H xs a h1 h2 h3 h4 => hsp (K w.params) H xs a h1 h2 h3 h4) fun _ H s e s' => hCX H s e s'
end L2
end
section
set_option linter.all false
namespace Wm
open LsWale
theorem letter_word {c : UInt8} {r : Bytes} (h : isLetter c = true) : 1 ≤ (wordAt (c :: r)).length := by
  unfold wordAt
  split
  · rename_i w hw
    have hm := List.mem_of_find?_eq_some hw
    simp only [DIGITWORDS, List.map_cons, List.map_nil, List.mem_cons, List.not_mem_nil, or_false] at hm
    rcases hm with rfl | rfl | rfl | rfl | rfl <;> decide
  · simp [h]
theorem take_eq_len {b w : Bytes} (h : b.take w.length = w) : w.length ≤ b.length := by
  have := congrArg List.length h
  rw [List.length_take] at this
  omega
theorem word_le (b : Bytes) : (wordAt b).length ≤ b.length := by
  unfold wordAt
  split
  · rename_i w hw
    have hp := List.find?_some hw
    simp only [Bool.and_eq_true, beq_iff_eq] at hp
    exact take_eq_len hp.1
  · cases b with
    | nil => simp
    | cons c r =>
      dsimp only
      split
      · have := (List.takeWhile_sublist (l := r) isTail).length_le
        simp only [List.length_cons]
        omega
      · simp
theorem one_len (b : Bytes) : (oneToken b).2 ≤ b.length := by
  unfold oneToken
  split
  · simp
  · rename_i c r
    split
    · exact word_le _
    · split
      · split
        · exact (List.takeWhile_sublist _).length_le
        · simp
      · split <;> simp
def isTok : Tok → Bool
  | .done => false
  | .bad _ => false
  | _ => true
theorem one_pos {b : Bytes} (h : isTok (oneToken b).1 = true) : 1 ≤ (oneToken b).2 := by
  cases b with
  | nil => simp [oneToken, isTok] at h
  | cons c r =>
    unfold oneToken at h ⊢
    dsimp only at h ⊢
    by_cases hl : isLetter c = true
    · rw [if_pos hl]
      exact letter_word hl
    · rw [if_neg hl] at h ⊢
      by_cases hd : isDigit c = true
      · rw [if_pos hd] at h ⊢
        by_cases hn : isNumber ((c :: r).takeWhile isDigit) = true
        · rw [if_pos hn]
          simp [List.takeWhile_cons, hd]
        · rw [if_neg hn] at h
          simp [isTok] at h
      · rw [if_neg hd] at h ⊢
        by_cases hs : SIGNS.contains c = true
        · rw [if_pos hs]
          exact Nat.le_refl _
        · rw [if_neg hs] at h
          simp [isTok] at h
theorem blanks_le : ∀ (f : Bool) (b : Bytes), blanks f b ≤ b.length
  | f, [] => by cases f <;> simp [blanks]
  | false, c :: r => by
    have h1 := blanks_le false r
    have h2 := blanks_le true r
    simp only [blanks, List.length_cons]
    split
    · omega
    · split <;> omega
  | true, c :: r => by
    have h1 := blanks_le false r
    have h2 := blanks_le true r
    simp only [blanks, List.length_cons]
    split
    · omega
    · split <;> omega
def behind (t : Tok) (l : List Token) : List Token := match t with
  | .done => []
  | .bad _ => []
  | _ => l
theorem tokensFrom_succ (f p : Nat) (b : Bytes) : tokensFrom (f + 1) p b = ⟨p + blanks false b, (oneToken (b.drop (blanks false b))).1⟩ ::
    behind (oneToken (b.drop (blanks false b))).1 (tokensFrom f (p + blanks false b + (oneToken (b.drop (blanks false b))).2) (b.drop (blanks false b + (oneToken (b.drop (blanks false b))).2))) := by
  rw [tokensFrom]
  cases (oneToken (b.drop (blanks false b))).1 <;> rfl
theorem behind_tok {t : Tok} {l : List Token} (h : isTok t = true) : behind t l = l := by cases t <;> first | rfl | cases h
theorem behind_no {t : Tok} {l : List Token} (h : isTok t = false) : behind t l = [] := by cases t <;> first | rfl | cases h
theorem tokens_fuel : ∀ (f g p : Nat) (b : Bytes), b.length + 1 ≤ f → b.length + 1 ≤ g → tokensFrom f p b = tokensFrom g p b
  | 0, g, p, b, h, _ => by omega
  | f + 1, 0, p, b, _, h => by omega
  | f + 1, g + 1, p, b, h1, h2 => by
    rw [tokensFrom_succ, tokensFrom_succ]
    congr 1
    cases ht : isTok (oneToken (b.drop (blanks false b))).1 with
    | false => rw [behind_no ht, behind_no ht]
    | true =>
      rw [behind_tok ht, behind_tok ht]
      have hp := one_pos ht
      have hl := one_len (b.drop (blanks false b))
      have hb := blanks_le false b
      rw [List.length_drop] at hl
      exact tokens_fuel f g _ _ (by rw [List.length_drop]; omega) (by rw [List.length_drop]; omega)
def toks (b : Bytes) (p : Nat) : List Token := tokensFrom ((b.drop p).length + 1) p (b.drop p)
def tkAt (b : Bytes) (p : Nat) : Nat := p + blanks false (b.drop p)
def tkOf (b : Bytes) (p : Nat) : Tok := (oneToken (b.drop (tkAt b p))).1
def tkEnd (b : Bytes) (p : Nat) : Nat := tkAt b p + (oneToken (b.drop (tkAt b p))).2
theorem toks_zero (b : Bytes) : tokensOf b = toks b 0 := rfl
theorem toks_cons (b : Bytes) (p : Nat) : toks b p = ⟨tkAt b p, tkOf b p⟩ :: behind (tkOf b p) (toks b (tkEnd b p)) := by
  unfold toks
  rw [tokensFrom_succ]
  have e : (b.drop p).drop (blanks false (b.drop p)) = b.drop (tkAt b p) := by rw [List.drop_drop]; rfl
  have e2 : (b.drop p).drop (blanks false (b.drop p) + (oneToken (b.drop (tkAt b p))).2) = b.drop (tkEnd b p) := by
    rw [List.drop_drop]; unfold tkEnd tkAt; rw [Nat.add_assoc]
  rw [e, e2]
  show _ :: behind (tkOf b p) _ = _
  congr 1
  cases ht : isTok (tkOf b p) with
  | false => rw [behind_no ht, behind_no ht]
  | true =>
    rw [behind_tok ht, behind_tok ht]
    have hp : 1 ≤ (oneToken (b.drop (tkAt b p))).2 := one_pos ht
    have hl := one_len (b.drop (tkAt b p))
    rw [List.length_drop] at hl
    refine tokens_fuel _ _ _ _ ?_ (Nat.le_refl _)
    rw [List.length_drop, List.length_drop]
    unfold tkEnd tkAt at *
    omega
theorem tkAt_ge (b : Bytes) (p : Nat) : p ≤ tkAt b p := Nat.le_add_right _ _
theorem tkAt_le {b : Bytes} {p : Nat} (h : p ≤ b.length) : tkAt b p ≤ b.length := by
  have := blanks_le false (b.drop p)
  rw [List.length_drop] at this
  unfold tkAt
  omega
theorem tkEnd_le {b : Bytes} {p : Nat} (h : p ≤ b.length) : tkEnd b p ≤ b.length := by
  have h1 := tkAt_le h
  have h2 := one_len (b.drop (tkAt b p))
  rw [List.length_drop] at h2
  unfold tkEnd
  omega
theorem tkEnd_gt {b : Bytes} {p : Nat} (h : isTok (tkOf b p) = true) : p < tkEnd b p := by
  have h1 := tkAt_ge b p
  have h2 : 1 ≤ (oneToken (b.drop (tkAt b p))).2 := one_pos h
  unfold tkEnd
  omega
end Wm
end
section
set_option linter.all false
namespace Wm
open LsWale
def Lt {α : Type} (n : Nat) (r : Except Fault (α × St)) : Prop := ∀ x s, r = .ok (x, s) → s.ts.length < n
def Le {α : Type} (n : Nat) (r : Except Fault (α × St)) : Prop := ∀ x s, r = .ok (x, s) → s.ts.length ≤ n
theorem lt_error {α : Type} {n : Nat} {e : Fault} : Lt n (.error e : Except Fault (α × St)) := fun _ _ h => by cases h
theorem le_error {α : Type} {n : Nat} {e : Fault} : Le n (.error e : Except Fault (α × St)) := fun _ _ h => by cases h
theorem Lt.le {α : Type} {n : Nat} {r : Except Fault (α × St)} (h : Lt n r) : Le n r := fun x s e => Nat.le_of_lt (h x s e)
theorem wanted_error {α : Type} (s : St) : ∃ e, (wanted s : Except Fault α) = .error e := by
  unfold wanted
  split <;> exact ⟨_, rfl⟩
theorem lt_wanted {α : Type} {n : Nat} {s : St} : Lt n (wanted s : Except Fault (α × St)) := by
  obtain ⟨e, h⟩ := wanted_error (α := α × St) s
  rw [h]; exact lt_error
theorem bind_ok {ε α β : Type} (a : α) (f : α → Except ε β) : (Except.ok a >>= f) = f a := rfl
theorem bind_error {ε α β : Type} (e : ε) (f : α → Except ε β) : ((Except.error e : Except ε α) >>= f) = .error e := rfl
theorem Lt.bind {α β : Type} {n : Nat} {r : Except Fault (α × St)} {f : α × St → Except Fault (β × St)} (h : ∀ x s, r = .ok (x, s) → Lt n (f (x, s))) : Lt n (r >>= f) := by
  cases r with
  | error e => exact lt_error
  | ok p => obtain ⟨x, s⟩ := p; exact h x s rfl
theorem Le.bind {α β : Type} {n : Nat} {r : Except Fault (α × St)} {f : α × St → Except Fault (β × St)} (h : ∀ x s, r = .ok (x, s) → Le n (f (x, s))) : Le n (r >>= f) := by
  cases r with
  | error e => exact le_error
  | ok p => obtain ⟨x, s⟩ := p; exact h x s rfl
theorem bind_congr' {α β : Type} {r r' : Except Fault (α × St)} {f g : α × St → Except Fault (β × St)} (h1 : r = r') (h2 : ∀ x s, r' = .ok (x, s) → f (x, s) = g (x, s)) : (r >>= f) = (r' >>= g) := by
  subst h1
  cases r with
  | error e => rfl
  | ok p => obtain ⟨x, s⟩ := p; exact h2 x s rfl
theorem next_len (s : St) : s.next.ts.length = s.ts.length - 1 := by simp [St.next]
theorem next_lt {s : St} (h : s.ts ≠ []) : s.next.ts.length < s.ts.length := by
  rw [next_len]
  have : s.ts.length ≠ 0 := fun q => h (List.length_eq_zero_iff.mp q)
  omega
theorem word_ne {s : St} {w : String} (h : s.isWord w = true) : s.ts ≠ [] := by
  intro q; rw [St.isWord, q] at h; cases h
theorem sign_ne {s : St} {c : Char} (h : s.isSign c = true) : s.ts ≠ [] := by
  intro q; rw [St.isSign, q] at h; cases h
def LtS (n : Nat) (r : Except Fault St) : Prop := ∀ s, r = .ok s → s.ts.length < n
theorem eatSign_lt {c : Char} {s : St} : LtS s.ts.length (eatSign c s) := by
  intro t h
  unfold eatSign at h
  split at h
  · rename_i hs; cases h; exact next_lt (sign_ne hs)
  · obtain ⟨e, q⟩ := wanted_error (α := St) s; rw [q] at h; cases h
theorem eatWord_lt {c : String} {s : St} : LtS s.ts.length (eatWord c s) := by
  intro t h
  unfold eatWord at h
  split at h
  · rename_i hs; cases h; exact next_lt (word_ne hs)
  · obtain ⟨e, q⟩ := wanted_error (α := St) s; rw [q] at h; cases h
theorem eatOpen_lt {c : Char} {d : Nat} {s : St} : LtS s.ts.length (eatOpen c d s) := by
  intro t h
  unfold eatOpen at h
  split at h
  · obtain ⟨e, q⟩ := wanted_error (α := St) s; rw [q] at h; cases h
  · rename_i hs
    split at h
    · cases h
    · cases h; exact next_lt (sign_ne (by simpa using hs))
theorem anyName_lt {s : St} : Lt s.ts.length (anyName s) := by
  unfold anyName
  split
  · rename_i h
    split
    · intro x t e; cases e; exact next_lt (by rw [h]; simp)
    · exact lt_wanted
  · exact lt_wanted
theorem oldName_lt {l : List Bytes} {s : St} : Lt s.ts.length (oldName l s) := by
  unfold oldName
  refine Lt.bind fun x t e => ?_
  have := anyName_lt x t e
  dsimp only
  split
  · exact lt_error
  · intro y u h; cases h; exact this
theorem newName_lt {k m : Nat} {s : St} {l : List Bytes} : Lt s.ts.length (newName k m s l) := by
  unfold newName
  refine Lt.bind fun x t e => ?_
  have := anyName_lt x t e
  dsimp only
  split
  · exact lt_error
  · split
    · exact lt_error
    · intro y u h; cases h; exact this
theorem markName_lt {s : St} : Lt s.ts.length (markName s) := by
  unfold markName
  refine Lt.bind fun x t e => ?_
  have := anyName_lt x t e
  dsimp only
  split
  · intro y u h; cases h; exact this
  · split
    · exact lt_error
    · intro y u h; cases h; exact this
theorem holdName_lt {s : St} : Lt s.ts.length (holdName s) := by
  unfold holdName
  refine Lt.bind fun x t e => ?_
  have := anyName_lt x t e
  dsimp only
  split
  · intro y u h; cases h; exact this
  · split
    · exact lt_error
    · intro y u h; cases h; exact this
end Wm
end
section
set_option linter.all false
namespace Wm
open LsWale
def restL : Level → Bool
  | .sumRest _ => true
  | .prodRest _ => true
  | _ => false
def Left (lv : Level) (n : Nat) {α : Type} (r : Except Fault (α × St)) : Prop := if restL lv = true then Le n r else Lt n r
theorem Lt.left {α : Type} {lv : Level} {n : Nat} {r : Except Fault (α × St)} (h : Lt n r) : Left lv n r := by
  unfold Left
  split
  · exact h.le
  · exact h
theorem Le.mono {α : Type} {m n : Nat} {r : Except Fault (α × St)} (h : Le m r) (l : m ≤ n) : Le n r := fun x s e => Nat.le_trans (h x s e) l
theorem Le.lt {α : Type} {m n : Nat} {r : Except Fault (α × St)} (h : Le m r) (l : m < n) : Lt n r := fun x s e => Nat.lt_of_le_of_lt (h x s e) l
theorem Lt.mono {α : Type} {m n : Nat} {r : Except Fault (α × St)} (h : Lt m r) (l : m ≤ n) : Lt n r := fun x s e => Nat.lt_of_lt_of_le (h x s e) l
theorem LtS.bind {β : Type} {n : Nat} {r : Except Fault St} {f : St → Except Fault (β × St)} (h : ∀ s, r = .ok s → Lt n (f s)) : Lt n (r >>= f) := by
  cases r with
  | error e => exact lt_error
  | ok s => exact h s rfl
theorem le_ok {α : Type} {n : Nat} {x : α} {s : St} (h : s.ts.length ≤ n) : Le n (.ok (x, s)) := fun y t e => by cases e; exact h
theorem lt_ok {α : Type} {n : Nat} {x : α} {s : St} (h : s.ts.length < n) : Lt n (.ok (x, s)) := fun y t e => by cases e; exact h
theorem signs_ne {s : St} {c c' : Char} (h : (s.isSign c || s.isSign c') = true) : s.ts ≠ [] := by
  rcases Bool.or_eq_true_iff.mp h with q | q
  · exact sign_ne q
  · exact sign_ne q
theorem sum_left : ∀ (f : Nat) (lv : Level) (d : Nat) (s : St), Left lv s.ts.length (sumAt f lv d s)
  | 0, lv, d, s => by rw [sumAt]; exact lt_wanted.left
  | f + 1, .sum, d, s => by
    rw [sumAt]
    refine Lt.left (Lt.bind fun x t e => ?_)
    have h1 : Lt s.ts.length (sumAt f .prod d s) := sum_left f .prod d s
    have h2 : Le t.ts.length (sumAt f (.sumRest x) d t) := sum_left f (.sumRest x) d t
    exact h2.lt (h1 x t e)
  | f + 1, .prod, d, s => by
    rw [sumAt]
    refine Lt.left (Lt.bind fun x t e => ?_)
    have h1 : Lt s.ts.length (sumAt f .fact d s) := sum_left f .fact d s
    have h2 : Le t.ts.length (sumAt f (.prodRest x) d t) := sum_left f (.prodRest x) d t
    exact h2.lt (h1 x t e)
  | f + 1, .sumRest a, d, s => by
    rw [sumAt]
    show Le _ _
    split
    · rename_i h
      refine Le.bind fun x t e => ?_
      have h0 := next_lt (signs_ne h)
      have h1 : Lt s.next.ts.length (sumAt f .prod d s.next) := sum_left f .prod d s.next
      refine Le.mono (sum_left f (.sumRest _) d t) ?_
      have := h1 x t e
      show t.ts.length ≤ _
      omega
    · exact le_ok (Nat.le_refl _)
  | f + 1, .prodRest a, d, s => by
    rw [sumAt]
    show Le _ _
    split
    · rename_i h
      refine Le.bind fun x t e => ?_
      have h0 := next_lt (signs_ne h)
      have h1 : Lt s.next.ts.length (sumAt f .fact d s.next) := sum_left f .fact d s.next
      refine Le.mono (sum_left f (.prodRest _) d t) ?_
      have := h1 x t e
      show t.ts.length ≤ _
      omega
    · exact le_ok (Nat.le_refl _)
  | f + 1, .fact, d, s => by
    rw [sumAt]
    show Lt _ _
    split
    · rename_i h; exact lt_ok (next_lt (by rw [h]; simp))
    · rename_i h
      refine Lt.bind fun x t e => ?_
      exact lt_ok (oldName_lt x t e)
    · refine LtS.bind fun t e => ?_
      have h0 := eatOpen_lt t e
      refine Lt.bind fun x u e1 => ?_
      have h1 : Lt t.ts.length (sumAt f .sum (d + 1) t) := sum_left f .sum (d + 1) t
      have h1 := h1 x u e1
      refine LtS.bind fun v e2 => ?_
      have h2 := eatSign_lt v e2
      refine lt_ok ?_
      dsimp only at h2 ⊢
      omega
theorem sum_lt (f d : Nat) (s : St) : Lt s.ts.length (sumAt f .sum d s) := sum_left f .sum d s
theorem prod_lt (f d : Nat) (s : St) : Lt s.ts.length (sumAt f .prod d s) := sum_left f .prod d s
theorem fact_lt (f d : Nat) (s : St) : Lt s.ts.length (sumAt f .fact d s) := sum_left f .fact d s
def needL : Level → Nat → Nat
  | .sum, n => 3 * n + 3
  | .prod, n => 3 * n + 2
  | _, n => 3 * n + 1
theorem bindS_congr {β : Type} {r : Except Fault St} {f g : St → Except Fault (β × St)} (h : ∀ s, r = .ok s → f s = g s) : (r >>= f) = (r >>= g) := by
  cases r with
  | error e => rfl
  | ok s => exact h s rfl
theorem sum_fuel : ∀ (f g : Nat) (lv : Level) (d : Nat) (s : St), needL lv s.ts.length ≤ f → needL lv s.ts.length ≤ g → sumAt f lv d s = sumAt g lv d s
  | 0, _, lv, d, s, h, _ => by cases lv <;> simp [needL] at h
  | f + 1, 0, lv, d, s, _, h => by cases lv <;> simp [needL] at h
  | f + 1, g + 1, .sum, d, s, h1, h2 => by
    rw [sumAt, sumAt]
    simp only [needL] at h1 h2
    refine bind_congr' (sum_fuel f g .prod d s (by simp only [needL]; omega) (by simp only [needL]; omega)) fun x t e => ?_
    have := prod_lt g d s x t e
    exact sum_fuel f g _ d t (by simp only [needL]; omega) (by simp only [needL]; omega)
  | f + 1, g + 1, .prod, d, s, h1, h2 => by
    rw [sumAt, sumAt]
    simp only [needL] at h1 h2
    refine bind_congr' (sum_fuel f g .fact d s (by simp only [needL]; omega) (by simp only [needL]; omega)) fun x t e => ?_
    have := fact_lt g d s x t e
    exact sum_fuel f g _ d t (by simp only [needL]; omega) (by simp only [needL]; omega)
  | f + 1, g + 1, .sumRest a, d, s, h1, h2 => by
    rw [sumAt, sumAt]
    simp only [needL] at h1 h2
    split
    · rename_i h
      have h0 := next_lt (signs_ne h)
      refine bind_congr' (sum_fuel f g .prod d s.next (by simp only [needL]; omega) (by simp only [needL]; omega)) fun x t e => ?_
      have := prod_lt g d s.next x t e
      exact sum_fuel f g _ d t (by simp only [needL]; omega) (by simp only [needL]; omega)
    · rfl
  | f + 1, g + 1, .prodRest a, d, s, h1, h2 => by
    rw [sumAt, sumAt]
    simp only [needL] at h1 h2
    split
    · rename_i h
      have h0 := next_lt (signs_ne h)
      refine bind_congr' (sum_fuel f g .fact d s.next (by simp only [needL]; omega) (by simp only [needL]; omega)) fun x t e => ?_
      have := fact_lt g d s.next x t e
      exact sum_fuel f g _ d t (by simp only [needL]; omega) (by simp only [needL]; omega)
    · rfl
  | f + 1, g + 1, .fact, d, s, h1, h2 => by
    rw [sumAt, sumAt]
    simp only [needL] at h1 h2
    split
    · rfl
    · rfl
    · refine bindS_congr fun t e => ?_
      have h0 := eatOpen_lt t e
      exact bind_congr' (sum_fuel f g .sum (d + 1) t (by simp only [needL]; omega) (by simp only [needL]; omega)) fun x u e1 => rfl
def sumS (lv : Level) (d : Nat) (s : St) : Except Fault (Sum × St) := sumAt (3 * s.ts.length + 3) lv d s
theorem need_le (lv : Level) (n : Nat) : needL lv n ≤ 3 * n + 3 := by cases lv <;> simp [needL]
theorem sumS_eq {f d : Nat} {lv : Level} {s : St} (h : needL lv s.ts.length ≤ f) : sumAt f lv d s = sumS lv d s := sum_fuel _ _ _ _ _ h (need_le _ _)
theorem sumS_lt (d : Nat) (s : St) : Lt s.ts.length (sumS .sum d s) := sum_lt _ d s
theorem sumS_sum (d : Nat) (s : St) : sumS .sum d s = sumS .prod d s >>= fun x => sumS (.sumRest x.1) d x.2 := by
  show sumAt (3 * s.ts.length + 3) .sum d s = _
  rw [sumAt]
  refine bind_congr' (sumS_eq (by simp only [needL]; omega)) fun x t e => ?_
  have := prod_lt _ d s x t e
  exact sumS_eq (by simp only [needL]; omega)
theorem sumS_prod (d : Nat) (s : St) : sumS .prod d s = sumS .fact d s >>= fun x => sumS (.prodRest x.1) d x.2 := by
  show sumAt (3 * s.ts.length + 3) .prod d s = _
  rw [sumAt]
  refine bind_congr' (sumS_eq (by simp only [needL]; omega)) fun x t e => ?_
  have := fact_lt _ d s x t e
  exact sumS_eq (by simp only [needL]; omega)
theorem sumS_rest (a : Sum) (d : Nat) (s : St) : sumS (.sumRest a) d s = if (s.isSign '+' || s.isSign '-') = true then
    (sumS .prod d s.next >>= fun x => sumS (.sumRest (.op (if s.isSign '+' = true then 43 else 45) s.place a x.1)) d x.2) else .ok (a, s) := by
  show sumAt (3 * s.ts.length + 3) (.sumRest a) d s = _
  rw [sumAt]
  split
  · rename_i h
    have h0 := next_lt (signs_ne h)
    refine bind_congr' (sumS_eq (by simp only [needL]; omega)) fun x t e => ?_
    have := prod_lt _ d s.next x t e
    exact sumS_eq (by simp only [needL]; omega)
  · rfl
theorem sumS_prest (a : Sum) (d : Nat) (s : St) : sumS (.prodRest a) d s = if (s.isSign '*' || s.isSign '/') = true then
    (sumS .fact d s.next >>= fun x => sumS (.prodRest (.op (if s.isSign '*' = true then 42 else 47) s.place a x.1)) d x.2) else .ok (a, s) := by
  show sumAt (3 * s.ts.length + 3) (.prodRest a) d s = _
  rw [sumAt]
  split
  · rename_i h
    have h0 := next_lt (signs_ne h)
    refine bind_congr' (sumS_eq (by simp only [needL]; omega)) fun x t e => ?_
    have := fact_lt _ d s.next x t e
    exact sumS_eq (by simp only [needL]; omega)
  · rfl
theorem sumS_num {d p n : Nat} {s : St} {r : List Token} (h : s.ts = ⟨p, .num n⟩ :: r) : sumS .fact d s = .ok (.num n, s.next) := by
  show sumAt (3 * s.ts.length + 3) .fact d s = _
  rw [sumAt]
  split
  · rename_i q; rw [h] at q; cases q; rfl
  · rename_i q; rw [h] at q; cases q
  · rename_i q _; exact absurd h (q p n r)
theorem sumS_word {d p : Nat} {w : Bytes} {s : St} {r : List Token} (h : s.ts = ⟨p, .word w⟩ :: r) : sumS .fact d s = oldName s.env.lets s >>= fun x => .ok (.name p x.1, x.2) := by
  show sumAt (3 * s.ts.length + 3) .fact d s = _
  rw [sumAt]
  split
  · rename_i q; rw [h] at q; cases q
  · rename_i q; rw [h] at q; cases q; rfl
  · rename_i q; exact absurd h (q p w r)
theorem sumS_open {d : Nat} {s : St} (h1 : ∀ p n r, s.ts ≠ ⟨p, .num n⟩ :: r) (h2 : ∀ p w r, s.ts ≠ ⟨p, .word w⟩ :: r) :
    sumS .fact d s = eatOpen '(' d s >>= fun t => sumS .sum (d + 1) t >>= fun x => eatSign ')' x.2 >>= fun u => .ok (x.1, u) := by
  show sumAt (3 * s.ts.length + 3) .fact d s = _
  rw [sumAt]
  split
  · rename_i q; exact absurd q (h1 _ _ _)
  · rename_i q; exact absurd q (h2 _ _ _)
  · refine bindS_congr fun t e => ?_
    have h0 := eatOpen_lt t e
    exact bind_congr' (sumS_eq (by simp only [needL]; omega)) fun x u e1 => rfl
end Wm
end
section
set_option linter.all false
namespace Wm
open LsWale
theorem map_ok {α β : Type} {r : Except Fault α} {f : α → β} {y : β} (h : r.map f = .ok y) : ∃ x, r = .ok x ∧ f x = y := by
  cases r with
  | error e => cases h
  | ok x => cases h; exact ⟨x, rfl, rfl⟩
theorem Lt.map {α β : Type} {n : Nat} {r : Except Fault (α × St)} {f : α × St → β × St} (h : Lt n r) (hf : ∀ x s, (f (x, s)).2 = s) : Lt n (r.map f) := by
  intro y t e
  obtain ⟨⟨x, s⟩, e1, e2⟩ := map_ok e
  have := h x s e1
  have q := hf x s
  rw [e2] at q
  simp only at q
  rw [q]; exact this
theorem reach_le (f d : Nat) (s : St) : Le s.ts.length (reachAt f d s) := by
  unfold reachAt
  split
  · rename_i h
    have h0 := next_lt (word_ne h)
    split
    · rename_i h1
      have h2 := next_lt (word_ne h1)
      exact le_ok (by omega)
    · split
      · rename_i h1
        have h2 := next_lt (word_ne h1)
        refine Le.bind fun x t e => le_ok ?_
        have := sum_lt f d _ x t e
        dsimp only; omega
      · refine (LtS.bind (n := s.ts.length) fun t e => ?_).le
        have h1 := eatWord_lt t e
        refine Lt.bind fun x u e2 => lt_ok ?_
        have := markName_lt x u e2
        dsimp only; omega
  · split
    · refine Le.bind fun x t e => le_ok ?_
      have := sum_lt f d _ x t e
      dsimp only; omega
    · exact le_ok (Nat.le_refl _)
theorem reach_fuel {f g d : Nat} {s : St} (h1 : 3 * s.ts.length + 3 ≤ f) (h2 : 3 * s.ts.length + 3 ≤ g) : reachAt f d s = reachAt g d s := by
  unfold reachAt
  split
  · rename_i h
    have h0 := next_lt (word_ne h)
    split
    · rfl
    · split
      · rename_i h3
        have h4 := next_lt (word_ne h3)
        exact bind_congr' (sum_fuel _ _ _ _ _ (by simp only [needL]; omega) (by simp only [needL]; omega)) fun _ _ _ => rfl
      · rfl
  · split
    · exact bind_congr' (sum_fuel _ _ _ _ _ (by simp only [needL]; omega) (by simp only [needL]; omega)) fun _ _ _ => rfl
    · rfl
def reachS (d : Nat) (s : St) : Except Fault (Reach × St) := reachAt (3 * s.ts.length + 3) d s
theorem reachS_eq {f d : Nat} {s : St} (h : 3 * s.ts.length + 3 ≤ f) : reachAt f d s = reachS d s := reach_fuel h (Nat.le_refl _)
theorem reachS_def (d : Nat) (s : St) : reachS d s = if s.isWord "to" = true then (
    if s.next.isWord "end" = true then .ok (.to_ .row, s.next.next)
    else if s.next.isWord "last" = true then (sumS .sum d s.next.next >>= fun x => .ok (.to_ (.last x.1), x.2))
    else (eatWord "mark" s.next >>= fun t => markName t >>= fun x => .ok (.to_ (.mark x.1), x.2)))
  else if s.sums = true then (sumS .sum d s >>= fun x => .ok (.times x.1, x.2))
  else .ok (.once, s) := by
  unfold reachS reachAt
  split
  · rename_i h
    have h0 := next_lt (word_ne h)
    split
    · rfl
    · split
      · rename_i h3
        have h4 := next_lt (word_ne h3)
        exact bind_congr' (sumS_eq (by simp only [needL]; omega)) fun _ _ _ => rfl
      · rfl
  · split
    · exact bind_congr' (sumS_eq (by simp only [needL]; omega)) fun _ _ _ => rfl
    · rfl
theorem wide_lt {s : St} : Lt s.ts.length (wideAt s) := by
  unfold wideAt
  split
  · rename_i h
    split
    · exact lt_ok (next_lt (by rw [h]; simp))
    · exact lt_error
  · exact lt_wanted
theorem unit_lt (s : St) : Lt s.ts.length (unitAt s) := by
  unfold unitAt
  split
  · rename_i h
    have h0 : s.next.ts.length < s.ts.length := next_lt (by rw [h]; simp)
    split
    · exact lt_ok h0
    · split
      · refine Lt.bind fun n t e => ?_
        have h1 := wide_lt n t e
        refine LtS.bind fun u e1 => ?_
        have h2 := eatSign_lt u e1
        refine Lt.bind fun m v e2 => lt_ok ?_
        have h3 := wide_lt m v e2
        dsimp only at h2 ⊢
        omega
      · split
        · refine Lt.bind fun x t e => lt_ok ?_
          have := holdName_lt x t e
          dsimp only; omega
        · refine Lt.bind fun x t e => lt_ok ?_
          exact oldName_lt x t e
  · exact lt_wanted
theorem lone_lt {s : St} {g : Except Fault (Lone × St)} (h : loneAt s = some g) : Lt s.ts.length g := by
  unfold loneAt at h
  split at h
  · rename_i w; have h0 := next_lt (word_ne w)
    cases h; exact (holdName_lt.mono (Nat.le_of_lt h0)).map fun _ _ => rfl
  · split at h
    · rename_i w; have h0 := next_lt (word_ne w)
      cases h; exact (oldName_lt.mono (Nat.le_of_lt h0)).map fun _ _ => rfl
    · split at h
      · rename_i w; have h0 := next_lt (word_ne w)
        cases h; exact (markName_lt.mono (Nat.le_of_lt h0)).map fun _ _ => rfl
      · split at h
        · rename_i w; have h0 := next_lt (word_ne w)
          cases h; exact (markName_lt.mono (Nat.le_of_lt h0)).map fun _ _ => rfl
        · split at h
          · rename_i w; have h0 := next_lt (word_ne w)
            cases h; exact (markName_lt.mono (Nat.le_of_lt h0)).map fun _ _ => rfl
          · split at h
            · rename_i w; have h0 := next_lt (word_ne w)
              cases h; exact lt_ok h0
            · split at h
              · rename_i w; have h0 := next_lt (word_ne w)
                cases h; exact lt_ok h0
              · cases h
def itemBy (I : Nat → St → Except Fault (Items × St)) (R : Nat → St → Except Fault (Reach × St)) (d : Nat) (s : St) : Except Fault ((Items → Items) × St) :=
  match loneAt s with
  | some g => g.map fun (y : Lone × St) => (Items.lone s.place y.1, y.2)
  | none => if s.isSign '(' = true then
      (eatOpen '(' d s >>= fun t => I (d + 1) t >>= fun l => eatSign ')' l.2 >>= fun u => R d u >>= fun r => .ok (Items.group s.place l.1 r.1, r.2))
    else (unitAt s >>= fun u => R d u.2 >>= fun r => .ok (Items.one s.place u.1 r.1, r.2))
def itemsBy (T : Nat → St → Except Fault ((Items → Items) × St)) (I : Nat → St → Except Fault (Items × St)) (d : Nat) (s : St) : Except Fault (Items × St) :=
  T d s >>= fun x => if x.2.isSign ',' = true then (I d x.2.next >>= fun l => .ok (x.1 l.1, l.2)) else .ok (x.1 .nil, x.2)
theorem items_succ (f d : Nat) (s : St) : itemsAt (f + 1) d s = itemsBy (itemBy (itemsAt f) (reachAt f)) (itemsAt f) d s := by
  rw [itemsAt]; rfl
theorem item_lt {I : Nat → St → Except Fault (Items × St)} {R : Nat → St → Except Fault (Reach × St)} (hI : ∀ d s, Le s.ts.length (I d s)) (hR : ∀ d s, Le s.ts.length (R d s)) (d : Nat) (s : St) : Lt s.ts.length (itemBy I R d s) := by
  unfold itemBy
  split
  · rename_i g h; exact (lone_lt h).map fun _ _ => rfl
  · split
    · refine LtS.bind fun t e => ?_
      have h1 := eatOpen_lt t e
      refine Lt.bind fun l u e1 => ?_
      have h2 := hI _ t l u e1
      refine LtS.bind fun v e2 => ?_
      have h3 := eatSign_lt v e2
      refine Lt.bind fun r z e3 => lt_ok ?_
      have h4 := hR _ v r z e3
      dsimp only at h3 ⊢
      omega
    · refine Lt.bind fun u t e => ?_
      have h1 := unit_lt s u t e
      refine Lt.bind fun r z e3 => lt_ok ?_
      have h4 := hR _ t r z e3
      dsimp only
      omega
theorem items_lt : ∀ (f d : Nat) (s : St), Lt s.ts.length (itemsAt f d s)
  | 0, d, s => by rw [itemsAt]; exact lt_wanted
  | f + 1, d, s => by
    rw [items_succ]
    refine Lt.bind fun x t e => ?_
    have h1 := item_lt (fun d s => (items_lt f d s).le) (fun d s => reach_le f d s) d s x t e
    dsimp only
    split
    · rename_i h
      have h0 := next_lt (sign_ne h)
      refine Lt.bind fun l u e1 => lt_ok ?_
      have := items_lt f d _ l u e1
      dsimp only at this ⊢; omega
    · exact lt_ok h1
theorem itemBy_congr {I I' : Nat → St → Except Fault (Items × St)} {R R' : Nat → St → Except Fault (Reach × St)} {d : Nat} {s : St}
    (hI : ∀ d t, t.ts.length < s.ts.length → I d t = I' d t) (hL : ∀ d t, Le t.ts.length (I' d t)) (hR : ∀ d t, t.ts.length < s.ts.length → R d t = R' d t) : itemBy I R d s = itemBy I' R' d s := by
  unfold itemBy
  split
  · rfl
  · split
    · refine bindS_congr fun t e => ?_
      have h1 := eatOpen_lt t e
      refine bind_congr' (hI _ _ h1) fun l u e1 => ?_
      have h2 := hL _ t l u e1
      refine bindS_congr fun v e2 => ?_
      have h3 := eatSign_lt v e2
      dsimp only at h3
      exact bind_congr' (hR _ _ (by omega)) fun _ _ _ => rfl
    · refine bind_congr' rfl fun u t e => ?_
      exact bind_congr' (hR _ _ (unit_lt s u t e)) fun _ _ _ => rfl
theorem items_fuel : ∀ (f g d : Nat) (s : St), 3 * s.ts.length + 1 ≤ f → 3 * s.ts.length + 1 ≤ g → itemsAt f d s = itemsAt g d s
  | 0, _, _, _, h, _ => by omega
  | _ + 1, 0, _, _, _, h => by omega
  | f + 1, g + 1, d, s, h1, h2 => by
    rw [items_succ, items_succ]
    unfold itemsBy
    refine bind_congr' (itemBy_congr (fun d t ht => items_fuel f g d t (by omega) (by omega)) (fun d t => (items_lt g d t).le) fun d t ht => reach_fuel (by omega) (by omega)) fun x t e => ?_
    have h3 := item_lt (fun d s => (items_lt g d s).le) (fun d s => reach_le g d s) d s x t e
    dsimp only
    split
    · rename_i h
      have h0 := next_lt (sign_ne h)
      exact bind_congr' (items_fuel f g d _ (by omega) (by omega)) fun _ _ _ => rfl
    · rfl
def itemsS (d : Nat) (s : St) : Except Fault (Items × St) := itemsAt (3 * s.ts.length + 1) d s
theorem itemsS_eq {f d : Nat} {s : St} (h : 3 * s.ts.length + 1 ≤ f) : itemsAt f d s = itemsS d s := items_fuel _ _ _ _ h (Nat.le_refl _)
theorem itemsS_lt (d : Nat) (s : St) : Lt s.ts.length (itemsS d s) := items_lt _ d s
def itemS (d : Nat) (s : St) : Except Fault ((Items → Items) × St) := itemBy itemsS reachS d s
theorem itemS_lt (d : Nat) (s : St) : Lt s.ts.length (itemS d s) := item_lt (fun d s => (itemsS_lt d s).le) (fun d s => reach_le _ d s) d s
theorem itemsS_def (d : Nat) (s : St) : itemsS d s = itemS d s >>= fun x => if x.2.isSign ',' = true then (itemsS d x.2.next >>= fun l => .ok (x.1 l.1, l.2)) else .ok (x.1 .nil, x.2) := by
  show itemsAt (3 * s.ts.length + 1) d s = _
  rw [items_succ]
  unfold itemsBy
  refine bind_congr' (itemBy_congr (fun d t ht => itemsS_eq (by omega)) (fun d t => (itemsS_lt d t).le) fun d t ht => reachS_eq (by omega)) fun x t e => ?_
  have h3 := itemS_lt d s x t e
  dsimp only
  split
  · rename_i h
    have h0 := next_lt (sign_ne h)
    exact bind_congr' (itemsS_eq (by omega)) fun _ _ _ => rfl
  · rfl
end Wm
end
section
set_option linter.all false
namespace Wm
open LsWale
def sideOf (s : St) : Option Bool := if s.next.isWord "rs" = true then some true else if s.next.isWord "ws" = true then some false else none
def rowAt (s : St) : St := if (sideOf s).isSome = true then s.next.next else s.next
theorem row_len (s : St) : (rowAt s).ts.length ≤ s.next.ts.length := by
  unfold rowAt
  split
  · rw [next_len s.next]; omega
  · exact Nat.le_refl _
def statBy (S : Nat → St → Except Fault (Sum × St)) (I : Nat → St → Except Fault (Items × St)) (T : Nat → St → Except Fault (Stats × St)) (d : Nat) (s : St) : Option (Except Fault ((Stats → Stats) × St)) :=
  if s.isWord "on" = true then some
    (S d s.next >>= fun x => eatSign ';' (if x.2.isWord "round" = true then x.2.next else x.2) >>= fun t => .ok (.on s.place x.1 (x.2.isWord "round"), t))
  else if s.isWord "row" = true then some
    (I d (rowAt s) >>= fun x => eatSign ';' x.2 >>= fun t => .ok (.row s.place (sideOf s) x.1, t))
  else if (s.isWord "repeat" || s.isWord "until") = true then some
    (S d s.next >>= fun x => eatOpen '{' d x.2 >>= fun t => T (d + 1) t >>= fun i => eatSign '}' i.2 >>= fun u =>
      .ok (fun r => if s.isWord "repeat" = true then .again s.place x.1 i.1 r else .until_ s.place x.1 i.1 r, u))
  else if s.isWord "work" = true then some
    (oldName s.env.blocks s.next >>= fun x => if x.2.sums = true then (S d x.2 >>= fun y => eatSign ';' y.2 >>= fun t => .ok (.work s.place x.1 (some y.1), t))
      else (eatSign ';' x.2 >>= fun t => .ok (.work s.place x.1 none, t)))
  else if s.isWord "off" = true then some (eatSign ';' s.next >>= fun t => .ok (.off s.place, t))
  else none
def statsBy (U : Nat → St → Option (Except Fault ((Stats → Stats) × St))) (T : Nat → St → Except Fault (Stats × St)) (d : Nat) (s : St) : Except Fault (Stats × St) :=
  match U d s with
  | some g => g >>= fun x => T d x.2 >>= fun r => .ok (x.1 r.1, r.2)
  | none => .ok (.nil, s)
theorem bind_assoc' {α β γ : Type} (r : Except Fault α) (f : α → Except Fault β) (g : β → Except Fault γ) : (r >>= f) >>= g = r >>= fun x => f x >>= g := by
  cases r <;> rfl
theorem stats_succ (f d : Nat) (s : St) : statsAt (f + 1) d s = statsBy (statBy (sumAt f .sum) (itemsAt f) (statsAt f)) (statsAt f) d s := by
  rw [statsAt]
  unfold statsBy statBy
  dsimp only
  split
  · simp only [bind_assoc', bind_ok]; rfl
  · split
    · simp only [bind_assoc', bind_ok]; rfl
    · split
      · simp only [bind_assoc', bind_ok]
        refine bind_congr' rfl fun x t e => ?_
        refine bindS_congr fun u e => ?_
        refine bind_congr' rfl fun y t e => ?_
        refine bindS_congr fun v e => ?_
        refine bind_congr' rfl fun z t e => ?_
        split <;> rfl
      · split
        · simp only [bind_assoc', bind_ok]
          refine bind_congr' rfl fun x t e => ?_
          dsimp only
          split
          · simp only [bind_assoc', bind_ok]; rfl
          · simp only [bind_assoc', bind_ok]; rfl
        · split
          · simp only [bind_assoc', bind_ok]; rfl
          · rfl
theorem stat_lt {S : Nat → St → Except Fault (Sum × St)} {I : Nat → St → Except Fault (Items × St)} {T : Nat → St → Except Fault (Stats × St)} (hS : ∀ d s, Le s.ts.length (S d s)) (hI : ∀ d s, Le s.ts.length (I d s))
    (hT : ∀ d s, Le s.ts.length (T d s)) {d : Nat} {s : St} {g : Except Fault ((Stats → Stats) × St)} (h : statBy S I T d s = some g) : Lt s.ts.length g := by
  unfold statBy at h
  split at h
  · rename_i w; have h0 := next_lt (word_ne w)
    cases h
    refine Lt.bind fun x t e => LtS.bind fun u e2 => lt_ok ?_
    have h1 := hS _ _ x t e
    have h2 := eatSign_lt u e2
    dsimp only at h2
    split at h2
    · rename_i q; have := next_lt (word_ne q); omega
    · omega
  · split at h
    · rename_i w; have h0 := next_lt (word_ne w)
      cases h
      refine Lt.bind fun x t e => LtS.bind fun u e2 => lt_ok ?_
      have h1 := hI _ _ x t e
      have h2 := eatSign_lt u e2
      dsimp only at h2
      have h3 := row_len s
      omega
    · split at h
      · rename_i w
        have h0 : s.next.ts.length < s.ts.length := by
          rcases Bool.or_eq_true_iff.mp w with q | q
          · exact next_lt (word_ne q)
          · exact next_lt (word_ne q)
        cases h
        refine Lt.bind fun x t e => LtS.bind fun u e2 => Lt.bind fun i v e3 => LtS.bind fun z e4 => lt_ok ?_
        have h1 := hS _ _ x t e
        have h2 := eatOpen_lt u e2
        have h3 := hT _ _ i v e3
        have h4 := eatSign_lt z e4
        dsimp only at h2 h4
        omega
      · split at h
        · rename_i w; have h0 := next_lt (word_ne w)
          cases h
          refine Lt.bind fun x t e => ?_
          have h1 := oldName_lt x t e
          dsimp only
          split
          · refine Lt.bind fun y u e2 => LtS.bind fun v e3 => lt_ok ?_
            have h2 := hS _ _ y u e2
            have h3 := eatSign_lt v e3
            dsimp only at h3
            omega
          · refine LtS.bind fun v e3 => lt_ok ?_
            have h3 := eatSign_lt v e3
            omega
        · split at h
          · rename_i w; have h0 := next_lt (word_ne w)
            cases h
            refine LtS.bind fun v e3 => lt_ok ?_
            have h3 := eatSign_lt v e3
            omega
          · cases h
theorem stats_le : ∀ (f d : Nat) (s : St), Le s.ts.length (statsAt f d s)
  | 0, d, s => by rw [statsAt]; exact lt_wanted.le
  | f + 1, d, s => by
    rw [stats_succ]
    unfold statsBy
    split
    · rename_i g h
      refine Le.bind fun x t e => Le.bind fun r u e2 => le_ok ?_
      have h1 := stat_lt (fun d s => (sum_lt f d s).le) (fun d s => (items_lt f d s).le) (fun d s => stats_le f d s) h x t e
      have h2 := stats_le f d t r u e2
      dsimp only
      omega
    · exact le_ok (Nat.le_refl _)
theorem statBy_congr {S S' : Nat → St → Except Fault (Sum × St)} {I I' : Nat → St → Except Fault (Items × St)} {T T' : Nat → St → Except Fault (Stats × St)} {d : Nat} {s : St}
    (hS : ∀ d t, t.ts.length < s.ts.length → S d t = S' d t) (hI : ∀ d t, t.ts.length < s.ts.length → I d t = I' d t) (hT : ∀ d t, t.ts.length < s.ts.length → T d t = T' d t)
    (lS : ∀ d s, Le s.ts.length (S' d s)) : statBy S I T d s = statBy S' I' T' d s := by
  unfold statBy
  split
  · rename_i w; have h0 := next_lt (word_ne w)
    rw [hS _ _ h0]
  · split
    · rename_i w; have h0 := next_lt (word_ne w)
      have h3 := row_len s
      rw [hI _ _ (by omega)]
    · split
      · rename_i w
        have h0 : s.next.ts.length < s.ts.length := by
          rcases Bool.or_eq_true_iff.mp w with q | q
          · exact next_lt (word_ne q)
          · exact next_lt (word_ne q)
        refine congrArg some (bind_congr' (hS _ _ h0) fun x t e => bindS_congr fun u e2 => ?_)
        have h1 := lS _ _ x t e
        have h2 := eatOpen_lt u e2
        dsimp only at h2
        exact bind_congr' (hT _ _ (by omega)) fun _ _ _ => rfl
      · split
        · rename_i w; have h0 := next_lt (word_ne w)
          refine congrArg some (bind_congr' rfl fun x t e => ?_)
          have h1 := oldName_lt x t e
          dsimp only
          split
          · exact bind_congr' (hS _ _ (by omega)) fun _ _ _ => rfl
          · rfl
        · rfl
theorem stats_fuel : ∀ (f g d : Nat) (s : St), 3 * s.ts.length + 1 ≤ f → 3 * s.ts.length + 1 ≤ g → statsAt f d s = statsAt g d s
  | 0, _, _, _, h, _ => by omega
  | _ + 1, 0, _, _, _, h => by omega
  | f + 1, g + 1, d, s, h1, h2 => by
    rw [stats_succ, stats_succ]
    unfold statsBy
    rw [statBy_congr (S' := sumAt g .sum) (I' := itemsAt g) (T' := statsAt g) (fun d t ht => sum_fuel f g _ d t (by simp only [needL]; omega) (by simp only [needL]; omega)) (fun d t ht => items_fuel f g d t (by omega) (by omega))
      (fun d t ht => stats_fuel f g d t (by omega) (by omega)) fun d s => (sum_lt g d s).le]
    split
    · rename_i q h
      refine bind_congr' rfl fun x t e => ?_
      have h3 := stat_lt (fun d s => (sum_lt g d s).le) (fun d s => (items_lt g d s).le) (fun d s => stats_le g d s) h x t e
      exact bind_congr' (stats_fuel f g d t (by omega) (by omega)) fun _ _ _ => rfl
    · rfl
def statsS (d : Nat) (s : St) : Except Fault (Stats × St) := statsAt (3 * s.ts.length + 1) d s
theorem statsS_eq {f d : Nat} {s : St} (h : 3 * s.ts.length + 1 ≤ f) : statsAt f d s = statsS d s := stats_fuel _ _ _ _ h (Nat.le_refl _)
theorem statsS_le (d : Nat) (s : St) : Le s.ts.length (statsS d s) := stats_le _ d s
def statS (d : Nat) (s : St) : Option (Except Fault ((Stats → Stats) × St)) := statBy (sumS .sum) itemsS statsS d s
theorem statS_lt {d : Nat} {s : St} {g : Except Fault ((Stats → Stats) × St)} (h : statS d s = some g) : Lt s.ts.length g :=
  stat_lt (fun d s => (sumS_lt d s).le) (fun d s => (itemsS_lt d s).le) (fun d s => statsS_le d s) h
theorem statsS_def (d : Nat) (s : St) : statsS d s = match statS d s with
    | some g => g >>= fun x => statsS d x.2 >>= fun r => .ok (x.1 r.1, r.2)
    | none => .ok (.nil, s) := by
  show statsAt (3 * s.ts.length + 1) d s = _
  rw [stats_succ]
  unfold statsBy
  rw [statBy_congr (S' := sumS .sum) (I' := itemsS) (T' := statsS) (fun d t ht => sumS_eq (by simp only [needL]; omega)) (fun d t ht => itemsS_eq (by omega)) (fun d t ht => statsS_eq (by omega)) fun d s => (sumS_lt d s).le]
  show (match statS d s with | some g => _ | none => _) = _
  cases h : statS d s with
  | none => rfl
  | some g =>
    dsimp only
    refine bind_congr' rfl fun x t e => ?_
    have h3 := statS_lt h x t e
    exact bind_congr' (statsS_eq (by dsimp only; omega)) fun _ _ _ => rfl
end Wm
end
section
set_option linter.all false
namespace Wm
open LsWale
theorem names_lt : ∀ (f m : Nat) (l : List Bytes) (s : St), Lt s.ts.length (namesAt f m l s)
  | 0, m, l, s => by rw [namesAt]; exact lt_wanted
  | f + 1, m, l, s => by
    rw [namesAt]
    refine Lt.bind fun x t e => ?_
    have h1 := newName_lt x t e
    dsimp only
    split
    · rename_i h
      have h0 := next_lt (sign_ne h)
      exact (names_lt f m _ t.next).mono (by omega)
    · exact lt_ok h1
theorem names_fuel : ∀ (f g m : Nat) (l : List Bytes) (s : St), s.ts.length + 1 ≤ f → s.ts.length + 1 ≤ g → namesAt f m l s = namesAt g m l s
  | 0, _, _, _, _, h, _ => by omega
  | _ + 1, 0, _, _, _, _, h => by omega
  | f + 1, g + 1, m, l, s, h1, h2 => by
    rw [namesAt, namesAt]
    refine bind_congr' rfl fun x t e => ?_
    have h3 := newName_lt x t e
    dsimp only
    split
    · rename_i h
      have h0 := next_lt (sign_ne h)
      exact names_fuel f g m _ t.next (by omega) (by omega)
    · rfl
def namesS (m : Nat) (l : List Bytes) (s : St) : Except Fault (List Bytes × St) := namesAt (s.ts.length + 1) m l s
theorem namesS_eq {f m : Nat} {l : List Bytes} {s : St} (h : s.ts.length + 1 ≤ f) : namesAt f m l s = namesS m l s := names_fuel _ _ _ _ _ h (Nat.le_refl _)
theorem namesS_def (m : Nat) (l : List Bytes) (s : St) : namesS m l s = newName l.length m s l >>= fun x => if x.2.isSign ',' = true then namesS m (l ++ [x.1]) x.2.next else .ok (l ++ [x.1], x.2) := by
  show namesAt (s.ts.length + 1) m l s = _
  rw [namesAt]
  refine bind_congr' rfl fun x t e => ?_
  have h3 := newName_lt x t e
  dsimp only
  split
  · rename_i h
    have h0 := next_lt (sign_ne h)
    exact namesS_eq (by omega)
  · rfl
theorem sums_lt : ∀ (f : Nat) (s : St), Lt s.ts.length (sumsAt f s)
  | 0, s => by rw [sumsAt]; exact lt_wanted
  | f + 1, s => by
    rw [sumsAt]
    refine Lt.bind fun x t e => ?_
    have h1 := sum_lt f 0 s x t e
    dsimp only
    split
    · rename_i h
      have h0 := next_lt (sign_ne h)
      refine Lt.bind fun l u e2 => lt_ok ?_
      have h2 := sums_lt f t.next l u e2
      dsimp only
      omega
    · exact lt_ok h1
theorem sums_fuel : ∀ (f g : Nat) (s : St), 3 * s.ts.length + 4 ≤ f → 3 * s.ts.length + 4 ≤ g → sumsAt f s = sumsAt g s
  | 0, _, _, h, _ => by omega
  | _ + 1, 0, _, _, h => by omega
  | f + 1, g + 1, s, h1, h2 => by
    rw [sumsAt, sumsAt]
    refine bind_congr' (sum_fuel f g _ _ _ (by simp only [needL]; omega) (by simp only [needL]; omega)) fun x t e => ?_
    have h3 := sum_lt g 0 s x t e
    dsimp only
    split
    · rename_i h
      have h0 := next_lt (sign_ne h)
      exact bind_congr' (sums_fuel f g t.next (by omega) (by omega)) fun _ _ _ => rfl
    · rfl
def sumsS (s : St) : Except Fault (List Sum × St) := sumsAt (3 * s.ts.length + 4) s
theorem sumsS_eq {f : Nat} {s : St} (h : 3 * s.ts.length + 4 ≤ f) : sumsAt f s = sumsS s := sums_fuel _ _ _ h (Nat.le_refl _)
theorem sumsS_def (s : St) : sumsS s = sumS .sum 0 s >>= fun x => if x.2.isSign ',' = true then (sumsS x.2.next >>= fun l => .ok (x.1 :: l.1, l.2)) else .ok ([x.1], x.2) := by
  show sumsAt (3 * s.ts.length + 4) s = _
  rw [sumsAt]
  refine bind_congr' (sumS_eq (by simp only [needL]; omega)) fun x t e => ?_
  have h3 := sumS_lt 0 s x t e
  dsimp only
  split
  · rename_i h
    have h0 := next_lt (sign_ne h)
    exact bind_congr' (sumsS_eq (by omega)) fun _ _ _ => rfl
  · rfl
def headBy (N : Nat → List Bytes → St → Except Fault (List Bytes × St)) (S : St → Except Fault (List Sum × St)) (I : Nat → St → Except Fault (Items × St)) (T : Nat → St → Except Fault (Stats × St)) (s : St) : Option (Except Fault (Head × St)) :=
  if s.isWord "sizes" = true then some
    (if s.env.sizes.isSome = true ∨ s.env.lets ≠ [] then .error ⟨5, s.place⟩ else
      N SIZES [] s.next >>= fun x => eatSign ';' x.2 >>= fun t => .ok (.sizes x.1, { t with env := { t.env with sizes := some x.1 } }))
  else if s.isWord "yarns" = true then some
    (if s.env.yarns.isSome = true then .error ⟨5, s.place⟩ else
      N YARNS [] s.next >>= fun x => eatSign ';' x.2 >>= fun t => .ok (.yarns x.1, { t with env := { t.env with yarns := some x.1 } }))
  else if s.isWord "let" = true then some
    (newName s.env.lets.length LETS s.next [] >>= fun n => eatSign '=' n.2 >>= fun t => S t >>= fun x => eatSign ';' x.2 >>= fun u =>
      if x.1.length ≠ 1 ∧ x.1.length ≠ s.env.many then .error ⟨7, s.next.place⟩ else .ok (.let_ n.1 x.1, { u with env := { u.env with lets := u.env.lets ++ [n.1] } }))
  else if s.isWord "word" = true then some
    (newName s.env.words.length WORDS s.next [] >>= fun n => eatSign '=' n.2 >>= fun t => I 0 t >>= fun x => eatSign ';' x.2 >>= fun u =>
      .ok (.word n.1 x.1, { u with env := { u.env with words := u.env.words ++ [n.1] } }))
  else if s.isWord "block" = true then some
    (newName s.env.blocks.length BLOCKS s.next [] >>= fun n => eatOpen '{' 0 n.2 >>= fun t => T 1 t >>= fun x => eatSign '}' x.2 >>= fun u =>
      .ok (.block n.1 x.1, { u with env := { u.env with blocks := u.env.blocks ++ [n.1] } }))
  else none
def headsBy (U : St → Option (Except Fault (Head × St))) (T : St → Except Fault (List Head × St)) (s : St) : Except Fault (List Head × St) :=
  match U s with
  | some g => g >>= fun x => T x.2 >>= fun r => .ok (x.1 :: r.1, r.2)
  | none => .ok ([], s)
theorem heads_succ (f : Nat) (s : St) : headsAt (f + 1) s = headsBy (headBy (namesAt f) (sumsAt f) (itemsAt f) (statsAt f)) (headsAt f) s := by
  rw [headsAt]
  unfold headsBy headBy
  dsimp only
  split
  · dsimp only
    by_cases h : s.env.sizes.isSome = true ∨ s.env.lets ≠ []
    · rw [if_pos h, if_pos h]; rfl
    · rw [if_neg h, if_neg h]; simp only [bind_assoc', bind_ok]; rfl
  · split
    · dsimp only
      by_cases h : s.env.yarns.isSome = true
      · rw [if_pos h, if_pos h]; rfl
      · rw [if_neg h, if_neg h]; simp only [bind_assoc', bind_ok]; rfl
    · split
      · simp only [bind_assoc']
        refine bind_congr' rfl fun n t e => bindS_congr fun u e => bind_congr' rfl fun x t e => bindS_congr fun v e => ?_
        dsimp only
        split <;> rfl
      · split
        · simp only [bind_assoc', bind_ok]; rfl
        · split
          · simp only [bind_assoc', bind_ok]; rfl
          · rfl
theorem ltE {α : Type} {n : Nat} {s : St} {x : α} {e : Env} (h : s.ts.length < n) : Lt n (.ok (x, ({ s with env := e } : St))) := lt_ok h
theorem head_lt {N : Nat → List Bytes → St → Except Fault (List Bytes × St)} {S : St → Except Fault (List Sum × St)} {I : Nat → St → Except Fault (Items × St)} {T : Nat → St → Except Fault (Stats × St)}
    (hN : ∀ m l s, Le s.ts.length (N m l s)) (hS : ∀ s, Le s.ts.length (S s)) (hI : ∀ d s, Le s.ts.length (I d s)) (hT : ∀ d s, Le s.ts.length (T d s)) {s : St} {g : Except Fault (Head × St)} (h : headBy N S I T s = some g) : Lt s.ts.length g := by
  unfold headBy at h
  split at h
  · rename_i w; have h0 := next_lt (word_ne w)
    cases h
    split
    · exact lt_error
    · refine Lt.bind fun x t e => LtS.bind fun u e2 => ltE ?_
      have h1 := hN _ _ _ x t e
      have h2 := eatSign_lt u e2
      dsimp only at h2
      omega
  · split at h
    · rename_i w; have h0 := next_lt (word_ne w)
      cases h
      split
      · exact lt_error
      · refine Lt.bind fun x t e => LtS.bind fun u e2 => ltE ?_
        have h1 := hN _ _ _ x t e
        have h2 := eatSign_lt u e2
        dsimp only at h2
        omega
    · split at h
      · rename_i w; have h0 := next_lt (word_ne w)
        cases h
        refine Lt.bind fun n t e => LtS.bind fun u e2 => Lt.bind fun x v e3 => LtS.bind fun z e4 => ?_
        split
        · exact lt_error
        · refine ltE ?_
          have h1 := newName_lt n t e
          have h2 := eatSign_lt u e2
          have h3 := hS _ x v e3
          have h4 := eatSign_lt z e4
          dsimp only at h2 h4
          omega
      · split at h
        · rename_i w; have h0 := next_lt (word_ne w)
          cases h
          refine Lt.bind fun n t e => LtS.bind fun u e2 => Lt.bind fun x v e3 => LtS.bind fun z e4 => ltE ?_
          have h1 := newName_lt n t e
          have h2 := eatSign_lt u e2
          have h3 := hI _ _ x v e3
          have h4 := eatSign_lt z e4
          dsimp only at h2 h4
          omega
        · split at h
          · rename_i w; have h0 := next_lt (word_ne w)
            cases h
            refine Lt.bind fun n t e => LtS.bind fun u e2 => Lt.bind fun x v e3 => LtS.bind fun z e4 => ltE ?_
            have h1 := newName_lt n t e
            have h2 := eatOpen_lt u e2
            have h3 := hT _ _ x v e3
            have h4 := eatSign_lt z e4
            dsimp only at h2 h4
            omega
          · cases h
theorem headBy_congr {N N' : Nat → List Bytes → St → Except Fault (List Bytes × St)} {S S' : St → Except Fault (List Sum × St)} {I I' : Nat → St → Except Fault (Items × St)} {T T' : Nat → St → Except Fault (Stats × St)} {s : St}
    (hN : ∀ m l t, t.ts.length < s.ts.length → N m l t = N' m l t) (hS : ∀ t, t.ts.length + 2 < s.ts.length → S t = S' t) (hI : ∀ d t, t.ts.length < s.ts.length → I d t = I' d t) (hT : ∀ d t, t.ts.length < s.ts.length → T d t = T' d t) :
    headBy N S I T s = headBy N' S' I' T' s := by
  unfold headBy
  split
  · rename_i w; have h0 := next_lt (word_ne w)
    rw [hN _ _ _ h0]
  · split
    · rename_i w; have h0 := next_lt (word_ne w)
      rw [hN _ _ _ h0]
    · split
      · rename_i w; have h0 := next_lt (word_ne w)
        refine congrArg some (bind_congr' rfl fun n t e => bindS_congr fun u e2 => ?_)
        have h1 := newName_lt n t e
        have h2 := eatSign_lt u e2
        rw [hS _ (by dsimp only at h2; omega)]
      · split
        · rename_i w; have h0 := next_lt (word_ne w)
          refine congrArg some (bind_congr' rfl fun n t e => bindS_congr fun u e2 => ?_)
          have h1 := newName_lt n t e
          have h2 := eatSign_lt u e2
          rw [hI _ _ (by dsimp only at h2; omega)]
        · split
          · rename_i w; have h0 := next_lt (word_ne w)
            refine congrArg some (bind_congr' rfl fun n t e => bindS_congr fun u e2 => ?_)
            have h1 := newName_lt n t e
            have h2 := eatOpen_lt u e2
            rw [hT _ _ (by dsimp only at h2; omega)]
          · rfl
theorem heads_fuel : ∀ (f g : Nat) (s : St), 3 * s.ts.length + 1 ≤ f → 3 * s.ts.length + 1 ≤ g → headsAt f s = headsAt g s
  | 0, _, _, h, _ => by omega
  | _ + 1, 0, _, _, h => by omega
  | f + 1, g + 1, s, h1, h2 => by
    rw [heads_succ, heads_succ]
    unfold headsBy
    rw [headBy_congr (N' := namesAt g) (S' := sumsAt g) (I' := itemsAt g) (T' := statsAt g) (fun m l t ht => names_fuel f g m l t (by omega) (by omega)) (fun t ht => sums_fuel f g t (by omega) (by omega))
      (fun d t ht => items_fuel f g d t (by omega) (by omega)) fun d t ht => stats_fuel f g d t (by omega) (by omega)]
    split
    · rename_i q h
      refine bind_congr' rfl fun x t e => ?_
      have h3 := head_lt (fun m l s => (names_lt g m l s).le) (fun s => (sums_lt g s).le) (fun d s => (items_lt g d s).le) (fun d s => stats_le g d s) h x t e
      exact bind_congr' (heads_fuel f g t (by omega) (by omega)) fun _ _ _ => rfl
    · rfl
def headsS (s : St) : Except Fault (List Head × St) := headsAt (3 * s.ts.length + 1) s
theorem headsS_eq {f : Nat} {s : St} (h : 3 * s.ts.length + 1 ≤ f) : headsAt f s = headsS s := heads_fuel _ _ _ h (Nat.le_refl _)
def headS (s : St) : Option (Except Fault (Head × St)) := headBy namesS sumsS itemsS statsS s
theorem headS_lt {s : St} {g : Except Fault (Head × St)} (h : headS s = some g) : Lt s.ts.length g :=
  head_lt (fun m l s => (names_lt _ m l s).le) (fun s => (sums_lt _ s).le) (fun d s => (itemsS_lt d s).le) (fun d s => statsS_le d s) h
theorem headsS_def (s : St) : headsS s = match headS s with
    | some g => g >>= fun x => headsS x.2 >>= fun r => .ok (x.1 :: r.1, r.2)
    | none => .ok ([], s) := by
  show headsAt (3 * s.ts.length + 1) s = _
  rw [heads_succ]
  unfold headsBy
  rw [headBy_congr (N' := namesS) (S' := sumsS) (I' := itemsS) (T' := statsS) (fun m l t ht => namesS_eq (by omega)) (fun t ht => sumsS_eq (by omega)) (fun d t ht => itemsS_eq (by omega)) fun d t ht => statsS_eq (by omega)]
  show (match headS s with | some g => _ | none => _) = _
  cases h : headS s with
  | none => rfl
  | some g =>
    dsimp only
    refine bind_congr' rfl fun x t e => ?_
    have h3 := headS_lt h x t e
    exact bind_congr' (headsS_eq (by dsimp only; omega)) fun _ _ _ => rfl
theorem heads_le : ∀ (f : Nat) (s : St), Le s.ts.length (headsAt f s)
  | 0, s => by rw [headsAt]; exact lt_wanted.le
  | f + 1, s => by
    rw [heads_succ]
    unfold headsBy
    split
    · rename_i g h
      refine Le.bind fun x t e => Le.bind fun r u e2 => le_ok ?_
      have h1 := head_lt (fun m l s => (names_lt f m l s).le) (fun s => (sums_lt f s).le) (fun d s => (items_lt f d s).le) (fun d s => stats_le f d s) h x t e
      have h2 := heads_le f t r u e2
      dsimp only
      omega
    · exact le_ok (Nat.le_refl _)
theorem toks_len (b : Bytes) : ∀ (n p : Nat), b.length - p ≤ n → p ≤ b.length → (toks b p).length ≤ b.length - p + 1
  | 0, p, h, hp => by
    rw [toks_cons]
    cases ht : isTok (tkOf b p) with
    | false => rw [behind_no ht]; simp
    | true =>
      have h1 := tkEnd_gt ht
      have h2 := tkEnd_le hp
      omega
  | n + 1, p, h, hp => by
    rw [toks_cons]
    cases ht : isTok (tkOf b p) with
    | false => rw [behind_no ht]; simp
    | true =>
      have h1 := tkEnd_gt ht
      have h2 := tkEnd_le hp
      rw [behind_tok ht]
      have := toks_len b n (tkEnd b p) (by omega) h2
      simp only [List.length_cons]
      omega
def readS (s : St) : Except Fault (Pattern × Env) :=
  eatWord "pattern" s >>= fun s => anyName s >>= fun n => eatSign ';' n.2 >>= fun t => headsS t >>= fun h => statsS 0 h.2 >>= fun x =>
    match x.2.ts with
    | ⟨_, .done⟩ :: _ => .ok (⟨n.1, h.1, x.1⟩, x.2.env)
    | _ => wanted x.2
theorem readAll_eq {b : Bytes} (h : b.length ≤ MOST) : readAll b = readS ⟨toks b 0, .none_⟩ := by
  unfold readAll
  rw [if_neg (by omega)]
  show (eatWord "pattern" ⟨tokensOf b, .none_⟩ >>= _) = _
  rw [toks_zero]
  unfold readS
  have hl : (toks b 0).length ≤ b.length + 1 := toks_len b b.length 0 (by omega) (by omega)
  have bS : ∀ {β : Type} {r : Except Fault St} {f g : St → Except Fault β}, (∀ s, r = .ok s → f s = g s) → (r >>= f) = (r >>= g) := by
    intro β r f g hh
    cases r with
    | error e => rfl
    | ok s => exact hh s rfl
  have bP : ∀ {α β : Type} {r r' : Except Fault (α × St)} {f g : α × St → Except Fault β}, r = r' → (∀ x s, r' = .ok (x, s) → f (x, s) = g (x, s)) → (r >>= f) = (r' >>= g) := by
    intro α β r r' f g e hh
    subst e
    cases r with
    | error e => rfl
    | ok p => obtain ⟨x, s⟩ := p; exact hh x s rfl
  refine bS fun s e => bP rfl fun n t e1 => bS fun u e2 => ?_
  have h1 := eatWord_lt s e
  have h2 := anyName_lt n t e1
  have h3 := eatSign_lt u e2
  dsimp only at h1 h2 h3
  refine bP (headsS_eq (by omega)) fun hd v e3 => ?_
  have h4 := heads_le _ u hd v e3
  exact bP (statsS_eq (by dsimp only; omega)) fun x w e4 => rfl
end Wm
end
section
set_option linter.all false
namespace Wm
open LsWale
theorem drop_cons {b : Bytes} {q : Nat} {c : UInt8} (h : b[q]? = some c) : b.drop q = c :: b.drop (q + 1) := by
  obtain ⟨hl, rfl⟩ := List.getElem?_eq_some_iff.mp h
  exact List.drop_eq_getElem_cons hl
theorem drop_end {b : Bytes} {q : Nat} (h : b.length ≤ q) : b.drop q = [] := List.drop_eq_nil_of_le h
theorem u8_eq {c : UInt8} {n : Nat} (hn : n < 256) : c = UInt8.ofNat n ↔ c.toNat = n := by
  constructor
  · rintro rfl
    rw [UInt8.toNat_ofNat']
    exact Nat.mod_eq_of_lt hn
  · intro h
    apply UInt8.toNat_inj.mp
    rw [h, UInt8.toNat_ofNat']
    exact (Nat.mod_eq_of_lt hn).symm
theorem isByte_iff (c : UInt8) : isByte c = true ↔ c.toNat = 10 ∨ (32 ≤ c.toNat ∧ c.toNat ≤ 126) := by
  unfold isByte
  rw [Bool.or_eq_true, Bool.and_eq_true, decide_eq_true_eq, decide_eq_true_eq, beq_iff_eq, UInt8.le_iff_toNat_le, UInt8.le_iff_toNat_le, ← UInt8.toNat_inj]
  rfl
theorem isLetter_iff (c : UInt8) : isLetter c = true ↔ 97 ≤ c.toNat ∧ c.toNat ≤ 122 := by
  unfold isLetter
  rw [Bool.and_eq_true, decide_eq_true_eq, decide_eq_true_eq, UInt8.le_iff_toNat_le, UInt8.le_iff_toNat_le]
  rfl
theorem isDigit_iff (c : UInt8) : isDigit c = true ↔ 48 ≤ c.toNat ∧ c.toNat ≤ 57 := by
  unfold isDigit
  rw [Bool.and_eq_true, decide_eq_true_eq, decide_eq_true_eq, UInt8.le_iff_toNat_le, UInt8.le_iff_toNat_le]
  rfl
theorem isTail_iff (c : UInt8) : isTail c = true ↔ (97 ≤ c.toNat ∧ c.toNat ≤ 122) ∨ c.toNat = 95 := by
  unfold isTail
  rw [Bool.or_eq_true, isLetter_iff, beq_iff_eq, ← UInt8.toNat_inj]
  rfl
theorem blanks_f {b : Bytes} {q : Nat} {c : UInt8} (h : b[q]? = some c) : blanks false (b.drop q) =
    if c.toNat = 10 ∨ c.toNat = 32 then 1 + blanks false (b.drop (q + 1)) else if c.toNat = 35 then 1 + blanks true (b.drop (q + 1)) else 0 := by
  rw [drop_cons h, blanks]
  have e1 : (c = 10 ∨ c = 32) ↔ (c.toNat = 10 ∨ c.toNat = 32) := by rw [← UInt8.toNat_inj, ← UInt8.toNat_inj]; rfl
  have e2 : c = 35 ↔ c.toNat = 35 := by rw [← UInt8.toNat_inj]; rfl
  simp only [e1, e2]
theorem blanks_t {b : Bytes} {q : Nat} {c : UInt8} (h : b[q]? = some c) : blanks true (b.drop q) =
    if c.toNat = 10 then 1 + blanks false (b.drop (q + 1)) else if isByte c = true then 1 + blanks true (b.drop (q + 1)) else 0 := by
  rw [drop_cons h, blanks]
  have e2 : c = 10 ↔ c.toNat = 10 := by rw [← UInt8.toNat_inj]; rfl
  simp only [e2]
theorem blanks_end {f : Bool} {b : Bytes} {q : Nat} (h : b.length ≤ q) : blanks f (b.drop q) = 0 := by
  rw [drop_end h]; cases f <;> rfl
theorem value_snoc (d : Bytes) (c : UInt8) : valueOf (d ++ [c]) = 10 * valueOf d + (c.toNat - 48) := by
  unfold valueOf; rw [List.foldl_append]; rfl
theorem cap_step (v d : Nat) : min (min v 1048577 * 10 + d) 1048577 = min (10 * v + d) 1048577 := by omega
def run (f : UInt8 → Bool) (b : Bytes) (p : Nat) : Nat := ((b.drop p).takeWhile f).length
theorem run_cons {f : UInt8 → Bool} {b : Bytes} {p : Nat} {c : UInt8} (h : b[p]? = some c) : run f b p = if f c = true then 1 + run f b (p + 1) else 0 := by
  unfold run
  rw [drop_cons h, List.takeWhile_cons]
  split
  · rw [List.length_cons]; omega
  · rfl
theorem run_end {f : UInt8 → Bool} {b : Bytes} {p : Nat} (h : b.length ≤ p) : run f b p = 0 := by
  unfold run; rw [drop_end h]; rfl
theorem run_le (f : UInt8 → Bool) (b : Bytes) (p : Nat) (h : p ≤ b.length) : p + run f b p ≤ b.length := by
  unfold run
  have := (List.takeWhile_sublist (l := b.drop p) f).length_le
  rw [List.length_drop] at this
  omega
theorem take_run (f : UInt8 → Bool) (l : Bytes) : l.take (l.takeWhile f).length = l.takeWhile f := by
  induction l with
  | nil => rfl
  | cons c r ih =>
    rw [List.takeWhile_cons]
    split
    · rw [List.length_cons, List.take_succ_cons, ih]
    · rfl
theorem run_all {f : UInt8 → Bool} {l : Bytes} : ∀ c ∈ l.takeWhile f, f c = true := by
  intro c hc
  induction l with
  | nil => cases hc
  | cons d r ih =>
    rw [List.takeWhile_cons] at hc
    split at hc
    · rename_i q
      rcases List.mem_cons.mp hc with rfl | hc
      · exact q
      · exact ih hc
    · cases hc
theorem take_snoc {l : Bytes} {i : Nat} {c : UInt8} (h : l[i]? = some c) : l.take (i + 1) = l.take i ++ [c] := by
  rw [List.take_add_one, h]; rfl
def tl1 (c : UInt8) : Bool := isTail c || isDigit c
theorem dw_all : ∀ w ∈ DIGITWORDS, (∀ c ∈ w, tl1 c = true) ∧ w.length ≤ 5 ∧ 1 ≤ w.length := by decide +kernel
theorem takeWhile_exact {f : UInt8 → Bool} {b w : Bytes} (h1 : b.take w.length = w) (h2 : ∀ c ∈ w, f c = true) (h3 : ((b.drop w.length).take 1).any f = false) : b.takeWhile f = w := by
  have e : b = w ++ b.drop w.length := by
    have := List.take_append_drop w.length b
    rw [h1] at this
    exact this.symm
  rw [e, List.takeWhile_append_of_pos h2]
  cases hd : b.drop w.length with
  | nil => simp
  | cons c r =>
    rw [hd] at h3
    simp only [List.take_succ_cons, List.take_zero, List.any_cons, List.any_nil, Bool.or_false] at h3
    rw [List.takeWhile_cons, h3]
    simp
theorem take_of_takeWhile {f : UInt8 → Bool} {b w : Bytes} (h : b.takeWhile f = w) : b.take w.length = w ∧ ((b.drop w.length).take 1).any f = false := by
  subst h
  refine ⟨take_run f b, ?_⟩
  induction b with
  | nil => rfl
  | cons c r ih =>
    rw [List.takeWhile_cons]
    split
    · rw [List.length_cons, List.drop_succ_cons]; exact ih
    · rename_i q
      simp only [List.length_nil, List.drop_zero, List.take_succ_cons, List.take_zero, List.any_cons, List.any_nil, Bool.or_false]
      simpa using q
def dwAt (b : Bytes) : Bytes := (b.takeWhile tl1).take 6
theorem dw_len {b w : Bytes} (h : dwAt b = w) (hl : w.length ≤ 5) : b.takeWhile tl1 = w := by
  unfold dwAt at h
  have h1 : min 6 (b.takeWhile tl1).length = w.length := by rw [← h, List.length_take]
  rw [← h, List.take_of_length_le (by omega)]
theorem wordAt_digit {b : Bytes} (h : dwAt b ∈ DIGITWORDS) : wordAt b = dwAt b := by
  obtain ⟨h1, h2, h3⟩ := dw_all _ h
  have e := dw_len rfl h2
  have ⟨t1, t2⟩ := take_of_takeWhile e
  unfold wordAt
  have : DIGITWORDS.find? (fun (w : Bytes) => b.take w.length == w && !((b.drop w.length).take 1).any fun (c : UInt8) => isTail c || isDigit c) = some (dwAt b) := by
    cases hf : DIGITWORDS.find? (fun (w : Bytes) => b.take w.length == w && !((b.drop w.length).take 1).any fun (c : UInt8) => isTail c || isDigit c) with
    | none =>
      exfalso
      have := List.find?_eq_none.mp hf _ h
      simp only [t1, beq_self_eq_true, Bool.true_and] at this
      exact this (by rw [show (((b.drop (dwAt b).length).take 1).any fun (c : UInt8) => isTail c || isDigit c) = false from t2]; rfl)
    | some w =>
      have hm := List.mem_of_find?_eq_some hf
      have hp := List.find?_some hf
      simp only [Bool.and_eq_true, beq_iff_eq, Bool.not_eq_true'] at hp
      have := takeWhile_exact hp.1 (dw_all w hm).1 hp.2
      rw [e] at this
      rw [this]
  rw [this]
theorem wordAt_plain {c : UInt8} {r : Bytes} (h : dwAt (c :: r) ∉ DIGITWORDS) (hc : isLetter c = true) : wordAt (c :: r) = (c :: r).takeWhile isTail := by
  unfold wordAt
  have : DIGITWORDS.find? (fun (w : Bytes) => (c :: r).take w.length == w && !(((c :: r).drop w.length).take 1).any fun (c : UInt8) => isTail c || isDigit c) = none := by
    refine List.find?_eq_none.mpr fun w hm hp => h ?_
    simp only [Bool.and_eq_true, beq_iff_eq, Bool.not_eq_true'] at hp
    have e := takeWhile_exact hp.1 (dw_all w hm).1 hp.2
    have e2 : dwAt (c :: r) = w := by
      have e' : (c :: r).takeWhile tl1 = w := e
      unfold dwAt
      rw [e', List.take_of_length_le (by have := (dw_all w hm).2.1; omega)]
    rw [e2]; exact hm
  rw [this]
  have ht : isTail c = true := by unfold isTail; rw [hc]; rfl
  simp only [hc, if_true]
  rw [List.takeWhile_cons, if_pos ht]
end Wm
end
section
set_option linter.all false
namespace Wm
open LsWale
abbrev stAt (b : Bytes) (p : Nat) (e : Env) : St := ⟨toks b p, e⟩
theorem ts_at (b : Bytes) (p : Nat) (e : Env) : (stAt b p e).ts = ⟨tkAt b p, tkOf b p⟩ :: behind (tkOf b p) (toks b (tkEnd b p)) := toks_cons b p
theorem place_at (b : Bytes) (p : Nat) (e : Env) : (stAt b p e).place = tkAt b p := by unfold St.place; rw [ts_at]
theorem next_at {b : Bytes} {p : Nat} {e : Env} (h : isTok (tkOf b p) = true) : (stAt b p e).next = stAt b (tkEnd b p) e := by
  unfold St.next
  rw [ts_at, behind_tok h]
  rfl
theorem beq_dec {α : Type} [BEq α] [LawfulBEq α] [DecidableEq α] (x y : α) : (x == y) = decide (x = y) := by
  rw [Bool.eq_iff_iff, beq_iff_eq, decide_eq_true_eq]
theorem word_at (b : Bytes) (p : Nat) (e : Env) (w : String) : (stAt b p e).isWord w = decide (tkOf b p = .word (ascii w)) := by
  unfold St.isWord
  rw [ts_at]
  cases tkOf b p <;> simp [beq_dec]
theorem sign_at (b : Bytes) (p : Nat) (e : Env) (c : Char) : (stAt b p e).isSign c = decide (tkOf b p = .sign (UInt8.ofNat c.toNat)) := by
  unfold St.isSign
  rw [ts_at]
  cases tkOf b p <;> simp [beq_dec]
theorem sums_at (b : Bytes) (p : Nat) (e : Env) : (stAt b p e).sums = match tkOf b p with
    | .num _ => true
    | .word x => isName x
    | t => decide (t = .sign 40) := by
  unfold St.sums
  rw [ts_at]
  have hs := sign_at b p e '('
  cases h : tkOf b p <;> simp only [] <;> rw [hs, h] <;> rfl
theorem wanted_at {α : Type} (b : Bytes) (p : Nat) (e : Env) : (wanted (stAt b p e) : Except Fault α) = .error ⟨match tkOf b p with | .bad k => k | _ => 3, tkAt b p⟩ := by
  unfold wanted
  rw [ts_at]
  cases tkOf b p <;> rfl
theorem wanted_tok {α : Type} {b : Bytes} {p : Nat} {e : Env} (h : ∀ k, tkOf b p ≠ .bad k) : (wanted (stAt b p e) : Except Fault α) = .error ⟨3, tkAt b p⟩ := by
  rw [wanted_at]
  cases q : tkOf b p with
  | bad k => exact absurd q (h k)
  | _ => rfl
def HB (s : St) (k pl : Nat) : Prop := ∃ r, s.ts = ⟨pl, .bad k⟩ :: r
theorem hb_at {b : Bytes} {p k : Nat} {e : Env} (h : tkOf b p = .bad k) : HB (stAt b p e) k (tkAt b p) := ⟨_, by rw [ts_at, h]⟩
def Bad {α : Type} (r : Except Fault (α × St)) (k pl : Nat) : Prop := r = .error ⟨k, pl⟩ ∨ ∃ x s, r = .ok (x, s) ∧ HB s k pl
def BadS (r : Except Fault St) (k pl : Nat) : Prop := r = .error ⟨k, pl⟩ ∨ ∃ s, r = .ok s ∧ HB s k pl
theorem bad_err {α : Type} {k pl : Nat} : Bad (.error ⟨k, pl⟩ : Except Fault (α × St)) k pl := .inl rfl
theorem bad_ok {α : Type} {x : α} {s : St} {k pl : Nat} (h : HB s k pl) : Bad (.ok (x, s)) k pl := .inr ⟨x, s, rfl, h⟩
theorem Bad.bind {α β : Type} {r : Except Fault (α × St)} {f : α × St → Except Fault (β × St)} {k pl : Nat} (h : Bad r k pl) (hf : ∀ x s, HB s k pl → Bad (f (x, s)) k pl) : Bad (r >>= f) k pl := by
  rcases h with h | ⟨x, s, h, hb⟩
  · rw [h]; exact .inl rfl
  · rw [h]; exact hf x s hb
theorem BadS.bind {β : Type} {r : Except Fault St} {f : St → Except Fault (β × St)} {k pl : Nat} (h : BadS r k pl) (hf : ∀ s, HB s k pl → Bad (f s) k pl) : Bad (r >>= f) k pl := by
  rcases h with h | ⟨s, h, hb⟩
  · rw [h]; exact .inl rfl
  · rw [h]; exact hf s hb
theorem Bad.map {α β : Type} {r : Except Fault (α × St)} {f : α × St → β × St} {k pl : Nat} (h : Bad r k pl) (hf : ∀ x s, (f (x, s)).2 = s) : Bad (r.map f) k pl := by
  rcases h with h | ⟨x, s, h, hb⟩
  · rw [h]; exact .inl rfl
  · rw [h]
    refine .inr ⟨(f (x, s)).1, s, ?_, hb⟩
    show Except.ok (f (x, s)) = _
    exact congrArg Except.ok (Prod.ext rfl (hf x s))
section
variable {s : St} {k pl : Nat}
theorem hb_wanted {α : Type} (h : HB s k pl) : (wanted s : Except Fault α) = .error ⟨k, pl⟩ := by
  obtain ⟨r, h⟩ := h
  unfold wanted; rw [h]
theorem hb_word (h : HB s k pl) (w : String) : s.isWord w = false := by obtain ⟨r, h⟩ := h; unfold St.isWord; rw [h]
theorem hb_sign (h : HB s k pl) (c : Char) : s.isSign c = false := by obtain ⟨r, h⟩ := h; unfold St.isSign; rw [h]
theorem hb_sums (h : HB s k pl) : s.sums = false := by
  have q := hb_sign h '('
  obtain ⟨r, h⟩ := h
  unfold St.sums; rw [h]; exact q
theorem hb_eatSign (h : HB s k pl) (c : Char) : eatSign c s = .error ⟨k, pl⟩ := by unfold eatSign; rw [if_neg (by rw [hb_sign h]; decide), hb_wanted h]
theorem hb_eatWord (h : HB s k pl) (w : String) : eatWord w s = .error ⟨k, pl⟩ := by unfold eatWord; rw [if_neg (by rw [hb_word h]; decide), hb_wanted h]
theorem hb_eatOpen (h : HB s k pl) (c : Char) (d : Nat) : eatOpen c d s = .error ⟨k, pl⟩ := by unfold eatOpen; rw [if_pos (hb_sign h c), hb_wanted h]
theorem hb_any (h : HB s k pl) : anyName s = .error ⟨k, pl⟩ := by
  unfold anyName
  have q := hb_wanted (α := Bytes × St) h
  obtain ⟨r, h⟩ := h
  rw [h]; exact q
theorem hb_old (h : HB s k pl) (l : List Bytes) : oldName l s = .error ⟨k, pl⟩ := by unfold oldName; rw [hb_any h]; rfl
theorem hb_new (h : HB s k pl) (m n : Nat) (l : List Bytes) : newName m n s l = .error ⟨k, pl⟩ := by unfold newName; rw [hb_any h]; rfl
theorem hb_mark (h : HB s k pl) : markName s = .error ⟨k, pl⟩ := by unfold markName; rw [hb_any h]; rfl
theorem hb_hold (h : HB s k pl) : holdName s = .error ⟨k, pl⟩ := by unfold holdName; rw [hb_any h]; rfl
theorem hb_wide (h : HB s k pl) : wideAt s = .error ⟨k, pl⟩ := by
  unfold wideAt
  have q := hb_wanted (α := Nat × St) h
  obtain ⟨r, h⟩ := h
  rw [h]; exact q
theorem hb_fact (h : HB s k pl) (d : Nat) : sumS .fact d s = .error ⟨k, pl⟩ := by
  have q := hb_eatOpen h '(' d
  obtain ⟨r, h⟩ := h
  rw [sumS_open (by intro p n r' z; rw [h] at z; cases z) (by intro p n r' z; rw [h] at z; cases z), q]; rfl
theorem hb_prod (h : HB s k pl) (d : Nat) : sumS .prod d s = .error ⟨k, pl⟩ := by rw [sumS_prod, hb_fact h]; rfl
theorem hb_sum (h : HB s k pl) (d : Nat) : sumS .sum d s = .error ⟨k, pl⟩ := by rw [sumS_sum, hb_prod h]; rfl
theorem hb_rest (h : HB s k pl) (a : Sum) (d : Nat) : sumS (.sumRest a) d s = .ok (a, s) := by rw [sumS_rest, hb_sign h, hb_sign h]; rfl
theorem hb_prest (h : HB s k pl) (a : Sum) (d : Nat) : sumS (.prodRest a) d s = .ok (a, s) := by rw [sumS_prest, hb_sign h, hb_sign h]; rfl
theorem hb_reach (h : HB s k pl) (d : Nat) : reachS d s = .ok (.once, s) := by rw [reachS_def, hb_word h, hb_sums h]; rfl
theorem hb_unit (h : HB s k pl) : unitAt s = .error ⟨k, pl⟩ := by
  unfold unitAt
  have q := hb_wanted (α := Unit_ × St) h
  obtain ⟨r, h⟩ := h
  rw [h]; exact q
theorem hb_lone (h : HB s k pl) : loneAt s = none := by unfold loneAt; simp only [hb_word h]; rfl
theorem hb_item (h : HB s k pl) (d : Nat) : itemS d s = .error ⟨k, pl⟩ := by
  unfold itemS itemBy
  rw [hb_lone h, hb_sign h, hb_unit h]; rfl
theorem hb_items (h : HB s k pl) (d : Nat) : itemsS d s = .error ⟨k, pl⟩ := by rw [itemsS_def, hb_item h]; rfl
theorem hb_stat (h : HB s k pl) (d : Nat) : statS d s = none := by unfold statS statBy; simp only [hb_word h]; rfl
theorem hb_stats (h : HB s k pl) (d : Nat) : statsS d s = .ok (.nil, s) := by rw [statsS_def, hb_stat h]
theorem hb_head (h : HB s k pl) : headS s = none := by unfold headS headBy; simp only [hb_word h]; rfl
theorem hb_heads (h : HB s k pl) : headsS s = .ok ([], s) := by rw [headsS_def, hb_head h]
theorem hb_names (h : HB s k pl) (m : Nat) (l : List Bytes) : namesS m l s = .error ⟨k, pl⟩ := by rw [namesS_def, hb_new h]; rfl
theorem hb_sumss (h : HB s k pl) : sumsS s = .error ⟨k, pl⟩ := by rw [sumsS_def, hb_sum h]; rfl
end
def wf : Tok → Bool
  | .word x => (match x with | c :: _ => isLetter c | [] => false)
  | .sign c => SIGNS.contains c
  | _ => true
theorem wordAt_head {c : UInt8} {r : Bytes} (h : isLetter c = true) : ∃ r', wordAt (c :: r) = c :: r' := by
  by_cases hd : dwAt (c :: r) ∈ DIGITWORDS
  · rw [wordAt_digit hd]
    unfold dwAt
    have ht : tl1 c = true := by unfold tl1 isTail; rw [h]; rfl
    rw [List.takeWhile_cons, if_pos ht, List.take_succ_cons]
    exact ⟨_, rfl⟩
  · rw [wordAt_plain hd h]
    have ht : isTail c = true := by unfold isTail; rw [h]; rfl
    rw [List.takeWhile_cons, if_pos ht]
    exact ⟨_, rfl⟩
theorem one_wf (b : Bytes) : wf (oneToken b).1 = true := by
  cases b with
  | nil => rfl
  | cons c r =>
    unfold oneToken
    dsimp only
    by_cases hl : isLetter c = true
    · rw [if_pos hl]
      obtain ⟨r', e⟩ := wordAt_head (r := r) hl
      show wf (.word (wordAt (c :: r))) = true
      rw [e]; exact hl
    · rw [if_neg hl]
      by_cases hd : isDigit c = true
      · rw [if_pos hd]; split <;> rfl
      · rw [if_neg hd]
        by_cases hs : SIGNS.contains c = true
        · rw [if_pos hs]; exact hs
        · rw [if_neg hs]; rfl
theorem tk_wf (b : Bytes) (p : Nat) : wf (tkOf b p) = true := one_wf _
end Wm
end
section
set_option linter.all false
namespace Wm
open LsWale
def SameT (e e' : Env) : Prop := e'.sizes = e.sizes ∧ e'.yarns = e.yarns ∧ e'.lets = e.lets ∧ e'.words = e.words ∧ e'.blocks = e.blocks
theorem SameT.refl (e : Env) : SameT e e := ⟨rfl, rfl, rfl, rfl, rfl⟩
theorem SameT.trans {a b c : Env} (h : SameT a b) (g : SameT b c) : SameT a c :=
  ⟨g.1.trans h.1, g.2.1.trans h.2.1, g.2.2.1.trans h.2.2.1, g.2.2.2.1.trans h.2.2.2.1, g.2.2.2.2.trans h.2.2.2.2⟩
def Ke {α : Type} (e : Env) (r : Except Fault (α × St)) : Prop := ∀ x s, r = .ok (x, s) → SameT e s.env
def KeS (e : Env) (r : Except Fault St) : Prop := ∀ s, r = .ok s → SameT e s.env
theorem ke_error {α : Type} {e : Env} {f : Fault} : Ke e (.error f : Except Fault (α × St)) := fun _ _ h => by cases h
theorem ke_ok {α : Type} {e : Env} {x : α} {s : St} (h : SameT e s.env) : Ke e (.ok (x, s)) := fun _ _ q => by cases q; exact h
theorem ke_wanted {α : Type} {e : Env} {s : St} : Ke e (wanted s : Except Fault (α × St)) := by
  obtain ⟨f, h⟩ := wanted_error (α := α × St) s
  rw [h]; exact ke_error
theorem Ke.bind {α β : Type} {e : Env} {r : Except Fault (α × St)} {f : α × St → Except Fault (β × St)} (h : ∀ x s, r = .ok (x, s) → Ke e (f (x, s))) : Ke e (r >>= f) := by
  cases r with
  | error e => exact ke_error
  | ok p => obtain ⟨x, s⟩ := p; exact h x s rfl
theorem KeS.bind {β : Type} {e : Env} {r : Except Fault St} {f : St → Except Fault (β × St)} (h : ∀ s, r = .ok s → Ke e (f s)) : Ke e (r >>= f) := by
  cases r with
  | error e => exact ke_error
  | ok s => exact h s rfl
theorem Ke.mono {α : Type} {e e' : Env} {r : Except Fault (α × St)} (h : Ke e' r) (g : SameT e e') : Ke e r := fun x s q => g.trans (h x s q)
theorem eatSign_ke {c : Char} {s : St} : KeS s.env (eatSign c s) := by
  intro t h
  unfold eatSign at h
  split at h
  · cases h; exact .refl _
  · obtain ⟨e, q⟩ := wanted_error (α := St) s; rw [q] at h; cases h
theorem eatWord_ke {c : String} {s : St} : KeS s.env (eatWord c s) := by
  intro t h
  unfold eatWord at h
  split at h
  · cases h; exact .refl _
  · obtain ⟨e, q⟩ := wanted_error (α := St) s; rw [q] at h; cases h
theorem eatOpen_ke {c : Char} {d : Nat} {s : St} : KeS s.env (eatOpen c d s) := by
  intro t h
  unfold eatOpen at h
  split at h
  · obtain ⟨e, q⟩ := wanted_error (α := St) s; rw [q] at h; cases h
  · split at h
    · cases h
    · cases h; exact .refl _
theorem any_ke {s : St} : Ke s.env (anyName s) := by
  unfold anyName
  split
  · split
    · exact ke_ok (.refl _)
    · exact ke_wanted
  · exact ke_wanted
theorem old_ke {l : List Bytes} {s : St} : Ke s.env (oldName l s) := by
  unfold oldName
  refine Ke.bind fun x t e => ?_
  have := any_ke x t e
  dsimp only
  split
  · exact ke_error
  · exact ke_ok this
theorem new_ke {k m : Nat} {s : St} {l : List Bytes} : Ke s.env (newName k m s l) := by
  unfold newName
  refine Ke.bind fun x t e => ?_
  have := any_ke x t e
  dsimp only
  split
  · exact ke_error
  · split
    · exact ke_error
    · exact ke_ok this
theorem mark_ke {s : St} : Ke s.env (markName s) := by
  unfold markName
  refine Ke.bind fun x t e => ?_
  have := any_ke x t e
  dsimp only
  split
  · exact ke_ok this
  · split
    · exact ke_error
    · exact ke_ok this
theorem hold_ke {s : St} : Ke s.env (holdName s) := by
  unfold holdName
  refine Ke.bind fun x t e => ?_
  have := any_ke x t e
  dsimp only
  split
  · exact ke_ok this
  · split
    · exact ke_error
    · exact ke_ok this
theorem sum_ke : ∀ (f : Nat) (lv : Level) (d : Nat) (s : St), Ke s.env (sumAt f lv d s)
  | 0, lv, d, s => by rw [sumAt]; exact ke_wanted
  | f + 1, .sum, d, s => by
    rw [sumAt]
    exact Ke.bind fun x t e => (sum_ke f _ d t).mono (sum_ke f .prod d s x t e)
  | f + 1, .prod, d, s => by
    rw [sumAt]
    exact Ke.bind fun x t e => (sum_ke f _ d t).mono (sum_ke f .fact d s x t e)
  | f + 1, .sumRest a, d, s => by
    rw [sumAt]
    split
    · exact Ke.bind fun x t e => (sum_ke f _ d t).mono (sum_ke f .prod d s.next x t e)
    · exact ke_ok (.refl _)
  | f + 1, .prodRest a, d, s => by
    rw [sumAt]
    split
    · exact Ke.bind fun x t e => (sum_ke f _ d t).mono (sum_ke f .fact d s.next x t e)
    · exact ke_ok (.refl _)
  | f + 1, .fact, d, s => by
    rw [sumAt]
    split
    · exact ke_ok (.refl _)
    · exact Ke.bind fun x t e => ke_ok (old_ke x t e)
    · refine KeS.bind fun t e => Ke.bind fun x u e1 => KeS.bind fun v e2 => ke_ok ?_
      exact ((eatOpen_ke t e).trans (sum_ke f .sum (d + 1) t x u e1)).trans (eatSign_ke v e2)
theorem sumS_ke (lv : Level) (d : Nat) (s : St) : Ke s.env (sumS lv d s) := sum_ke _ lv d s
theorem reach_ke (f d : Nat) (s : St) : Ke s.env (reachAt f d s) := by
  unfold reachAt
  split
  · split
    · exact ke_ok (.refl _)
    · split
      · exact Ke.bind fun x t e => ke_ok (sum_ke f .sum d s.next.next x t e)
      · exact KeS.bind fun t e => Ke.bind fun x u e2 => ke_ok ((eatWord_ke t e).trans (mark_ke x u e2))
  · split
    · exact Ke.bind fun x t e => ke_ok (sum_ke f .sum d s x t e)
    · exact ke_ok (.refl _)
theorem wide_ke {s : St} : Ke s.env (wideAt s) := by
  unfold wideAt
  split
  · split
    · exact ke_ok (.refl _)
    · exact ke_error
  · exact ke_wanted
theorem unit_ke (s : St) : Ke s.env (unitAt s) := by
  unfold unitAt
  split
  · split
    · exact ke_ok (.refl _)
    · split
      · exact Ke.bind fun n t e => KeS.bind fun u e1 => Ke.bind fun m v e2 => ke_ok (((show SameT s.env t.env from wide_ke (s := s.next) n t e).trans (eatSign_ke u e1)).trans (wide_ke m v e2))
      · split
        · exact Ke.bind fun x t e => ke_ok (show SameT s.env t.env from hold_ke (s := s.next) x t e)
        · exact Ke.bind fun x t e => ke_ok (old_ke x t e)
  · exact ke_wanted
theorem Ke.map {α β : Type} {e : Env} {r : Except Fault (α × St)} {f : α × St → β × St} (h : Ke e r) (hf : ∀ x s, (f (x, s)).2 = s) : Ke e (r.map f) := by
  intro y t q
  obtain ⟨⟨x, s⟩, e1, e2⟩ := map_ok q
  have := h x s e1
  have q := hf x s
  rw [e2] at q
  simp only at q
  rw [q]; exact this
theorem lone_ke {s : St} {g : Except Fault (Lone × St)} (h : loneAt s = some g) : Ke s.env g := by
  unfold loneAt at h
  split at h
  · cases h; exact (show Ke s.env (holdName s.next) from hold_ke).map fun _ _ => rfl
  · split at h
    · cases h; exact (show Ke s.env (oldName _ s.next) from old_ke).map fun _ _ => rfl
    · split at h
      · cases h; exact (show Ke s.env (markName s.next) from mark_ke).map fun _ _ => rfl
      · split at h
        · cases h; exact (show Ke s.env (markName s.next) from mark_ke).map fun _ _ => rfl
        · split at h
          · cases h; exact (show Ke s.env (markName s.next) from mark_ke).map fun _ _ => rfl
          · split at h
            · cases h; exact ke_ok (.refl _)
            · split at h
              · cases h; exact ke_ok (.refl _)
              · cases h
theorem item_ke {I : Nat → St → Except Fault (Items × St)} {R : Nat → St → Except Fault (Reach × St)} (hI : ∀ d s, Ke s.env (I d s)) (hR : ∀ d s, Ke s.env (R d s)) (d : Nat) (s : St) : Ke s.env (itemBy I R d s) := by
  unfold itemBy
  split
  · rename_i g h; exact (lone_ke h).map fun _ _ => rfl
  · split
    · exact KeS.bind fun t e => Ke.bind fun l u e1 => KeS.bind fun v e2 => Ke.bind fun r z e3 => ke_ok ((((eatOpen_ke t e).trans (hI _ t l u e1)).trans (eatSign_ke v e2)).trans (hR _ v r z e3))
    · exact Ke.bind fun u t e => Ke.bind fun r z e3 => ke_ok ((unit_ke s u t e).trans (hR _ t r z e3))
theorem items_ke : ∀ (f d : Nat) (s : St), Ke s.env (itemsAt f d s)
  | 0, d, s => by rw [itemsAt]; exact ke_wanted
  | f + 1, d, s => by
    rw [items_succ]
    refine Ke.bind fun x t e => ?_
    have h1 := item_ke (fun d s => items_ke f d s) (fun d s => reach_ke f d s) d s x t e
    dsimp only
    split
    · exact Ke.bind fun l u e1 => ke_ok (h1.trans (items_ke f d t.next l u e1))
    · exact ke_ok h1
theorem itemsS_ke (d : Nat) (s : St) : Ke s.env (itemsS d s) := items_ke _ d s
theorem stat_ke {S : Nat → St → Except Fault (Sum × St)} {I : Nat → St → Except Fault (Items × St)} {T : Nat → St → Except Fault (Stats × St)} (hS : ∀ d s, Ke s.env (S d s)) (hI : ∀ d s, Ke s.env (I d s)) (hT : ∀ d s, Ke s.env (T d s))
    {d : Nat} {s : St} {g : Except Fault ((Stats → Stats) × St)} (h : statBy S I T d s = some g) : Ke s.env g := by
  have rw_ : SameT s.env (rowAt s).env := by unfold rowAt; split <;> exact .refl _
  unfold statBy at h
  split at h
  · cases h
    refine Ke.bind fun x t e => KeS.bind fun u e2 => ke_ok ?_
    have h1 : SameT s.env t.env := hS d s.next x t e
    have h2 := eatSign_ke u e2
    dsimp only at h2
    split at h2
    · exact h1.trans h2
    · exact h1.trans h2
  · split at h
    · cases h
      exact Ke.bind fun x t e => KeS.bind fun u e2 => ke_ok ((rw_.trans (hI _ _ x t e)).trans (eatSign_ke u e2))
    · split at h
      · cases h
        exact Ke.bind fun x t e => KeS.bind fun u e2 => Ke.bind fun i v e3 => KeS.bind fun z e4 => ke_ok ((((show SameT s.env t.env from hS d s.next x t e).trans (eatOpen_ke u e2)).trans (hT _ _ i v e3)).trans (eatSign_ke z e4))
      · split at h
        · cases h
          refine Ke.bind fun x t e => ?_
          have h1 : SameT s.env t.env := old_ke (s := s.next) x t e
          dsimp only
          split
          · exact Ke.bind fun y u e2 => KeS.bind fun v e3 => ke_ok ((h1.trans (hS _ _ y u e2)).trans (eatSign_ke v e3))
          · exact KeS.bind fun v e3 => ke_ok (h1.trans (eatSign_ke v e3))
        · split at h
          · cases h
            exact KeS.bind fun v e3 => ke_ok (show SameT s.env v.env from eatSign_ke (s := s.next) v e3)
          · cases h
theorem stats_ke : ∀ (f d : Nat) (s : St), Ke s.env (statsAt f d s)
  | 0, d, s => by rw [statsAt]; exact ke_wanted
  | f + 1, d, s => by
    rw [stats_succ]
    unfold statsBy
    split
    · rename_i g h
      exact Ke.bind fun x t e => Ke.bind fun r u e2 => ke_ok ((stat_ke (fun d s => sum_ke f .sum d s) (fun d s => items_ke f d s) (fun d s => stats_ke f d s) h x t e).trans (stats_ke f d t r u e2))
    · exact ke_ok (.refl _)
theorem statsS_ke (d : Nat) (s : St) : Ke s.env (statsS d s) := stats_ke _ d s
theorem sums_ke : ∀ (f : Nat) (s : St), Ke s.env (sumsAt f s)
  | 0, s => by rw [sumsAt]; exact ke_wanted
  | f + 1, s => by
    rw [sumsAt]
    refine Ke.bind fun x t e => ?_
    have h1 := sum_ke f .sum 0 s x t e
    dsimp only
    split
    · exact Ke.bind fun l u e2 => ke_ok (h1.trans (sums_ke f t.next l u e2))
    · exact ke_ok h1
theorem sumsS_ke (s : St) : Ke s.env (sumsS s) := sums_ke _ s
end Wm
end
section
set_option Elab.async false
set_option linter.all false
set_option maxRecDepth 100000
set_option maxHeartbeats 4000000
namespace L2
open PySem PySem.Spec PyProof.Rows
open PySem.W (Looks)
section
variable {prog : Program} {w : World} {A : Around} {E : Value → Shared → Prop} {R : Result → Shared → Prop} {h : Heap} {g : Array GenState} {d : Drawn} {t : Nat} {os : OsState}
variable {nm q : Str} {C N : Addr} {bs bm : List Value} {hdct : Bool} {sn : List Str} {sub : List Value} {ab : Bool} {col : Option Bool} {dd : Option Addr} {k0 k1 k2 k3 k5 : Option Value}
theorem x_checkNew {M : Model} {rest : List Value} {Q : Unit → Shared → Prop} (hC : h.get? C = some (excClassObj nm q C N bs bm hdct sn sub ab col dd k0 k1 k2 k3 k5 "Exception.__new__"))
    (hB : bm.contains (.type "Exception") = true) (hq : Q () ⟨h, g, d, t, os⟩) : wpAny M A (checkBuiltinCall "Exception.__new__" ⟨.ref C :: rest, []⟩) Q E ⟨h, g, d, t, os⟩ := by
  have F := PySem.F.excBase_Exception
  have c1 : (Value.ref C :: bm).contains (.type "Exception") = true := by rw [List.contains_cons, hB, Bool.or_true]
  have hstar := F.noStar
  simp only [checkBuiltinCall, F.newKind, F.newSplit, F.newRow]
  repeat (first | refine wpAny_loadPart_at hC ?_ | (refine wpAny_isSubtype_exc hC ?_; rw [c1]) | refine wpAny_staticBase_exc hC ?_ | refine wpAny_madeBy_exc hC ?_ | simp only [bne_self_eq_false, Bool.false_eq_true, if_false] | wp_step)
  exact hq
theorem x_new {rest : List Value} (hC : h.get? C = some (excClassObj nm q C N bs bm hdct sn sub ab col dd k0 k1 k2 k3 k5 "Exception.__new__"))
    (hB : bm.contains (.type "Exception") = true) (hA : bm.contains (.type "AttributeError") = false) (hN : bm.contains (.type "NameError") = false) (hrest : rest.length ≤ sizeLine)
    (hq : R (.ok (.ret (.ref (h.objs.size + 1)))) ⟨(h.push { cls := .type "tuple", data := .seq rest.toArray }).push
      { cls := .ref C, data := .fields #[.ref h.objs.size, .none, .none, .none, .bool false, .none] }, g, d, t, os⟩) :
    codeAny (model prog w) A (.builtin "Exception.__new__" ⟨.ref C :: rest, []⟩) R ⟨h, g, d, t, os⟩ := by
  have F := PySem.F.excBase_Exception
  have hends := F.ends
  have c1 : (Value.ref C :: bm).contains (.type "Exception") = true := by rw [List.contains_cons, hB, Bool.or_true]
  have c2 : (Value.ref C :: bm).contains (.type "AttributeError") = false := by rw [List.contains_cons, hA]; rfl
  have c3 : (Value.ref C :: bm).contains (.type "NameError") = false := by rw [List.contains_cons, hN]; rfl
  refine codeAny_builtinAt F.entry ?_
  unfold Builtin.«BaseException.__new__»; refine PySem.wpAt_bind ?_
  show PySem.wpAt _ _ _ (stack >>= _) _ _ _
  refine PySem.wpAt_bind (PySem.wpAt_stack fun p below => PySem.wpAt_of_wpAny ?_); wp_walk
  refine PySem.wpAt_of_wpAny ?_; rw [F.owner]
  repeat (first | with_reducible refine wpAny_madeHere_exc F.canon hC ?_ | with_reducible refine wpAny_loadPart_at hC ?_ | (with_reducible refine wpAny_isSubtype_exc hC ?_; first | rw [c1] | rw [c2] | rw [c3]) | wp_step)
  show R _ _
  rw [Heap.size_push]; exact hq
theorem x_typeCall {rest : List Value} {fI : Addr} {Q : Fin → Shared → Prop} (hC : h.get? C = some (excClassObj nm q C N bs bm hdct sn sub ab col dd k0 k1 k2 k3 k5 "Exception.__new__"))
    (hB : bm.contains (.type "Exception") = true) (hA : bm.contains (.type "AttributeError") = false) (hN : bm.contains (.type "NameError") = false) (hrest : rest.length ≤ sizeLine)
    (hi : Looks (model prog w) h (typeLookup (.ref C) "__init__") (some (.ref fI))) (hb : ∀ self, Looks (model prog w) h (bindSpecial (.ref fI) self) (.ref fI, [self]))
    (hq : ∀ h' e, Heap.MadeExcOf h h' e (.ref C) rest → h.objs.size ≤ e →
      wpAny (model prog w) A (call (.ref fI) (.ref e :: rest)) (fun r s' => r = .none ∧ Q (.done (.ret (.ref e))) s') E ⟨h', g, d, t, os⟩) :
    wpAny (model prog w) A (Builtin.«type.__call__» ⟨.ref C :: rest, []⟩) Q E ⟨h, g, d, t, os⟩ := by
  have F := PySem.F.excBase_Exception
  repeat (first | with_reducible refine wpAny_loadPart_at hC ?_ | with_reducible refine wpAny_madeBy_exc hC ?_ | wp_step)
  refine codeAny_call_builtin_code (Code.quiet_builtin _ F.quiet) (x_checkNew hC hB ?_)
  refine x_new hC hB hA hN hrest ?_
  show wpAny _ _ _ _ _ _
  have kp : ∀ b o, h.get? b = some o → ((h.push { cls := .type "tuple", data := .seq rest.toArray }).push { cls := .ref C, data := .fields #[.ref h.objs.size, .none, .none, .none, .bool false, .none] }).get? b = some o :=
    fun b o e => Heap.get?_push_of_some _ (Heap.get?_push_of_some _ e)
  have hC1 := kp _ _ hC
  have hi1 := hi.keeps kp
  have hb1 := fun self => (hb self).keeps kp
  have hget : ((h.push { cls := .type "tuple", data := .seq rest.toArray }).push { cls := .ref C, data := .fields #[.ref h.objs.size, .none, .none, .none, .bool false, .none] }).get? (h.objs.size + 1) =
      some { cls := .ref C, data := .fields #[.ref h.objs.size, .none, .none, .none, .bool false, .none] } := by heap_get
  have cC : (Value.ref C :: bm).contains (.ref C) = true := by simp
  unfold isInstance
  repeat (first | with_reducible refine wpAny_loadPart_at hget ?_ | (with_reducible refine wpAny_isSubtype_exc hC1 ?_; rw [cC]) | wp_step)
  show wpAny _ _ (typeLookup (.ref C) _) _ _ _
  refine hi1.at ?_
  refine wpAny_holding (wpAny_bind ((hb1 _).at ?_))
  refine wpAny_bind (wpAny_mono (hq _ (h.objs.size + 1) ⟨kp, Heap.get?_none_of_le (Nat.le_succ _), h.objs.size, hget, Heap.get?_none_of_le (Nat.le_refl _), ?_⟩ (Nat.le_succ _)) (fun r s' hr => ?_) fun _ _ x => x)
  · exact Heap.get?_push_of_some _ (Heap.get?_push_at rfl rfl)
  · obtain ⟨rfl, hQ⟩ := hr
    wp_walk
    exact hQ
theorem x_call {rest : List Value} {fI : Addr} {Q : Value → Shared → Prop} (hC : h.get? C = some (excClassObj nm q C N bs bm hdct sn sub ab col dd k0 k1 k2 k3 k5 "Exception.__new__"))
    (hB : bm.contains (.type "Exception") = true) (hA : bm.contains (.type "AttributeError") = false) (hN : bm.contains (.type "NameError") = false) (hrest : rest.length ≤ sizeLine)
    (hi : Looks (model prog w) h (typeLookup (.ref C) "__init__") (some (.ref fI))) (hb : ∀ self, Looks (model prog w) h (bindSpecial (.ref fI) self) (.ref fI, [self]))
    (hq : ∀ h' e, Heap.MadeExcOf h h' e (.ref C) rest → h.objs.size ≤ e →
      wpAny (model prog w) (A.under (.builtin "type.__call__" ⟨.ref C :: rest, []⟩)) (call (.ref fI) (.ref e :: rest)) (fun r s' => r = .none ∧ Q (.ref e) s') E ⟨h', g, d, t, os⟩) :
    wpAny (model prog w) A (call (.ref C) rest) Q E ⟨h, g, d, t, os⟩ := by
  have f1 := tc_lookup
  have f2 := tc_bind (.ref C)
  have hT : (⟨h, g, d, t, os⟩ : Shared).TypeIs (.ref C) "type" := ⟨_, hC, rfl⟩
  refine wpAny_call (codeAny_of_tree ?_)
  show wpAny _ _ (callAny (.ref C) _) _ _ _
  repeat (any_goals (first | assumption | with_reducible refine wpAny_loadPart_at hC ?_ | wp_step))
  exact ⟨rfl, codeAny_call_builtin_at (Code.quiet_builtin _ (by decide +kernel)) entry_typeCall (wpAny_check_type_call_sub hC (x_typeCall hC hB hA hN hrest hi hb fun h' e hm he => hq h' e hm he))⟩
end
end L2
end
section
set_option Elab.async false
set_option linter.all false
set_option maxRecDepth 100000
set_option maxHeartbeats 4000000
namespace L2
open PySem PySem.Spec PyProof.Rows
open PySem.W (Looks)
def Err (h : Heap) (e : Addr) (cls : Value) (dx : Option Addr) (tb : Value) : Prop := ∃ oe vs, h.get? e = some oe ∧ oe.cls = cls ∧ oe.dict = dx ∧ oe.data = .fields vs ∧ vs[1]? = some tb
def Rest (h : Heap) (T : Addr) : Prop := ∃ oT ts, h.get? T = some oT ∧ oT.data = .fields ts ∧ ts[3]? = some .none
structure Eff (fs ex : List Addr) (h h' : Heap) : Prop where
  keep : ∀ b o, h.get? b = some o → b ∉ ex → b ∉ fs → h'.get? b = some o
  slot : ∀ b o, h.get? b = some o → b ∉ ex → b ∈ fs → ∃ sl, h'.get? b = some { o with slots := sl }
  more : h.objs.size ≤ h'.objs.size
section
variable {M : Model} {A : Around} {E : Value → Shared → Prop} {s : Shared} {base : Heap} {env : Env} {outer : List Env} {L e : Addr} {Q : Unit → Shared → Prop}
theorem fly_end {oe : Obj} {vs : Array Value} {head : Value} {hadNext : Bool} (hfr : A.frames = some (env :: outer)) (hl : s.heap.FunFrames base (env :: outer)) (hf : env.frame = some L)
    (he : s.heap.get? e = some oe) (hd : oe.data = .fields vs) (hsz : 1 < vs.size)
    (hQ : ∀ h' T, Eff (frs (env :: outer)) [e] s.heap h' → s.heap.objs.size ≤ T → Err h' e oe.cls oe.dict (.ref T) → Rest h' T → T ≠ e → Q () { s with heap := h' }) :
    wpAny M A (do let a ← frameOf env; let pl ← entryPlaceOf L hadNext; let b ← EntryCells.newEntry head a .none (rawInt L) .none pl; setField (.ref e) 1 b) (fun _ s' => wpAny M A (setFlight (.ref e) none) Q E s') E s := by
  have enf : e ∉ frs (env :: outer) := fun hm => by
    obtain ⟨_, o, ho, hn⟩ := hl.mem hm
    rw [he] at ho; cases ho; exact hn vs hd
  refine wpAny_bind (wpAny_frameOf_fun hfr hl hf fun h1 z1 => wpAny_bind (wpAny_entryPlaceOf fun pl hpl => ?_))
  unfold EntryCells.newEntry newFields; refine wpAny_bind (wpAny_newObj_type ?_ (hpl.sizeOk5 _ _ _ _ _))
  have e1 : h1.get? e = some oe := (z1.2.1 e enf).trans he
  generalize ho : ({ cls := .type "traceback", dict := none, data := .fields ([head, .ref L, .none, rawInt L, .none] ++ (if pl.isEmpty then List.replicate 6 Value.none else pl)).toArray } : Obj) = ot
  have dt : ot.data = .fields ([head, .ref L, .none, rawInt L, .none] ++ (if pl.isEmpty then List.replicate 6 Value.none else pl)).toArray := by rw [← ho]
  have ft : ot.isFreed = false := by rw [← ho]; rfl
  clear ho
  have e2 : (h1.push ot).get? e = some oe := Heap.get?_push_of_some _ e1
  have t2 : (h1.push ot).get? h1.objs.size = some ot := Heap.get?_push_size h1 ft
  have ne : h1.objs.size ≠ e := Nat.ne_of_gt (Heap.lt_size e1)
  refine wpAny_setField e2 hd hsz ?_
  have d3 := Obj.data_mapFields hd (·.setIfInBounds 1 (Value.ref h1.objs.size))
  have e3 := Heap.get?_update_self (Obj.mapFields (·.setIfInBounds 1 (Value.ref h1.objs.size))) e2 (Obj.isFreed_of_fields d3)
  have t3 : ((h1.push ot).update e (Obj.mapFields (·.setIfInBounds 1 (Value.ref h1.objs.size)))).get? h1.objs.size = some ot := (Heap.get?_update_other _ _ (Ne.symm ne)).trans t2
  unfold setFlight
  refine wpAny_bind (wpAny_field e3 d3 (x := .ref h1.objs.size) (by simp [hsz]) ?_)
  rw [if_pos (show (Value.ref h1.objs.size != Value.none) = true from by simp)]
  have z3 : 3 < ([head, .ref L, .none, rawInt L, .none] ++ (if pl.isEmpty then List.replicate 6 Value.none else pl)).toArray.size := by
    simp only [List.size_toArray, List.length_append, List.length_cons, List.length_nil]; omega
  refine wpAny_setField t3 dt z3 ?_
  have d4 := Obj.data_mapFields dt (·.setIfInBounds 3 ((none : Option Addr).elim Value.none fun f => rawInt f))
  have t4 := Heap.get?_update_self (Obj.mapFields (·.setIfInBounds 3 ((none : Option Addr).elim Value.none fun f => rawInt f))) t3 (Obj.isFreed_of_fields d4)
  have kp : ∀ b o, b ≠ e → h1.get? b = some o → (((h1.push ot).update e (Obj.mapFields (·.setIfInBounds 1 (Value.ref h1.objs.size)))).update h1.objs.size
      (Obj.mapFields (·.setIfInBounds 3 ((none : Option Addr).elim Value.none fun f => rawInt f)))).get? b = some o := fun b o nb q => by
    rw [Heap.get?_update_other _ _ (Nat.ne_of_gt (Heap.lt_size q)), Heap.get?_update_other _ _ (Ne.symm nb)]
    exact Heap.get?_push_of_some _ q
  refine hQ _ h1.objs.size ⟨fun b o q nb nf => kp b o (fun z => nb (by rw [z]; exact List.Mem.head _)) ((z1.2.1 b nf).trans q), fun b o q nb nf => ?_, ?_⟩ (Nat.le_of_eq z1.1.symm) ?_ ?_ ne
  · obtain ⟨sl, hs⟩ := z1.2.2 b o q
    exact ⟨sl, kp b _ (fun z => nb (by rw [z]; exact List.Mem.head _)) hs⟩
  · rw [Heap.size_after_update, Heap.size_after_update, Heap.size_push, z1.1]
    exact Nat.le_succ _
  · refine ⟨_, _, (Heap.get?_update_other _ _ ne).trans e3, Obj.cls_mapFields _ _, ?_, d3, by simp [hsz]⟩
    obtain ⟨c0, dd0, dt0, sl0⟩ := oe
    cases dt0 <;> rfl
  · refine ⟨_, _, t4, d4, ?_⟩
    rw [Array.getElem?_setIfInBounds_self]
    rw [if_pos z3]
    rfl
theorem fly_first {cls : Value} {dx : Option Addr} (hfr : A.frames = some (env :: outer)) (hl : s.heap.FunFrames base (env :: outer)) (hf : env.frame = some L) (he : Err s.heap e cls dx .none)
    (hQ : ∀ h' T, Eff (frs (env :: outer)) [e] s.heap h' → s.heap.objs.size ≤ T → Err h' e cls dx (.ref T) → Rest h' T → T ≠ e → Q () { s with heap := h' }) :
    wpAny M A (noteFrame (.ref e) env) (fun _ s2 => wpAny M A (setFlight (.ref e) none) Q E s2) E s := by
  obtain ⟨oe, vs, h0, rfl, rfl, hd, h1⟩ := he
  unfold noteFrame
  simp only [hf]
  refine wpAny_bind (wpAny_field h0 hd h1 ?_)
  rw [if_neg (by decide)]
  exact fly_end hfr hl hf h0 hd (Array.getElem?_eq_some_iff.mp h1).1 hQ
theorem fly_next {cls : Value} {dx : Option Addr} {T0 : Addr} (hfr : A.frames = some (env :: outer)) (hl : s.heap.FunFrames base (env :: outer)) (hf : env.frame = some L) (he : Err s.heap e cls dx (.ref T0)) (hT : Rest s.heap T0) (hne : T0 ≠ e)
    (hQ : ∀ h' T, Eff (frs (env :: outer)) [e, T0] s.heap h' → s.heap.objs.size ≤ T → Err h' e cls dx (.ref T) → Rest h' T → T ≠ e → (∃ o, h'.get? T0 = some o) → Q () { s with heap := h' }) :
    wpAny M A (noteFrame (.ref e) env) (fun _ s2 => wpAny M A (setFlight (.ref e) none) Q E s2) E s := by
  obtain ⟨oe, vs, h0, rfl, rfl, hd, h1⟩ := he
  obtain ⟨oT, ts, t0, dT, t3⟩ := hT
  unfold noteFrame
  simp only [hf]
  refine wpAny_bind (wpAny_field h0 hd h1 ?_)
  rw [if_pos (show (Value.ref T0 != Value.none) = true from by simp)]
  refine wpAny_bind (wpAny_field t0 dT t3 ?_)
  rw [if_neg (show ¬ ((Value.none == rawInt L) = true) from by simp [rawInt])]
  refine wpAny_bind (wpAny_setField t0 dT (Array.getElem?_eq_some_iff.mp t3).1 ?_)
  have oth : ∀ b, b ≠ T0 → (s.heap.update T0 (Obj.mapFields (·.setIfInBounds 3 Value.none))).get? b = s.heap.get? b := fun b hb => Heap.get?_update_other _ _ (Ne.symm hb)
  have nrec : ∀ b o, s.heap.get? b = some o → (∀ us, o.data ≠ .fields us) → b ≠ T0 := fun b o q nf z => by
    rw [z, t0] at q; cases q; exact nf ts dT
  refine fly_end (s := { s with heap := s.heap.update T0 (Obj.mapFields (·.setIfInBounds 3 Value.none)) }) hfr (hl.of_keeps fun b o q nf => ⟨o, (oth b (nrec b o q nf)).trans q, rfl⟩) hf ((oth e (Ne.symm hne)).trans h0) hd
    (Array.getElem?_eq_some_iff.mp h1).1 fun h' T F a b c d => hQ h' T ⟨fun x o q nx nf => ?_, fun x o q nx nf => ?_, ?_⟩ ?_ b c d ?_
  · have n2 : x ≠ T0 := fun z => nx (by rw [z]; exact List.Mem.tail _ (List.Mem.head _))
    exact F.keep x o ((oth x n2).trans q) (fun z => nx (by rw [List.mem_singleton.mp z]; exact List.Mem.head _)) nf
  · have n2 : x ≠ T0 := fun z => nx (by rw [z]; exact List.Mem.tail _ (List.Mem.head _))
    exact F.slot x o ((oth x n2).trans q) (fun z => nx (by rw [List.mem_singleton.mp z]; exact List.Mem.head _)) nf
  · have := F.more
    rw [Heap.size_after_update] at this
    exact this
  · have := a
    rw [Heap.size_after_update] at this
    exact this
  · have q := Heap.get?_update_self (Obj.mapFields (·.setIfInBounds 3 Value.none)) t0 (Obj.isFreed_of_fields (Obj.data_mapFields dT _))
    refine ⟨_, F.keep T0 _ q (fun z => hne (List.mem_singleton.mp z)) fun z => ?_⟩
    obtain ⟨_, o, ho, hn⟩ := hl.mem z
    rw [t0] at ho; cases ho; exact hn ts dT
end
end L2
end
section
set_option Elab.async false
set_option linter.all false
set_option maxRecDepth 100000
set_option maxHeartbeats 4000000
namespace L2
open PySem PySem.Spec PyProof.Rows
open PySem.W (Looks)
def CXF (P : Program) (w : World) : CXT := fun outer H s E e s' => ∃ (ea : Addr) (cls : Value) (dx T : Addr) (H' : Hp), e = .ref ea ∧ s'.os = s.os ∧ AllBare s'.gens ∧ Un (frs outer) [] H H' s.heap s'.heap ∧ HOk P w H' s'.heap ∧
  Err s'.heap ea cls (some dx) (.ref T) ∧ Rest s'.heap T ∧ T ≠ ea ∧ s.heap.objs.size ≤ ea ∧ s.heap.objs.size ≤ T ∧ H' ea = none ∧ H' T = none ∧ E cls (some dx) H'
section
variable {X : Cx} {pins : List (Addr × Obj)} {σ : St} {H : Hp} {s : Shared}
theorem frs_cons {env : Env} {outer : List Env} {L : Addr} (hf : env.frame = some L) : frs (env :: outer) = L :: frs outer := by
  unfold frs; rw [List.filterMap_cons, hf]
theorem Inv.eff {ex : List Addr} {h' : Heap} {env : Env} {outer : List Env} (I : Inv X pins σ H s) (hs : X.stack = env :: outer) (ho : X.outer = outer) (hf : env.frame = some X.env.locals) (hx : X.ex = []) (F : Eff (frs (env :: outer)) ex s.heap h')
    (hz : ∀ b ∈ ex, X.s_0.heap.objs.size ≤ b ∧ H b = none) : Un (frs outer) [] X.H_0 H X.s_0.heap h' ∧ HOk X.prog X.w H h' := by
  have B := I.base
  rw [hx, show X.fs = frs outer by unfold Cx.fs; rw [ho]] at B
  have nex : ∀ b o, X.s_0.heap.get? b = some o → b ∉ ex := fun b o q z => Nat.lt_irrefl _ (Nat.lt_of_lt_of_le (Heap.lt_size q) (hz b z).1)
  have nl : ∀ b o, X.s_0.heap.get? b = some o → b ≠ X.env.locals := fun b o q z => by
    have := I.ok.above
    rw [← z] at this
    exact Nat.lt_irrefl _ (Nat.lt_of_lt_of_le (Heap.lt_size q) this)
  refine ⟨⟨fun b o q n nf _ => F.keep b o (B.keep b o q n nf (by simp)) (nex b o q) ?_, fun b o q n hm _ => ?_, fun b o q n _ => B.free b o q n (by simp), fun b o q _ => ?_, B.tups, B.frzs, B.tbls⟩, fun a o q => ?_⟩
  · rw [frs_cons hf]
    intro z
    rcases List.mem_cons.mp z with z | z
    · exact nl b o q z
    · exact nf z
  · obtain ⟨sl, e1⟩ := B.slot b o q n hm (by simp)
    obtain ⟨sl2, e2⟩ := F.slot b _ e1 (nex b o q) (by rw [frs_cons hf]; exact List.mem_cons_of_mem _ hm)
    exact ⟨sl2, e2⟩
  · obtain ⟨o', e1⟩ := B.there b o q (by simp)
    by_cases hm : b ∈ frs (env :: outer)
    · obtain ⟨sl2, e2⟩ := F.slot b _ e1 (nex b o q) hm
      exact ⟨_, e2⟩
    · exact ⟨_, F.keep b _ e1 (nex b o q) hm⟩
  · have nf : ∀ b u, H b = some u → b ∉ frs (env :: outer) := fun b u r z => by
      have := I.stkFree b (by rw [hs]; exact z)
      rw [r] at this; cases this
    have ne : ∀ b u, H b = some u → b ∉ ex := fun b u r z => by
      have := (hz b z).2
      rw [r] at this; cases this
    refine (I.hok a o q).stay (fun b u hb r => ?_) (fun b r => r) (fun b xs r => r)
    rcases hb with rfl | hb
    · exact F.keep b u r (ne _ _ q) (nf _ _ q)
    · exact F.keep b u r (ne _ _ hb) (nf _ _ hb)
def Raises (X : Cx) (E : XK) : Prop := ∀ (pins : List (Addr × Obj)) (σ : St) (H : Hp) (s : Shared) (ea : Addr) (cls : Value) (dx : Addr), Inv X pins σ H s → Err s.heap ea cls (some dx) .none → X.s_0.heap.objs.size ≤ ea → H ea = none → E cls (some dx) H → X.xe (.ref ea) s
end
section
variable {P : Program} {w : World} {K : PySem.W.Frag} {mg : Str → Option Value} {base : Heap} {N : List Str} {qual : Str} {scope : Scope} {f : Addr} {cd : Value} {A : Around} {outer : List Env} {s : Shared} {H : Hp} {E : XK}
theorem raises_def : Raises (cxOf (CXF P w) P w K mg base N qual scope f cd A outer s H E) E := by
  intro pins σ H1 s1 ea cls dx I he hz hn hE
  have hst := I.stack
  have hfr := I.ok.frames
  show wpAny _ _ (leaving _ (.ref ea)) _ _ _
  unfold leaving
  refine wpAny_bind (fly_first hfr hst rfl he fun h' T F a b c d => ?_)
  obtain ⟨u, ok⟩ := I.eff (ex := [ea]) rfl rfl rfl rfl F (fun b hb => by rw [List.mem_singleton.mp hb]; exact ⟨hz, hn⟩)
  exact ⟨ea, cls, dx, T, H1, rfl, I.os, I.bare, u, ok, b, c, d, hz, Nat.le_trans I.sz a, hn, I.hok.fresh a, hE⟩
theorem passes_def : Passes (CXF P w) (cxOf (CXF P w) P w K mg base N qual scope f cd A outer s H E) E := by
  intro pins σ H1 s1 e s2 I hx
  obtain ⟨ea, cls, dx, T, H', rfl, os, bare, un, ok, er, re, ne, z1, z2, n1, n2, hE⟩ := hx
  obtain ⟨hh, g, d, t, os'⟩ := s2
  obtain rfl : os' = s1.os := os
  have I2 := I.call (h' := hh) (g' := g) (d' := d) (t' := t) (ch := []) un ok bare (fun b z => absurd z (by simp))
  have hst := I2.stack
  have hfr := I2.ok.frames
  show wpAny _ _ (leaving _ (.ref ea)) _ _ _
  unfold leaving
  refine wpAny_bind (fly_next hfr hst rfl er re ne fun h' T' F a b c d _ => ?_)
  have s0 := I.sz
  obtain ⟨u, ok2⟩ := I2.eff (ex := [ea, T]) rfl rfl rfl rfl F (fun b hb => by
    rcases List.mem_cons.mp hb with rfl | hb
    · exact ⟨Nat.le_trans s0 z1, n1⟩
    · rw [List.mem_singleton.mp hb]; exact ⟨Nat.le_trans s0 z2, n2⟩)
  exact ⟨ea, cls, dx, T', H', rfl, I2.os, I2.bare, u, ok2, b, c, d, Nat.le_trans s0 z1, Nat.le_trans I2.sz a, n1, I2.hok.fresh a, hE⟩
theorem own_def : PassesOwn (model P w) (cxOf (CXF P w) P w K mg base N qual scope f cd A outer s H E).A (cxOf (CXF P w) P w K mg base N qual scope f cd A outer s H E).env (cxOf (CXF P w) P w K mg base N qual scope f cd A outer s H E).xe := PassesOwn.leaving
end
theorem Fun.okx {P : Program} {w : World} {K : PySem.W.Frag} {mg : Str → Option Value} {base : Heap} {x qual : Str} {st : Stmt} {f : Addr} {fd : FuncData} {N ps : List Str} {k : Nat} {sp : Sp} (F : Fun K x qual st f fd) (S : FnScope N ps (defScope st)) (len : ∀ vs H Q E, sp vs H Q E → vs.length = ps.length)
    (hbody : ∀ (cdv : Value) (A : Around) (outer : List Env) (s : Shared) (H : Hp) (vs : List V) (Q : VK) (E : XK), Room k (A.deeper (envOfC qual (defScope st) s.heap.objs.size f cdv)) → sp vs H Q E →
      ∃ t, PSs (cxOf (CXF P w) P w K mg base N qual (defScope st) f cdv A outer s H E) (defBody st) t ∧ t { nx := fun _ H' => Q .non H', rt := Q } (start N vs) H) : FnOk P w K mg base (CXF P w) (k + 1) f fd ps sp := by
  obtain ⟨oc, od, kV, doc, pm, an, cdv, ct, osl, rfl, lk, hcd⟩ := F.ex
  exact fn_of lk hcd S len fun A outer s H vs Q E hr hsp => hbody cdv A outer s H vs Q E hr hsp
end L2
end
section
set_option Elab.async false
set_option linter.all false
set_option maxRecDepth 100000
set_option maxHeartbeats 4000000
namespace L2
open PySem PySem.Spec PyProof.Rows
open PySem.W (Looks)
def excTail : List Value → Bool
  | [.type a, .type b, .type c] => a == "Exception" && b == "BaseException" && c == "object"
  | .ref _ :: r => excTail r
  | _ => false
theorem excTail_cases : ∀ {l : List Value}, excTail l = true → l = [.type "Exception", .type "BaseException", .type "object"] ∨ ∃ c r, l = .ref c :: r ∧ excTail r = true
  | [.type a, .type b, .type c], h => by
    simp only [excTail, Bool.and_eq_true, beq_iff_eq] at h
    obtain ⟨⟨rfl, rfl⟩, rfl⟩ := h
    exact .inl rfl
  | .ref c :: r, h => .inr ⟨c, r, rfl, by cases r <;> first | exact h | cases h⟩
theorem excTail_has {T : String} {b : Bool} (hb : ([.type "Exception", .type "BaseException", .type "object"] : List Value).contains (.type T) = b) : ∀ (l : List Value), excTail l = true → l.contains (.type T) = b
  | [], h => by cases h
  | v :: r, h => by
    rcases excTail_cases h with e | ⟨c, r', e, h'⟩
    · rw [e]; exact hb
    · cases e
      rw [List.contains_cons, excTail_has hb r h']
      rfl
theorem refuse_exc (self : Value) : ∀ (l : List Value), excTail l = true → refuseLoop self "__setattr__" l = pure ()
  | [], h => by cases h
  | v :: r, h => by
    rcases excTail_cases h with e | ⟨c, r', e, h'⟩
    · rw [e]; exact PySem.F.store_Exception.passes self
    · cases e
      rw [refuseLoop_ref]; exact refuse_exc self r h'
def xcIn (K : PySem.W.Frag) (C : Addr) : Bool := match K.lookup C with
  | some ⟨.type "type", _, .cls cd, sl⟩ => (match cd.mro, sl.toList with
    | .ref C' :: bm, [_, _, _, _, some (.builtin n), _] => C' == C && n == "Exception.__new__" && !cd.hasDel && cd.hasDict && excTail bm
    | _, _ => false)
  | _ => false
theorem xc_obj {K : PySem.W.Frag} {C : Addr} (e : xcIn K C = true) : ∃ nm q N bs bm sn sub ab col dd k0 k1 k2 k3 k5, K.lookup C = some (excClassObj nm q C N bs bm true sn sub ab col dd k0 k1 k2 k3 k5 "Exception.__new__") ∧ excTail bm = true := by
  unfold xcIn at e
  split at e
  · rename_i dd cd sl ho
    split at e
    · rename_i C' bm k0 k1 k2 k3 n k5 hm hs
      simp only [Bool.and_eq_true, beq_iff_eq, Bool.not_eq_true'] at e
      obtain ⟨⟨⟨⟨rfl, rfl⟩, h1⟩, h2⟩, h3⟩ := e
      obtain ⟨nm, bs, mro, ns, qn, hd, sn, sub, ab, col, del⟩ := cd
      dsimp only at hm h1 h2
      subst hm h1 h2
      obtain ⟨l⟩ := sl
      dsimp only at hs
      subst hs
      exact ⟨nm, qn, ns, bs, bm, sn, sub, ab, col, dd, k0, k1, k2, k3, k5, ho, h3⟩
    · cases e
  · cases e
structure XCls (K : PySem.W.Frag) (C fI : Addr) : Prop where
  is : xcIn K C = true
  init : PySem.W.findIn K (.ref C) "__init__" = some (some (.ref fI))
  fn : PySem.W.isFn K (.ref fI) = true
  kp : PySem.W.keepIn K (.ref C) = true
  sa : PySem.W.findIn K (.ref C) "__setattr__" = some (some (.builtin "object.__setattr__"))
def XObj (lo : Nat) (a C : Addr) (dx : Option Addr) : HO := .ext fun h => lo ≤ a ∧ ∃ t, h.get? a = some { cls := .ref C, dict := dx, data := .fields #[.ref t, .none, .none, .none, .bool false, .none] }
def XDic (a : Addr) (fs : List (Str × V)) : HO := .ext fun h => ∃ mA, h.Ns1 a mA ∧ (∀ f, RelO (fs.lookup f) (mA f)) ∧ PySem.Within mA (fs.map (·.1))
section
variable {P : Program} {w : World} {H : Hp} {h : Heap} {a C : Addr} {dx : Option Addr} {fs : List (Str × V)}
theorem xobj_ok {lo : Nat} {t : Addr} (z : lo ≤ a) (e : h.get? a = some { cls := .ref C, dict := dx, data := .fields #[.ref t, .none, .none, .none, .bool false, .none] }) : ObjOk P w H h a (XObj lo a C dx) :=
  ⟨⟨z, t, e⟩, ⟨_, e⟩, fun _ _ ⟨z, t, q⟩ k => ⟨z, t, k _ q⟩⟩
theorem xdic_ok {mA : Str → Option Value} (e : h.Ns1 a mA) (r : ∀ f, RelO (fs.lookup f) (mA f)) (z : PySem.Within mA (fs.map (·.1))) : ObjOk P w H h a (XDic a fs) :=
  ⟨⟨mA, e, r, z⟩, (by obtain ⟨o, _, _, q, _⟩ := e; exact ⟨o, q⟩), fun _ _ ⟨m, q, r⟩ k => ⟨m, q.at k, r⟩⟩
theorem xobj_of {lo : Nat} (ok : HOk P w H h) (e : H a = some (XObj lo a C dx)) : lo ≤ a ∧ ∃ t, h.get? a = some { cls := .ref C, dict := dx, data := .fields #[.ref t, .none, .none, .none, .bool false, .none] } := (ok a _ e).1
theorem xdic_of (ok : HOk P w H h) (e : H a = some (XDic a fs)) : ∃ mA, h.Ns1 a mA ∧ (∀ f, RelO (fs.lookup f) (mA f)) ∧ PySem.Within mA (fs.map (·.1)) := (ok a _ e).1
end
section
variable {prog : Program} {w : World} {A : Around} {E : Value → Shared → Prop} {s : Shared} {K : PySem.W.Frag} {x C : Addr} {f : Str} {v : Value}
theorem xsa_open {ox : Obj} {od : Option Obj} {R : Result → Shared → Prop} {tk : Tok} (X : K.In s.heap) (J : PySem.W.InstAt s.heap x ox C od) (hc : xcIn K C = true) (hn : PySem.W.findIn K (.ref C) f = some none)
    (h : wpAny (model prog w) A.in1 (Builtin.ObjectAttr.storeInOwnDict (.ref x) (.ref C) (.str f tk) f v false)
      (fun fin s' => match fin with | .done z => R (.ok z) s' | .again c' => c'.quiet = true ∧ codeAny (model prog w) A c' R s') (fun e s' => R (.error e) s') s) :
    codeAny (model prog w) A (.call (.builtin "object.__setattr__") ⟨[.ref x, .str f tk, v], []⟩) R s := by
  obtain ⟨nm, q, N, bs, bm, sn, sub, ab, col, dd, k0, k1, k2, k3, k5, ho, ht⟩ := xc_obj hc
  have SF := PySem.F.store_object
  have hcl : PySem.W.clsIn K C = some { name := nm, bases := bs, mro := .ref C :: bm, ns := N, qualname := q, hasDict := true, slotNames := sn, subclasses := sub, abstract := ab, collection := col, hasDel := false } := by
    unfold PySem.W.clsIn; rw [ho]
  have hob : (Value.ref C :: bm).contains (.type "object") = true := by rw [List.contains_cons, excTail_has (b := true) (by decide +kernel) bm ht]; rfl
  have sb : Looks (model prog w) s.heap (isInstance (.ref x) (.type "object")) true := J.type.andThen (PySem.W.looks_mroIn X (by unfold PySem.W.mroIn; rw [hcl, Option.bind_some, if_neg (by simp), hob]))
  refine codeAny_call_builtin SF.slot.plain SF.entry (@PySem.W.check_slot (model prog w) _ _ s "object.__setattr__" "object" "__setattr__" (.ref x) [.str f tk, v] [] _ SF.kind SF.split sb (SF.args (.ref x) (.str f tk) v) ?_)
  have hm : Looks (model prog w) s.heap (mroOf (.ref C)) (.ref C :: bm) := (PySem.W.looks_clsIn X hcl).andThen .now
  rw [PySem.W.osa_eq, refuse_eq]; refine wpAny_bind (wpAny_bind (J.type.here (wpAny_bind (hm.here ?_))))
  rw [refuseLoop_ref, refuse_exc _ bm ht]; refine wpAny_pure (wpAny_bind (J.type.here (wpAny_bind ((PySem.W.looks_findIn X hn).here ?_))))
  refine wpAny_bind (Looks.here (r := none) .now ?_)
  exact h
end
section
variable {X : Cx} {pins : List (Addr × Obj)} {σ : St} {H : Hp} {s : Shared} {A : Around} {E : Value → Shared → Prop} {a C fI : Addr} {f : Str} {y : V} {u : Value} {Q : Unit → Shared → Prop}
theorem within_nil {mA : Str → Option Value} (h : ∀ n, mA n = none) : PySem.Within mA [] := fun n hn => absurd (h n) hn
theorem xset_first {lo : Nat} (I : Inv X pins σ H s) (e : H a = some (XObj lo a C none)) (c : XCls X.K C fI) (n : NoAttr X.K C f) (ry : RelV y u)
    (h : ∀ (s' : Shared) (dx : Addr), H dx = none → dx ≠ a → Inv X pins σ (upd (upd H dx (XDic dx [(f, y)])) a (XObj lo a C (some dx))) s' → Q () s') : wpAny (model X.prog X.w) A (setAttr (.ref a) f u) Q E s := by
  obtain ⟨zl, t, hx⟩ := xobj_of I.hok e
  have J : PySem.W.InstAt s.heap a _ C none := ⟨hx, rfl, rfl, trivial⟩
  refine PySem.W.set_plain I.kIn J c.sa (xsa_open (s := { s with toks := s.toks + 1 }) I.kIn J c.is n ?_)
  have xs : a ≠ s.heap.objs.size := Nat.ne_of_lt (Heap.lt_size hx)
  have hn0 : H s.heap.objs.size = none := I.hok.fresh (Nat.le_refl _)
  have hx1 : (s.heap.push PySem.W.emptyDict).get? a = some { cls := .ref C, dict := none, data := .fields #[.ref t, .none, .none, .none, .bool false, .none] } := Heap.get?_push_of_some _ hx
  refine wpAny_bind (wpAny_pure (wpAny_bind ?_))
  obtain ⟨nm, q, N, bs, bm, sn, sub, ab, col, dd, k0, k1, k2, k3, k5, ho, ht⟩ := xc_obj c.is
  have hcl : PySem.W.clsIn X.K C = some { name := nm, bases := bs, mro := .ref C :: bm, ns := N, qualname := q, hasDict := true, slotNames := sn, subclasses := sub, abstract := ab, collection := col, hasDel := false } := by
    unfold PySem.W.clsIn; rw [ho]
  refine wpAny_bind (wpAny_loadPart (s := { s with toks := s.toks + 1 }) hx (wpAny_bind (Looks.here (s := { s with toks := s.toks + 1 }) (PySem.W.looks_clsIn I.kIn hcl) ?_)))
  refine wpAny_bind (wpAny_alloc (wpAny_bind (wpAny_update hx1 ?_)))
  have hgd : ((s.heap.push PySem.W.emptyDict).update a fun o => { o with dict := some s.heap.objs.size }).get? s.heap.objs.size = some PySem.W.emptyDict := (Heap.get?_update_ne _ _ _ _ xs.symm).trans (Heap.get?_push_at rfl rfl)
  have hnd : ((s.heap.push PySem.W.emptyDict).update a fun o => { o with dict := some s.heap.objs.size }).Ns s.heap.objs.size (fun _ => none) := ⟨_, #[], _, hgd, rfl, fun e he => absurd he (by simp), fun _ => rfl⟩
  have hxa : ((s.heap.push PySem.W.emptyDict).update a fun o => { o with dict := some s.heap.objs.size }).get? a = some { cls := .ref C, dict := some s.heap.objs.size, data := .fields #[.ref t, .none, .none, .none, .bool false, .none] } :=
    Heap.get?_update_self _ hx1 rfl
  refine wpAny_pure (a := some s.heap.objs.size) ?_
  show wpAny _ _ (Builtin.ObjectAttr.storeInDict s.heap.objs.size (.str f s.toks) f u) _ _ _
  unfold Builtin.ObjectAttr.storeInDict Builtin.ObjectAttr.newKeyGuard
  refine wpAny_bind (wpAny_pure (wpAny_bind (wpAny_nsSet1 (Heap.Ns1.of_empty hnd) fun h' hn' hs => ?_)))
  obtain ⟨oD, esD, epD, hoD, hdD, hcD⟩ := hn'.count (PySem.Within.cons f u (within_nil fun _ => rfl))
  refine wpAny_bind (wpAny_lookBehind hoD (by rw [hdD]; exact pastItsLine_dict (Nat.le_trans hcD (by rw [List.length_cons, List.length_nil, sizeLine_eq]; omega))) ?_)
  have I1 := I.laid (a := s.heap.objs.size) (o := XDic s.heap.objs.size []) (h' := s.heap.push PySem.W.emptyDict) (t' := s.toks) (fun b u q => Heap.get?_push_of_some _ q) (Nat.le_refl _)
    (xdic_ok (mA := fun _ => none) (Heap.Ns1.of_empty ⟨_, #[], _, Heap.get?_push_size s.heap rfl, rfl, fun e he => absurd he (by simp), fun _ => rfl⟩) (fun _ => trivial) (within_nil fun _ => rfl))
  have m1 : upd H s.heap.objs.size (XDic s.heap.objs.size []) a = some (XObj lo a C none) := by rw [upd_ne xs]; exact e
  have I2 := I1.write (x := a) (e := a) (o := XObj lo a C (some s.heap.objs.size)) (h' := (s.heap.push PySem.W.emptyDict).update a fun o => { o with dict := some s.heap.objs.size }) (t' := s.toks)
    (by rw [m1]; exact True.intro) (.inl rfl) (fun b u nb q => (Heap.get?_update_other _ _ (Ne.symm nb)).trans q) ⟨_, hxa⟩ (xobj_ok zl hxa)
  have m2 : upd (upd H s.heap.objs.size (XDic s.heap.objs.size [])) a (XObj lo a C (some s.heap.objs.size)) s.heap.objs.size = some (XDic s.heap.objs.size []) := by rw [upd_ne (Ne.symm xs), upd_same]
  have I3 := I2.write (x := s.heap.objs.size) (e := s.heap.objs.size) (o := XDic s.heap.objs.size [(f, y)]) (h' := h') (t' := s.toks + 1 + 1)
    (by rw [m2]; exact True.intro) (.inl rfl) (fun b u nb q => (hs.2 b nb).trans q) (by obtain ⟨o, _, _, q, _⟩ := hn'; exact ⟨o, q⟩)
    (xdic_ok hn' (fun g => by
      show RelO (List.lookup g [(f, y)]) (if g = f then some u else none)
      by_cases q : g = f
      · rw [if_pos q, q]
        simp only [List.lookup, beq_self_eq_true]
        exact ry
      · rw [if_neg q]
        have : (g == f) = false := beq_eq_false_iff_ne.mpr q
        simp only [List.lookup, this]
        trivial) (PySem.Within.cons f u (within_nil fun _ => rfl)))
  have e3 : upd (upd (upd H s.heap.objs.size (XDic s.heap.objs.size [])) a (XObj lo a C (some s.heap.objs.size))) s.heap.objs.size (XDic s.heap.objs.size [(f, y)]) =
      upd (upd H s.heap.objs.size (XDic s.heap.objs.size [(f, y)])) a (XObj lo a C (some s.heap.objs.size)) := by
    funext b
    by_cases q1 : b = s.heap.objs.size
    · rw [q1, upd_same, upd_ne (Ne.symm xs), upd_same]
    · rw [upd_ne q1]
      by_cases q2 : b = a
      · rw [q2, upd_same, upd_same]
      · rw [upd_ne q2, upd_ne q2, upd_ne q1, upd_ne q1]
  rw [e3] at I3
  exact wpAny_pure (h _ s.heap.objs.size hn0 (Ne.symm xs) I3)
theorem xset_next {lo : Nat} {dx : Addr} {fs : List (Str × V)} (I : Inv X pins σ H s) (e : H a = some (XObj lo a C (some dx))) (ed : H dx = some (XDic dx fs)) (hne : dx ≠ a) (c : XCls X.K C fI) (n : NoAttr X.K C f) (hl : fs.length < 1000) (ry : RelV y u)
    (h : ∀ (s' : Shared), Inv X pins σ (upd H dx (XDic dx (putF f y fs))) s' → Q () s') : wpAny (model X.prog X.w) A (setAttr (.ref a) f u) Q E s := by
  obtain ⟨zl, t, hx⟩ := xobj_of I.hok e
  obtain ⟨mA, hn, r, wi⟩ := xdic_of I.hok ed
  obtain ⟨od, es, ep, hod, _⟩ := id hn
  have J : PySem.W.InstAt s.heap a _ C (some od) := ⟨hx, rfl, rfl, hod⟩
  refine PySem.W.set_plain I.kIn J c.sa (xsa_open (s := { s with toks := s.toks + 1 }) I.kIn J c.is n ?_)
  refine wpAny_bind (wpAny_pure (wpAny_bind ?_))
  obtain ⟨nm, q, N, bs, bm, sn, sub, ab, col, dd, k0, k1, k2, k3, k5, ho, ht⟩ := xc_obj c.is
  have hcl : PySem.W.clsIn X.K C = some { name := nm, bases := bs, mro := .ref C :: bm, ns := N, qualname := q, hasDict := true, slotNames := sn, subclasses := sub, abstract := ab, collection := col, hasDel := false } := by
    unfold PySem.W.clsIn; rw [ho]
  refine wpAny_bind (wpAny_loadPart (s := { s with toks := s.toks + 1 }) hx (wpAny_bind (Looks.here (s := { s with toks := s.toks + 1 }) (PySem.W.looks_clsIn I.kIn hcl) ?_)))
  refine wpAny_pure (a := some dx) ?_
  show wpAny _ _ (Builtin.ObjectAttr.storeInDict dx (.str f s.toks) f u) _ _ _
  unfold Builtin.ObjectAttr.storeInDict Builtin.ObjectAttr.newKeyGuard
  refine wpAny_bind (wpAny_pure (wpAny_bind (wpAny_nsSet1 (s := { s with toks := s.toks + 1 }) hn fun h' hn' hs => ?_)))
  obtain ⟨oD, esD, epD, hoD, hdD, hcD⟩ := hn'.count (PySem.Within.cons f u wi)
  refine wpAny_bind (wpAny_lookBehind hoD (by rw [hdD]; exact pastItsLine_dict (Nat.le_trans hcD (by rw [List.length_cons, List.length_map, sizeLine_eq]; omega))) ?_)
  refine wpAny_pure (h _ ?_)
  refine I.write (x := dx) (e := dx) (by rw [ed]; exact True.intro) (.inl rfl) (fun b u nb q => (hs.2 b nb).trans q) (by obtain ⟨o, _, _, q, _⟩ := hn'; exact ⟨o, q⟩) (xdic_ok hn' (fun g => ?_) fun g hg => ?_)
  · show RelO ((putF f y fs).lookup g) (if g = f then some u else mA g)
    rw [lookup_putF]
    by_cases q : g = f
    · rw [if_pos q, if_pos q]; exact ry
    · rw [if_neg q, if_neg q]; exact r g
  · by_cases q : g = f
    · rw [q]; exact (keys_putF f y fs).1
    · refine (keys_putF f y fs).2 g (wi g fun z => hg ?_)
      show (if g = f then some u else mA g) = none
      rw [if_neg q]; exact z
end
end L2
end
section
set_option Elab.async false
set_option linter.all false
set_option maxRecDepth 100000
set_option maxHeartbeats 4000000
namespace L2
open PySem PySem.Spec PyProof.Rows
open PySem.W (Looks)
section
variable {X : Cx} {o value : Expr} {f : Str} {pos pos' : Pos} {ta tv : TE}
def sXfst (K : PySem.W.Frag) (ta tv : TE) (f : Str) : TS := fun D σ H => tv σ H fun y H1 => ta σ H1 fun x H2 => ∃ lo a C fI, x = .ref a ∧ H2 a = some (XObj lo a C none) ∧ XCls K C fI ∧ NoAttr K C f ∧
  ∀ dx, H2 dx = none → dx ≠ a → D.nx σ (upd (upd H2 dx (XDic dx [(f, y)])) a (XObj lo a C (some dx)))
theorem ps_xfst (ha : PE X o ta) (hv : PE X value tv) (hs : swapsWith value (some (.Attribute o f pos')) pos.line X.env = pure false) : PS X (.Assign [.Attribute o f pos'] value pos) (sXfst X.K ta tv f) := by
  intro pins s σ H D I h
  refine plainObj_wpAny_Assign_Attribute (thn (hv pins s σ H _ I h) fun u s1 ⟨y, H1, I1, ry, q⟩ => thn (ha pins s1 σ H1 _ I1 q) fun ov s2 ⟨x, H2, I2, rx, lo, a, C, fI, ex, ea, c, n, q2⟩ => ?_) hs
  subst ex
  obtain rfl : ov = Value.ref a := rx
  exact xset_first I2 ea c n ry fun s3 dx hn ne I3 => ⟨σ, _, I3, q2 dx hn ne⟩
def sXnxt (K : PySem.W.Frag) (ta tv : TE) (f : Str) : TS := fun D σ H => tv σ H fun y H1 => ta σ H1 fun x H2 => ∃ lo a C fI dx fs, x = .ref a ∧ H2 a = some (XObj lo a C (some dx)) ∧ H2 dx = some (XDic dx fs) ∧ dx ≠ a ∧ XCls K C fI ∧ NoAttr K C f ∧
  fs.length < 1000 ∧ D.nx σ (upd H2 dx (XDic dx (putF f y fs)))
theorem ps_xnxt (ha : PE X o ta) (hv : PE X value tv) (hs : swapsWith value (some (.Attribute o f pos')) pos.line X.env = pure false) : PS X (.Assign [.Attribute o f pos'] value pos) (sXnxt X.K ta tv f) := by
  intro pins s σ H D I h
  refine plainObj_wpAny_Assign_Attribute (thn (hv pins s σ H _ I h) fun u s1 ⟨y, H1, I1, ry, q⟩ => thn (ha pins s1 σ H1 _ I1 q) fun ov s2 ⟨x, H2, I2, rx, lo, a, C, fI, dx, fs, ex, ea, ed, ne, c, n, l, q2⟩ => ?_) hs
  subst ex
  obtain rfl : ov = Value.ref a := rx
  exact xset_next I2 ea ed ne c n l ry fun s3 I3 => ⟨σ, _, I3, q2⟩
end
structure ClsFn (K : PySem.W.Frag) (C : Addr) (m : Str) (f : Addr) : Prop where
  rd : PySem.W.readsIn K C (.type "type") = true
  sp : PySem.W.specialIn K (.ref C) "__getattribute__" = some (some (.builtin "type.__getattribute__"))
  at_ : PySem.W.findCls K (.ref C) (.type "type") m = some (.val (.ref f))
  kp : PySem.W.keepIn K (.ref f) = true
section
variable {X : Cx} {CX : CXT} {k : Nat} {f C : Addr} {fd : FuncData} {ps : List Str} {sp : Sp} {dvs : List V} {ds : List Value} {E : XK} {x m : Str} {p pos apos : Pos} {e : Expr} {es : List Expr} {t : TA}
theorem pe_clsm {pl : Sem Bool} (hg : Gl X x) (hm : X.mg x = some (.ref C)) (c : ClsFn X.K C m f) (F : FnOk X.prog X.w X.K X.mg X.base CX k f fd ps sp) (hr : Room k X.A) (hb : Binds X.K fd ps ds) (hd : Vals dvs ds) (hx : Passes CX X E) (ha : PA X (e :: es) t)
    (hdb : (x == ("__debug__" : Str)) = false := by decide) (hst : starEach (e :: es) X.env = (false, eval e X.env) :: starEach es X.env := by rfl) (hpl : (backTo pos (starEach es X.env)).any (·.1) = false := by rfl)
    (ht : eval (.Call (.Attribute (.Name x p) m apos) (e :: es) [] pos) X.env = (do
      let ov ← eval (.Name x p) X.env
      standAt apos.atName
      let (f, first) ← holding [ov] (getMethod ov m pl)
      callWith pos f first (backTo pos (starEach (e :: es) X.env)) (backToKw pos (keywordEach [] X.env))) := by rfl) :
    PE X (.Call (.Attribute (.Name x p) m apos) (e :: es) [] pos) (tCall sp dvs E t) := by
  intro pins s σ H Q I h
  refine PySem.W.methodCall_KW (pl := pl) (ld_glob I hg hm ?_ hdb) ht
  refine PySem.W.method_cls I.kIn c.sp (PySem.W.cls_value I.kIn c.rd c.at_ rfl ?_)
  have I1 := I.tok (s.toks + 1)
  refine PySem.W.callWith_K (first := []) (h₀ := X.base) I.ok.mod.kin c.kp (thn (ha pos pins _ σ H _ I1 h) fun us s1 ⟨vs, H1, I2, r, q⟩ => ⟨I2.kIn, ?_⟩) hst hpl
  exact run_fn F hr hb hd hx I2 r q
end
def tXMake (lo : Nat) (C : Addr) (sp : Sp) (t : TA) : TE := fun σ H Q => t σ H fun vs H1 => vs.length ≤ sizeLine ∧ ∀ x, H1 x = none → sp (.ref x :: vs) (upd H1 x (XObj lo x C none)) (fun v H2 => v = .non ∧ Q (.ref x) H2) E0
section
variable {X : Cx} {k : Nat} {f C : Addr} {fd : FuncData} {ps : List Str} {sp : Sp} {x m : Str} {p pos apos : Pos} {e : Expr} {es : List Expr} {t : TA}
theorem run_xmake {pins : List (Addr × Obj)} {σ : St} {H : Hp} {s : Shared} {Q : VK} {us : List Value} {vs : List V} (M : XCls X.K C f) (F : FnOk X.prog X.w X.K X.mg X.base CX0 k f fd ps sp) (hr : Room (k + 1) X.A) (hb : Binds X.K fd ps [])
    (I : Inv X pins σ H s) (r : Vals vs us) (hl : vs.length ≤ sizeLine) (h : ∀ x, H x = none → sp (.ref x :: vs) (upd H x (XObj X.s_0.heap.objs.size x C none)) (fun v H2 => v = .non ∧ Q (.ref x) H2) E0) :
    wpAny (model X.prog X.w) X.A (call (.ref C) us) (EP X pins σ Q) X.xe s := by
  obtain ⟨nm, q, N, bs, bm, sn, sub, ab, col, dd, k0, k1, k2, k3, k5, ho, ht⟩ := xc_obj M.is
  obtain ⟨hh, g, d, tk, os⟩ := s
  refine x_call (I.kIn _ _ ho) (excTail_has (b := true) (by decide +kernel) bm ht) (excTail_has (b := false) (by decide +kernel) bm ht) (excTail_has (b := false) (by decide +kernel) bm ht) (by rw [← r.length]; exact hl)
    (PySem.W.looks_findIn I.kIn M.init) (fun self => PySem.W.bind_fn I.kIn self (beq_iff_eq.mp M.fn)) fun h' ea hm hz => ?_
  have hn : H ea = none := I.hok.fresh hz
  obtain ⟨tt, ht1, _, _⟩ := hm.there
  have I2 := I.laid (a := ea) (o := XObj X.s_0.heap.objs.size ea C none) (h' := h') (t' := tk) (fun b u q => hm.keeps b u q) hz (xobj_ok (Nat.le_trans I.sz hz) ht1)
  have hq := h ea hn
  have r2 : Vals (V.ref ea :: vs) (Value.ref ea :: us) := .cons rfl r
  have hlen : (Value.ref ea :: us ++ []).length = ps.length := by
    have e := r2.length
    rw [F.len _ _ _ _ hq] at e
    rw [List.append_nil]
    exact e.symm
  have bb := hb _ (Value.ref ea :: us) I2.kIn hlen
  rw [List.append_nil] at bb
  refine wpAny_call (codeAny_mono (F.run _ X.stack _ _ ⟨Value.ref ea :: us, []⟩ (Value.ref ea :: us) _ _ E0 (hr.make C us []) (I2.env0.make C us []) bb r2 hq) fun r s' hq' => ?_)
  cases r with
  | error e => exact False.elim hq'
  | ok fl =>
    cases fl with
    | ret u =>
      obtain ⟨v, H', I3, rv, ev, q3⟩ := I2.after hq'
      subst ev
      exact ⟨rv, ⟨V.ref ea, H', I3, rfl, q3⟩⟩
    | next => exact False.elim hq'
    | brk => exact False.elim hq'
    | cont => exact False.elim hq'
theorem pe_xmake (M : XCls X.K C f) (F : FnOk X.prog X.w X.K X.mg X.base CX0 k f fd ps sp) (hr : Room (k + 1) X.A) (hg : Gl X x) (hm : X.mg x = some (.ref C)) (hb : Binds X.K fd ps []) (ha : PA X (e :: es) t)
    (hdb : (x == ("__debug__" : Str)) = false := by decide) (he : starEach (e :: es) X.env = (false, eval e X.env) :: starEach es X.env := by rfl) (hpl : (backTo pos (starEach es X.env)).any (·.1) = false := by rfl) :
    PE X (.Call (.Name x p) (e :: es) [] pos) (tXMake X.s_0.heap.objs.size C sp t) := by
  intro pins s σ H Q I h
  refine wpAny_Call_Name_kw (ld_glob I hg hm ?_ hdb)
  refine PySem.W.callWith_K (h₀ := X.base) I.ok.mod.kin M.kp (thn (ha pos pins s σ H _ I h) fun us s1 ⟨vs, H1, I1, r, hl, q⟩ => ⟨I1.kIn, ?_⟩) he hpl
  exact run_xmake M F hr hb I1 r hl q
end
def drp (H : Hp) (a : Addr) : Hp := fun b => if b = a then none else H b
theorem drp_same {H : Hp} {a : Addr} : drp H a a = none := by unfold drp; rw [if_pos rfl]
theorem drp_ne {H : Hp} {a b : Addr} (h : b ≠ a) : drp H a b = H b := by unfold drp; rw [if_neg h]
theorem Inv.forget {lo : Nat} {X : Cx} {pins : List (Addr × Obj)} {σ : St} {H : Hp} {s : Shared} {a C : Addr} {dx : Option Addr} (I : Inv X pins σ H s) (e : H a = some (XObj lo a C dx)) : Inv X pins σ (drp H a) s := by
  have nn : ∀ b, H b = none → drp H a b = none := fun b h => by
    unfold drp; split
    · rfl
    · exact h
  have B := I.base
  have nx : ∀ b o, H b = some o → o ≠ XObj lo a C dx → b ≠ a := fun b o h hn z => by rw [z, e] at h; exact hn (Option.some.inj h).symm
  refine ⟨I.ok, I.os, I.bare, ⟨B.keep, B.slot, fun b o q n hx => nn b (B.free b o q n hx), B.there, fun b xs q => ?_, fun b o u q => ?_, fun b ps q => ?_⟩, I.loc, I.cell, nn _ I.free, fun x c q => nn _ (I.freeC x c q), fun p hp => ?_, fun b o q => ?_, I.len⟩
  · have h := B.tups b xs q
    rw [drp_ne (nx b _ h (by intro z; cases z))]; exact h
  · have h := B.frzs b o u q
    rw [drp_ne (nx b _ h (by intro z; cases z))]; exact h
  · obtain ⟨more, h⟩ := B.tbls b ps q
    exact ⟨more, by rw [drp_ne (nx b _ h (by intro z; cases z))]; exact h⟩
  · obtain ⟨p1, p2, p3, p4, p5⟩ := I.pin p hp
    exact ⟨p1, nn _ p2, p3, p4, p5⟩
  · have hb : b ≠ a := fun z => by rw [z, drp_same] at q; cases q
    rw [drp_ne hb] at q
    refine (I.hok b o q).stay (fun c v _ r => r) (fun c r => ?_) (fun c xs r => ?_)
    · rw [drp_ne (nx c _ r (by intro z; cases z))]; exact r
    · rw [drp_ne (nx c _ r (by intro z; cases z))]; exact r
section
variable {M : Model} {A : Around} {E : Value → Shared → Prop} {env : Env} {nm q : Str} {C N : Addr} {bs bm : List Value} {hdct : Bool} {sn : List Str} {sub : List Value} {ab : Bool} {col : Option Bool} {dd : Option Addr} {k0 k1 k2 k3 k5 : Option Value} {newId : String}
theorem x_raise {s : Shared} {x : Sem Value} {Q : Flow → Shared → Prop} (hbase : bm.contains (.type "BaseException") = true) (hh : A.handled = none)
    (h : wpAny M A x (fun v s1 => ∃ e t dx, v = .ref e ∧ s1.heap.get? C = some (excClassObj nm q C N bs bm hdct sn sub ab col dd k0 k1 k2 k3 k5 newId) ∧
      s1.heap.get? e = some { cls := .ref C, dict := some dx, data := .fields #[.ref t, .none, .none, .none, .bool false, .none] } ∧ E (.ref e) s1) E s) :
    wpAny M A (raiseStmt env (some x) none) Q E s := by
  have hcB : (Value.ref C :: bm).contains (.type "BaseException") = true := by rw [List.contains_cons, hbase, Bool.or_true]
  unfold raiseStmt
  refine wpAny_bind (wpAny_mono h (fun v s1 h1 => ?_) fun _ _ x => x)
  obtain ⟨e, t, dx, rfl, hC, he, hE⟩ := h1
  obtain ⟨hp, g, d, tk, os⟩ := s1
  repeat (first | with_reducible refine wpAny_loadPart_at he ?_ | with_reducible refine wpAny_loadPart_at hC ?_ | (with_reducible refine wpAny_isSubtype_exc hC ?_; rw [hcB]) | wp_step)
  exact wpAny_raiseNew_none hh hE
end
section
variable {X : Cx} {E : XK} {e : Expr} {te : TE} {pos : Pos}
def tRaise (lo : Nat) (K : PySem.W.Frag) (C : Addr) (E : XK) (te : TE) : TS := fun D σ H => te σ H fun x H1 => ∃ a fI dx, x = .ref a ∧ H1 a = some (XObj lo a C (some dx)) ∧ XCls K C fI ∧ E (.ref C) (some dx) (drp H1 a)
theorem ps_raise {C : Addr} (hc : X.calm = true) (hx : Raises X E) (he : PE X e te) (hk : xcIn X.K C = true) : PS X (.Raise (some e) none pos) (tRaise X.s_0.heap.objs.size X.K C E te) := by
  intro pins s σ H D I h
  obtain ⟨nm, q, N, bs, bm, sn, sub, ab, col, dd, k0, k1, k2, k3, k5, ho, ht⟩ := xc_obj hk
  rw [arm_exec_Raise]
  show wpAny _ _ (do standAt pos; raiseStmt X.env (some (do let v ← eval e X.env; standAt pos; pure v)) none) _ _ _
  refine wpAny_bind (wpAny_standAt (x_raise (C := C) (nm := nm) (q := q) (N := N) (bs := bs) (bm := bm) (hdct := true) (sn := sn) (sub := sub) (ab := ab) (col := col) (dd := dd) (k0 := k0) (k1 := k1) (k2 := k2) (k3 := k3) (k5 := k5) (newId := "Exception.__new__")
    (excTail_has (b := true) (by decide +kernel) bm ht) (I.ok.hd hc) (wpAny_bind (thn (he pins s σ H _ I h) fun u s1 ⟨x, H1, I1, rx, a, fI, dx, ex, ea, c, hE⟩ => wpAny_bind (wpAny_standAt (wpAny_pure ?_))))))
  subst ex
  obtain rfl : u = Value.ref a := rx
  obtain ⟨zl, t, hx1⟩ := xobj_of I1.hok ea
  refine ⟨a, t, dx, rfl, I1.kIn _ _ ho, hx1, ?_⟩
  refine hx pins σ (drp H1 a) s1 a (.ref C) dx (I1.forget ea) ⟨_, _, hx1, rfl, rfl, rfl, rfl⟩ zl drp_same hE
end
end L2
end
section
set_option Elab.async false
set_option linter.all false
set_option maxRecDepth 100000
set_option maxHeartbeats 4000000
namespace L2
open PySem PySem.Spec PyProof.Rows
open PySem.W (Looks)
structure XGet (K : PySem.W.Frag) (C : Addr) : Prop where
  is : xcIn K C = true
  ga : PySem.W.findIn K (.ref C) "__getattribute__" = some (some (.builtin "BaseException.__getattribute__"))
  gh : PySem.W.findIn K (.ref C) "__getattr__" = some none
section
variable {prog : Program} {w : World} {A : Around} {E : Value → Shared → Prop} {s : Shared} {K : PySem.W.Frag} {x C : Addr} {ox od : Obj} {f : Str} {v : Value} {expr : Bool} {Q : Value → Shared → Prop}
theorem x_get (X : K.In s.heap) (c : XGet K C) (J : PySem.W.InstAt s.heap x ox C (some od)) (hn : PySem.W.findIn K (.ref C) f = some none) (hl : PySem.W.lookIn f od = some (some v)) (hv : PySem.W.handedIn v = true)
    (h : Q v { s with toks := s.toks + 1 }) : wpAny (model prog w) A (getAttr (.ref x) f expr) Q E s := by
  obtain ⟨nm, q, N, bs, bm, sn, sub, ab, col, dd, k0, k1, k2, k3, k5, ho, ht⟩ := xc_obj c.is
  have hcl : PySem.W.clsIn K C = some { name := nm, bases := bs, mro := .ref C :: bm, ns := N, qualname := q, hasDict := true, slotNames := sn, subclasses := sub, abstract := ab, collection := col, hasDel := false } := by
    unfold PySem.W.clsIn; rw [ho]
  have hB : (Value.ref C :: bm).contains (.type "BaseException") = true := by rw [List.contains_cons, excTail_has (b := true) (by decide +kernel) bm ht]; rfl
  have FB := PySem.F.attrBase_Exception
  have hfo : PySem.W.findObj K C (some od) f = some (.value v) := PySem.W.findObj_own (by unfold PySem.W.hasDictIn; rw [hcl]; rfl) hn rfl hl
  obtain ⟨hh, g, d, t, os⟩ := s
  have L0 := J.type (M := model prog w)
  have L1 := PySem.W.looks_findIn (M := model prog w) X c.ga
  have L2 := PySem.W.looks_findIn (M := model prog w) X c.gh
  have L3 := PySem.W.looks_find (M := model prog w) X J hfo
  have L4 : Looks (model prog w) hh (isInstance (.ref x) (.type "BaseException")) true := L0.andThen (PySem.W.looks_mroIn X (by unfold PySem.W.mroIn; rw [hcl, Option.bind_some, if_neg (by simp), hB]))
  unfold getAttr getAttrBy
  refine wpAny_bind (wpAny_mkText (wpAny_holding (wpAny_bind (L0.at (wpAny_bind (L1.at ?_))))))
  dsimp only
  rw [show (onTheHeap (Value.ref C) && Value.builtin "BaseException.__getattribute__" == Value.builtin "object.__getattribute__") = false from by rw [show (Value.builtin "BaseException.__getattribute__" == Value.builtin "object.__getattribute__") = false from by decide +kernel, Bool.and_false], if_neg (by decide)]
  have hk : Looks (model prog w) hh (hookBefore (.ref C)) none := L2
  refine wpAny_bind (hk.at (wpAny_bind (wpAny_attempt (wpAny_holding ?_))))
  unfold callGetattribute
  rw [show (expr && onTheHeap (Value.builtin "BaseException.__getattribute__")) = false from Bool.and_false _, if_neg (by decide)]
  unfold boundAndCalled
  rw [FB.ga.bind]
  refine wpAny_bind (wpAny_pure ?_)
  show wpAny _ _ (call (.builtin "BaseException.__getattribute__") [.ref x, .str f t]) _ _ _
  refine wpAny_call (codeAny_call_builtin FB.ga.plain PySem.F.entry_bexc_ga (@PySem.W.check_slot (model prog w) _ _ _ "BaseException.__getattribute__" "BaseException" "__getattribute__" (.ref x) [.str f t] [] _ (by decide +kernel) (by decide +kernel) L4 (PySem.F.args_bexc_ga _ _) ?_))
  refine wpAny_bind (wpAny_pure (a := (Value.ref x, [Value.str f t])) ?_)
  show wpAny _ _ (typeOf (.ref x) >>= fun tp => Builtin.ObjectAttr.find (.ref x) tp f >>= _) _ _ _
  refine wpAny_bind (L0.at (wpAny_bind (L3.at ?_)))
  refine wpAny_pure ?_
  show wpAny _ _ (handedOut v) _ _ _
  rw [PySem.W.handedOut_of hv]; exact wpAny_pure h
end
section
variable {X : Cx} {ta : TE} {f : Str} {e : Expr} {pos : Pos}
def tXget (X : Cx) (ta : TE) (f : Str) : TE := fun σ H Q => ta σ H fun x H1 => ∃ (ea : Addr) (oe : Obj) (C d : Addr) (fs : List (Str × V)) (v : V) (vs : Array Value), x = .ref ea ∧ (ea, oe) ∈ X.pn ∧ oe.cls = .ref C ∧ oe.dict = some d ∧ oe.data = .fields vs ∧ H1 d = some (XDic d fs) ∧
  XGet X.K C ∧ NoAttr X.K C f ∧ fs.lookup f = some v ∧ Q v H1
theorem pe_xget (he : PE X e ta) (hb : attributeBase e f X.env (eval e X.env) = eval e X.env) : PE X (.Attribute e f pos) (tXget X ta f) := by
  intro pins s σ H Q I h
  refine attr_of hb (thn (he pins s σ H _ I h) fun u s1 ⟨x, H1, I1, rx, ea, oe, C, d, fs, v, vs, ex, hp, hc, hd, hv, ed, c, n, l, q⟩ => ?_)
  subst ex
  obtain rfl : u = Value.ref ea := rx
  have pe := (I1.pin (ea, oe) (List.mem_append_left _ hp)).1
  obtain ⟨mA, hn, r, wi⟩ := xdic_of I1.hok ed
  obtain ⟨od, hod, hlk⟩ := lookIn_ns hn
  have J : PySem.W.InstAt s1.heap ea oe C (some od) := ⟨pe, hc, by unfold PySem.W.notCls; rw [hv], by rw [hd]; exact hod⟩
  have rl := r f
  rw [l] at rl
  obtain ⟨y, ey, ry⟩ := rl.some_of
  refine x_get I1.kIn c J n (by rw [hlk, ey]) (handed_of ry) ?_
  exact ⟨v, H1, I1.tok _, ry, q⟩
end
end L2
end
section
set_option Elab.async false
set_option linter.all false
set_option maxRecDepth 100000
set_option maxHeartbeats 4000000
namespace L2
open PySem PySem.Spec PyProof.Rows
open PySem.W (Looks)
section
variable {M : Model} {A : Around} {E : Value → Shared → Prop} {h : Heap} {g : Array GenState} {d : Drawn} {t : Nat} {os : OsState} {e C F : Addr} {oe : Obj} {Q : Bool → Shared → Prop}
theorem x_match {K : PySem.W.Frag} (X : K.In h) (hC : xcIn K C = true) (hF : xcIn K F = true) (hs : PySem.W.mroIn K C (.ref F) = some true) (he : h.get? e = some oe) (hcls : oe.cls = .ref C)
    (hq : Q true ⟨h, g, d, t, os⟩) : wpAny M A (excMatches (.ref e) (.ref F)) Q E ⟨h, g, d, t, os⟩ := by
  obtain ⟨nm, q, N, bs, bm, sn, sub, ab, col, dd, k0, k1, k2, k3, k5, ho, ht⟩ := xc_obj hF
  have oF := X _ _ ho
  have cB : (Value.ref F :: bm).contains (.type "BaseException") = true := by rw [List.contains_cons, excTail_has (b := true) (by decide +kernel) bm ht]; rfl
  have L1 : Looks M h (isSubtype (.ref C) (.ref F)) true := PySem.W.looks_mroIn X hs
  have f := tc_notTuple
  unfold excMatches
  repeat (first | (with_reducible refine wpAny_loadPart_at he ?_; rw [hcls]) | with_reducible refine wpAny_loadPart_at oF ?_ | (with_reducible refine wpAny_isSubtype_exc oF ?_; rw [cB]) | (with_reducible refine L1.at ?_) | wp_step)
  exact hq
end
section
variable {X : Cx} {pins : List (Addr × Obj)} {σ : St} {H : Hp} {s : Shared}
def blind (X : Cx) : St := List.replicate X.N.length none
theorem blind_none {i : Nat} {v : V} (h : (blind X)[i]? = some (some v)) : False := by
  unfold blind at h
  rw [List.getElem?_replicate] at h
  split at h <;> cases h
theorem Inv.blinded (I : Inv X pins σ H s) : Inv X pins (blind X) H s := I.weak (by unfold blind; rw [List.length_replicate, I.len]) fun i v e => (blind_none e).elim
theorem Inv.relocal {h' : Heap} {m' : Str → Option Value} {t' : Nat} (I : Inv X pins σ H s) (hn : h'.Ns X.env.locals m') (hs : Heap.SameBut X.env.locals s.heap h') : Inv X pins (blind X) H { s with heap := h', toks := t' } := by
  have B := I.base
  have kp : ∀ b o, b ≠ X.env.locals → s.heap.get? b = some o → h'.get? b = some o := fun b o nb q => (hs.2 b nb).trans q
  have nl : ∀ b o, X.s_0.heap.get? b = some o → b ≠ X.env.locals := fun b o q => Nat.ne_of_lt (Nat.lt_of_lt_of_le (Heap.lt_size q) I.ok.above)
  refine ⟨I.ok, I.os, I.bare, ⟨fun b o q n nf nx => kp b o (nl b o q) (B.keep b o q n nf nx), fun b o q n nf nx => ?_, B.free, fun b o q nx => ?_, B.tups, B.frzs, B.tbls⟩, ⟨m', hn, fun i x v _ e _ => (blind_none e).elim⟩, fun x c e => ?_, I.free, I.freeC, fun p hp => ?_, fun b o q => ?_,
    by unfold blind; rw [List.length_replicate]⟩
  · obtain ⟨sl, q'⟩ := B.slot b o q n nf nx
    exact ⟨sl, kp b _ (nl b o q) q'⟩
  · obtain ⟨o', q'⟩ := B.there b o q nx
    exact ⟨o', kp b _ (nl b o q) q'⟩
  · obtain ⟨v, o, ho, hd⟩ := I.cell x c e
    exact ⟨v, o, kp c o (I.cne x c e) ho, hd⟩
  · obtain ⟨p1, p2, p3, p4, p5⟩ := I.pin p hp
    exact ⟨kp p.1 p.2 p3 p1, p2, p3, p4, p5⟩
  · have nb : ∀ c u, H c = some u → c ≠ X.env.locals := fun c u r z => by rw [z, I.free] at r; cases r
    refine (I.hok b o q).stay (fun c u hc r => ?_) (fun _ r => r) fun _ _ r => r
    rcases hc with rfl | hc
    · exact kp c u (nb c _ q) r
    · exact kp c u (nb c _ hc) r
end
abbrev Cx.tr (X : Cx) (E : Value → Shared → Prop) (pn : List (Addr × Obj)) : Cx := { X with xe := E, pn := pn }
abbrev Cx.inX (X : Cx) (ea : Addr) (pn : List (Addr × Obj)) : Cx := { X with A := X.A.mark (some (.ref ea)), calm := false, pn := pn, xe := fun _ _ => False }
section
variable {X : Cx} {pins pins' : List (Addr × Obj)} {σ : St} {H : Hp} {s : Shared} {E : Value → Shared → Prop} {pn : List (Addr × Obj)}
theorem Cx.Ok.tr (ok : X.Ok) : (X.tr E pn).Ok := ⟨ok.mod, ok.kind, ok.glob, ok.blt, ok.above, ok.inj, ok.has, ok.cab, ok.hd, ok.frames, ok.stk, ok.exf, ok.bs, ok.bsz, ok.noex, ok.exfs, ok.funs, ok.frf⟩
theorem Cx.Ok.untr (ok : (X.tr E pn).Ok) : X.Ok := ⟨ok.mod, ok.kind, ok.glob, ok.blt, ok.above, ok.inj, ok.has, ok.cab, ok.hd, ok.frames, ok.stk, ok.exf, ok.bs, ok.bsz, ok.noex, ok.exfs, ok.funs, ok.frf⟩
theorem Cx.Ok.inX {ea : Addr} (ok : X.Ok) : (X.inX ea pn).Ok := ⟨ok.mod, ok.kind, ok.glob, ok.blt, ok.above, ok.inj, ok.has, ok.cab, (fun z => by cases z), ok.frames, ok.stk, ok.exf, ok.bs, ok.bsz, ok.noex, ok.exfs, ok.funs, ok.frf⟩
theorem Inv.tr (I : Inv X pins σ H s) (h : ∀ p ∈ pn ++ pins', p ∈ X.pn ++ pins) : Inv (X.tr E pn) pins' σ H s := ⟨I.ok.tr, I.os, I.bare, I.base, I.loc, I.cell, I.free, I.freeC, fun p hp => I.pin p (h p hp), I.hok, I.len⟩
theorem Inv.untr (I : Inv (X.tr E pn) pins σ H s) (h : ∀ p ∈ X.pn ++ pins', p ∈ pn ++ pins) : Inv X pins' σ H s := ⟨I.ok.untr, I.os, I.bare, I.base, I.loc, I.cell, I.free, I.freeC, fun p hp => I.pin p (h p hp), I.hok, I.len⟩
theorem Inv.inX {ea : Addr} (I : Inv X pins σ H s) (h : ∀ p ∈ pn ++ pins', s.heap.get? p.1 = some p.2 ∧ H p.1 = none ∧ p.1 ≠ X.env.locals ∧ p.1 ∉ X.fs ∧ ∀ v, p.2.data ≠ .cell v) : Inv (X.inX ea pn) pins' σ H s :=
  ⟨I.ok.inX, I.os, I.bare, I.base, I.loc, I.cell, I.free, I.freeC, h, I.hok, I.len⟩
theorem Inv.outX {ea : Addr} (ok : X.Ok) (I : Inv (X.inX ea pn) pins σ H s) (h : ∀ p ∈ X.pn ++ pins', p ∈ pn ++ pins) : Inv X pins' σ H s :=
  ⟨ok, I.os, I.bare, I.base, I.loc, I.cell, I.free, I.freeC, fun p hp => I.pin p (h p hp), I.hok, I.len⟩
end
section
variable {X : Cx} {F : Addr} {x n : Str} {i : Nat} {body suite : List Stmt} {b0 : Stmt} {np hpos pos : Pos} {tb : XK → TS} {th : Addr → List (Addr × Obj) → TS}
def eTry (X : Cx) (F : Addr) (i : Nat) (th : Addr → List (Addr × Obj) → TS) (D : Ends) : XK := fun cls dx H' => ∃ C d, cls = .ref C ∧ dx = some d ∧ xcIn X.K C = true ∧ PySem.W.mroIn X.K C (.ref F) = some true ∧
  ∀ (ea : Addr) (oe : Obj) (vs : Array Value) (pn : List (Addr × Obj)), (ea, oe) ∈ pn → oe.cls = .ref C → oe.dict = some d → oe.data = .fields vs →
    th ea pn { nx := fun _ H2 => D.nx (blind X) H2, rt := D.rt } ((blind X).set i (some (.ref ea))) H'
def tTry (X : Cx) (F : Addr) (i : Nat) (tb : XK → TS) (th : Addr → List (Addr × Obj) → TS) : TS := fun D σ H => tb (eTry X F i th D) D σ H
theorem ps_try (hN : X.N.Nodup) (hi : X.N[i]? = some n) (hl : X.env.scope.names.lookup n = some .local) (hg : Gl X x) (hm : X.mg x = some (.ref F)) (hF : xcIn X.K F = true) (hst : X.stack = X.env :: X.outer) (hfr : X.env.frame = some X.env.locals) (hex : X.ex = [])
    (hb : ∀ (E : Value → Shared → Prop) (pn : List (Addr × Obj)) (Ec : XK), Passes (CXF X.prog X.w) (X.tr E pn) Ec → PSs (X.tr E pn) body (tb Ec)) (hs : ∀ (ea : Addr) (pn : List (Addr × Obj)), PSs (X.inX ea pn) (b0 :: suite) (th ea pn))
    (hd : (x == ("__debug__" : Str)) = false := by decide) (hfn : X.fn n = true := by rfl) :
    PS X (.Try body [.ExceptHandler (some (.Name x np)) (some n) (b0 :: suite) hpos] [] [] pos) (tTry X F i tb th) := by
  intro pins s σ H D I h
  refine wpAny_Try_except ?_
  generalize hE : (fun e s1 => wpAny (model X.prog X.w) X.A (noteFrame e X.env) (fun _ s2 => wpAny (model X.prog X.w) X.A (setFlight e none) (fun _ s3 => wpAny (model X.prog X.w) X.A
    (handleBy e X.env [.ExceptHandler (some (.Name x np)) (some n) (b0 :: suite) hpos]) (SP X pins D) X.xe s3) X.xe s2) X.xe s1 : Value → Shared → Prop) = E1
  have I' : Inv (X.tr E1 (X.pn ++ pins)) [] σ H s := I.tr (by simp)
  have hp : Passes (CXF X.prog X.w) (X.tr E1 (X.pn ++ pins)) (eTry X F i th D) := by
    intro pins1 σ1 H1 s1 e s2 J hx
    obtain ⟨ea, cls, dx, T, H', rfl, os, bare, un, ok, er, re, ne, z1, z2, n1, n2, C, d0, rfl, hdx, hC, hsub, hth⟩ := hx
    cases hdx
    obtain ⟨hh, g, d, t, os'⟩ := s2
    obtain rfl : os' = s1.os := os
    have I2 := J.call (h' := hh) (g' := g) (d' := d) (t' := t) (ch := []) un ok bare (fun b z => absurd z (by simp))
    show E1 (.ref ea) _
    rw [← hE]
    have hst2 := I2.stack
    have hfr2 := I2.ok.frames
    have e1 : (X.tr E1 (X.pn ++ pins)).stack = X.env :: X.outer := hst
    rw [e1] at hst2 hfr2
    refine fly_next hfr2 hst2 hfr er re ne fun h' T' Fe a b c dn oldT => ?_
    have s0 : X.s_0.heap.objs.size ≤ s1.heap.objs.size := J.sz
    have lt : ∀ b o, s1.heap.get? b = some o → b ≠ ea ∧ b ≠ T := fun b o q => ⟨Nat.ne_of_lt (Nat.lt_of_lt_of_le (Heap.lt_size q) z1), Nat.ne_of_lt (Nat.lt_of_lt_of_le (Heap.lt_size q) z2)⟩
    have chk : ∀ b, b = ea ∨ b = T → (b ∈ X.ex ∨ X.s_0.heap.objs.size ≤ b) ∧ b ≠ X.env.locals ∧ (∀ x c, X.env.cells.lookup x = some c → c ≠ b) ∧ ∀ p ∈ (X.pn ++ pins) ++ pins1, p.1 ≠ b := fun b hb => by
      have zb : s1.heap.objs.size ≤ b := by
        rcases hb with rfl | rfl
        · exact z1
        · exact z2
      refine ⟨.inr (Nat.le_trans s0 zb), Ne.symm (Nat.ne_of_lt (Nat.lt_of_lt_of_le J.lt zb)), fun y c ey q => ?_, fun p hp q => ?_⟩
      · obtain ⟨v, o, ho, _⟩ := J.cell y c ey
        rw [q] at ho
        exact Nat.lt_irrefl _ (Nat.lt_of_lt_of_le (Heap.lt_size ho) zb)
      · have := (J.pin p hp).1
        rw [q] at this
        exact Nat.lt_irrefl _ (Nat.lt_of_lt_of_le (Heap.lt_size this) zb)
    have okh : HOk X.prog X.w H' h' := fun b u q => by
      have nf : ∀ c v, H' c = some v → c ∉ frs (X.env :: X.outer) := fun c v r z => by
        have := I2.stkFree c (by rw [e1]; exact z)
        rw [r] at this; cases this
      have nx : ∀ c v, H' c = some v → c ∉ [ea, T] := fun c v r z => by
        rcases List.mem_cons.mp z with rfl | z
        · rw [n1] at r; cases r
        · rw [List.mem_singleton.mp z, n2] at r; cases r
      refine (I2.hok b u q).stay (fun c v hc r => ?_) (fun _ r => r) fun _ _ r => r
      rcases hc with rfl | hc
      · exact Fe.keep c v r (nx _ _ q) (nf _ _ q)
      · exact Fe.keep c v r (nx _ _ hc) (nf _ _ hc)
    have un2 : Un (frs (X.tr E1 (X.pn ++ pins)).stack) [ea, T] H' H' hh h' := by
      rw [e1]
      refine ⟨fun b o q n nf nx => Fe.keep b o q nx nf, fun b o q n nf nx => Fe.slot b o q nx nf, fun _ _ _ n _ => n, fun b o q nx => ?_, fun _ _ q => q, fun _ _ _ q => q, fun b ps q => ⟨#[], by rw [q]; simp⟩⟩
      by_cases hm : b ∈ frs (X.env :: X.outer)
      · obtain ⟨sl, q'⟩ := Fe.slot b o q nx hm
        exact ⟨_, q'⟩
      · exact ⟨_, Fe.keep b o q nx hm⟩
    have I3 := I2.call (h' := h') (g' := g) (d' := d) (t' := t) (ch := [ea, T]) un2 okh bare (fun b hb => chk b (by
      rcases List.mem_cons.mp hb with z | z
      · exact .inl z
      · exact .inr (List.mem_singleton.mp z)))
    obtain ⟨oe, vs, qe, hcls, hdict, hdat, hv1⟩ := id b
    obtain ⟨oT, ts, qT, hdT, hT3⟩ := id c
    have I4 : Inv X pins (blind X) H' ⟨h', g, d, t, s1.os⟩ := I3.blinded.untr (by
      intro p hp
      exact List.mem_append_left _ hp)
    have hpin : ∀ p ∈ (X.pn ++ pins ++ [(ea, oe)]) ++ [], (⟨h', g, d, t, s1.os⟩ : Shared).heap.get? p.1 = some p.2 ∧ H' p.1 = none ∧ p.1 ≠ X.env.locals ∧ p.1 ∉ X.fs ∧ ∀ v, p.2.data ≠ .cell v := fun p hp => by
      rw [List.append_nil] at hp
      rcases List.mem_append.mp hp with hp | hp
      · exact I4.pin p hp
      · rw [List.mem_singleton.mp hp]
        refine ⟨qe, n1, (chk ea (.inl rfl)).2.1, fun z => ?_, fun v z => by rw [hdat] at z; cases z⟩
        obtain ⟨_, o, ho, _⟩ := J.ok.funs.mem z
        exact absurd (Nat.lt_of_lt_of_le (Heap.lt_size ho) (Nat.le_trans s0 z1)) (Nat.lt_irrefl _)
    have I5 : Inv (X.inX ea (X.pn ++ pins ++ [(ea, oe)])) [] (blind X) H' ⟨h', g, d, t, s1.os⟩ := I4.inX hpin
    refine wpAny_handleBy_cons (codeAny_handlers_test ?_) (by intro q; cases q)
    refine ld_glob (X := X.inX ea (X.pn ++ pins ++ [(ea, oe)])) I5 hg hm ?_ hd
    refine x_match I5.kIn hC hF hsub qe hcls ?_
    dsimp only
    refine codeAny_handlers_suite_as (wpAny_setFlight_none qe hdat hv1 qT hdT (Array.getElem?_eq_some_iff.mp hT3).1 ?_)
    rw [Heap.update_setField_same h' T' oT ts 3 .none qT hdT hT3]
    refine store_ok (X := X.inX ea (X.pn ++ pins ++ [(ea, oe)])) I5 hN hi (.inl hl) (show RelV (.ref ea) (.ref ea) from rfl) (fun s6 I6 => ?_) (.inl hfn)
    refine wpAny_mono (hs ea (X.pn ++ pins ++ [(ea, oe)]) [] s6 _ H' _ I6 (hth ea oe vs _ (List.mem_append_right _ (List.mem_singleton.mpr rfl)) hcls hdict hdat)) (fun fl s7 q7 => ?_) fun _ _ z => False.elim z
    have ho : X.Ok := I.ok
    have fin : ∀ (σ' : St) (H2 : Hp), Inv (X.inX ea (X.pn ++ pins ++ [(ea, oe)])) [] σ' H2 s7 → ∀ (Q7 : Unit → Shared → Prop) (E7 : Value → Shared → Prop), (∀ s8, Inv X pins (blind X) H2 s8 → Q7 () s8) →
        wpAny (model X.prog X.w) X.A (do bindName X.env n .none; unbindBehindTheSuite X.env n hpos) Q7 E7 s7 := fun σ' H2 I7 Q7 E7 k => by
      obtain ⟨m, hnm, _⟩ := I7.loc
      have I8 : Inv X pins σ' H2 s7 := I7.outX ho (fun p hp => List.mem_append_left _ (List.mem_append_left _ hp))
      refine wpAny_nameGoes hl hnm (by rw [ho.kind]; rfl) fun h9 m9 hn9 hs9 => k _ (I8.relocal hn9 hs9)
    cases fl with
    | next =>
      obtain ⟨σ', H2, I7, q⟩ := q7
      exact fin σ' H2 I7 _ _ fun s8 I8 => ⟨_, H2, I8, q⟩
    | ret u =>
      obtain ⟨v, σ', H2, I7, r, q⟩ := q7
      exact fin σ' H2 I7 _ _ fun s8 I8 => ⟨v, _, H2, I8, r, q⟩
    | brk => obtain ⟨_, _, _, q⟩ := q7; exact q.elim
    | cont => obtain ⟨_, _, _, q⟩ := q7; exact q.elim
  refine wpAny_mono (hb E1 (X.pn ++ pins) _ hp [] s σ H D I' h) (fun fl s1 q => ?_) fun e s1 q => ?_
  · cases fl with
    | next =>
      obtain ⟨σ', H', J, q⟩ := q
      exact wpAny_execs_nil ⟨σ', H', J.untr (fun p hp => List.mem_append_left _ hp), q⟩
    | ret u =>
      obtain ⟨v, σ', H', J, r, q⟩ := q
      exact ⟨v, σ', H', J.untr (fun p hp => List.mem_append_left _ hp), r, q⟩
    | brk =>
      obtain ⟨σ', H', J, q⟩ := q
      exact ⟨σ', H', J.untr (fun p hp => List.mem_append_left _ hp), q⟩
    | cont =>
      obtain ⟨σ', H', J, q⟩ := q
      exact ⟨σ', H', J.untr (fun p hp => List.mem_append_left _ hp), q⟩
  · exact q
end
end L2
end
section
set_option Elab.async false
set_option linter.all false
set_option maxRecDepth 100000
set_option maxHeartbeats 2000000
namespace Wale
open PySem PySem.Spec PyProof.Rows L2
def top (i : Nat) : Stmt := PySem.Challenge.pw_waletexts_s01_judge.main.body.getD i (.Pass ⟨0, 0, 0, 0⟩)
abbrev s_token_at : Stmt := top 43
abbrev s_skip_blanks : Stmt := top 44
abbrev s_skip_comment : Stmt := top 45
abbrev s_word_token : Stmt := top 46
abbrev s_digit_word_at : Stmt := top 47
abbrev s_number_token : Stmt := top 48
abbrev s_spelled : Stmt := top 49
abbrev s_sign_of : Stmt := top 50
abbrev s_is_letter : Stmt := top 51
abbrev s_is_digit : Stmt := top 52
abbrev s_is_letter_digit_or_underscore : Stmt := top 53
abbrev s_read_pattern : Stmt := top 59
abbrev s_read_head : Stmt := top 60
abbrev s_read_sizes : Stmt := top 61
abbrev s_read_yarns : Stmt := top 62
abbrev s_read_new_names : Stmt := top 63
abbrev s_read_let : Stmt := top 64
abbrev s_read_word : Stmt := top 65
abbrev s_read_block : Stmt := top 66
abbrev s_read_braces : Stmt := top 67
abbrev s_read_stats : Stmt := top 68
abbrev s_read_stat : Stmt := top 69
abbrev s_read_row : Stmt := top 70
abbrev s_read_work : Stmt := top 71
abbrev s_read_row_items : Stmt := top 72
abbrev s_read_row_item : Stmt := top 73
abbrev s_read_goal : Stmt := top 74
abbrev s_read_unit : Stmt := top 75
abbrev s_read_crossing : Stmt := top 76
abbrev s_read_crossing_number : Stmt := top 77
abbrev s_read_lone : Stmt := top 78
abbrev s_begins_sum : Stmt := top 79
abbrev s_read_sum : Stmt := top 80
abbrev s_read_product : Stmt := top 81
abbrev s_read_factor : Stmt := top 82
abbrev s_judge : Stmt := top 88
abbrev s_read_text : Stmt := top 89
abbrev s_Fault_init : Stmt := inClass (top 1) 0
abbrev s_ByteFault_init : Stmt := inClass (top 2) 0
abbrev s_NumberFault_init : Stmt := inClass (top 3) 0
abbrev s_WantFault_init : Stmt := inClass (top 4) 0
abbrev s_UntoldFault_init : Stmt := inClass (top 5) 0
abbrev s_AgainFault_init : Stmt := inClass (top 6) 0
abbrev s_BoundFault_init : Stmt := inClass (top 7) 0
abbrev s_SumsFault_init : Stmt := inClass (top 8) 0
abbrev s_Names_init : Stmt := inClass (top 18) 0
abbrev s_Names_amount : Stmt := inClass (top 18) 1
abbrev s_Names_check_new : Stmt := inClass (top 18) 2
abbrev s_Names_check_room : Stmt := inClass (top 18) 3
abbrev s_Names_tell : Stmt := inClass (top 18) 4
abbrev s_Names_check_told : Stmt := inClass (top 18) 5
abbrev s_Names_stand : Stmt := inClass (top 18) 6
abbrev s_Token_init : Stmt := inClass (top 42) 0
abbrev s_Reader_init : Stmt := inClass (top 85) 0
abbrev s_Reader_peek : Stmt := inClass (top 85) 1
abbrev s_Reader_step : Stmt := inClass (top 85) 2
abbrev s_Reader_skip : Stmt := inClass (top 85) 3
abbrev s_Reader_want : Stmt := inClass (top 85) 4
abbrev s_Reader_want_kind : Stmt := inClass (top 85) 5
abbrev s_Reader_enter : Stmt := inClass (top 85) 6
abbrev s_Reader_leave : Stmt := inClass (top 85) 7
abbrev s_Reader_want_new_name : Stmt := inClass (top 85) 8
abbrev s_Reader_want_told_name : Stmt := inClass (top 85) 9
abbrev s_Reader_want_standing_name : Stmt := inClass (top 85) 10
structure TopDef (K : PySem.W.Frag) (mg : Str → Option Value) (x : Str) (st : Stmt) (ps : List Str) (f : Addr) (fd : FuncData) : Prop where
  fn : Fun K x x st f fd
  bd : Binds K fd ps []
  at_ : mg x = some (.ref f)
structure MthDef (K : PySem.W.Frag) (C : Addr) (x qual : Str) (st : Stmt) (ps : List Str) (f : Addr) (fd : FuncData) : Prop where
  fn : Fun K x qual st f fd
  bd : Binds K fd ps []
  mt : Meth K C x f
structure ErrCls (K : PySem.W.Frag) (mg : Str → Option Value) (x : Str) (C F f : Addr) : Prop where
  at_ : mg x = some (.ref C)
  xc : XCls K C f
  xg : XGet K C
  sub : PySem.W.mroIn K C (.ref F) = some true
  nk : NoAttr K C "kind"
  np : NoAttr K C "place"
structure OwnCls (K : PySem.W.Frag) (mg : Str → Option Value) (x : Str) (C f : Addr) : Prop where
  at_ : mg x = some (.ref C)
  cl : Cls K C
  mk_ : Mk K C f
def StrTup (K : PySem.W.Frag) (mg : Str → Option Value) (x : Str) (l : List Str) (d : Addr) : Prop := mg x = some (.ref d) ∧ ∀ H : Hp, SqT K H d (l.map V.str)
def IntC (mg : Str → Option Value) (x : Str) (n : Int) : Prop := ∃ t, mg x = some (.int n t)
def StrC (mg : Str → Option Value) (x : Str) (n : Str) : Prop := ∃ t, mg x = some (.str n t)
structure ModDict (P : Program) (w : World) (K : PySem.W.Frag) (a : Addr) (kvs : List (Key × V)) : Prop where
  ok : ∀ h : Heap, K.In h → ∃ vs, KV kvs vs ∧ h.DictOf (mixKind P w) a vs
  ns : (a == sysModules) = false
structure Ad where
  f_token_at : Addr
  d_token_at : FuncData
  f_skip_blanks : Addr
  d_skip_blanks : FuncData
  f_skip_comment : Addr
  d_skip_comment : FuncData
  f_word_token : Addr
  d_word_token : FuncData
  f_digit_word_at : Addr
  d_digit_word_at : FuncData
  f_number_token : Addr
  d_number_token : FuncData
  f_spelled : Addr
  d_spelled : FuncData
  f_sign_of : Addr
  d_sign_of : FuncData
  f_is_letter : Addr
  d_is_letter : FuncData
  f_is_digit : Addr
  d_is_digit : FuncData
  f_is_letter_digit_or_underscore : Addr
  d_is_letter_digit_or_underscore : FuncData
  f_read_pattern : Addr
  d_read_pattern : FuncData
  f_read_head : Addr
  d_read_head : FuncData
  f_read_sizes : Addr
  d_read_sizes : FuncData
  f_read_yarns : Addr
  d_read_yarns : FuncData
  f_read_new_names : Addr
  d_read_new_names : FuncData
  f_read_let : Addr
  d_read_let : FuncData
  f_read_word : Addr
  d_read_word : FuncData
  f_read_block : Addr
  d_read_block : FuncData
  f_read_braces : Addr
  d_read_braces : FuncData
  f_read_stats : Addr
  d_read_stats : FuncData
  f_read_stat : Addr
  d_read_stat : FuncData
  f_read_row : Addr
  d_read_row : FuncData
  f_read_work : Addr
  d_read_work : FuncData
  f_read_row_items : Addr
  d_read_row_items : FuncData
  f_read_row_item : Addr
  d_read_row_item : FuncData
  f_read_goal : Addr
  d_read_goal : FuncData
  f_read_unit : Addr
  d_read_unit : FuncData
  f_read_crossing : Addr
  d_read_crossing : FuncData
  f_read_crossing_number : Addr
  d_read_crossing_number : FuncData
  f_read_lone : Addr
  d_read_lone : FuncData
  f_begins_sum : Addr
  d_begins_sum : FuncData
  f_read_sum : Addr
  d_read_sum : FuncData
  f_read_product : Addr
  d_read_product : FuncData
  f_read_factor : Addr
  d_read_factor : FuncData
  f_judge : Addr
  d_judge : FuncData
  f_read_text : Addr
  d_read_text : FuncData
  f_Fault_init : Addr
  d_Fault_init : FuncData
  f_ByteFault_init : Addr
  d_ByteFault_init : FuncData
  f_NumberFault_init : Addr
  d_NumberFault_init : FuncData
  f_WantFault_init : Addr
  d_WantFault_init : FuncData
  f_UntoldFault_init : Addr
  d_UntoldFault_init : FuncData
  f_AgainFault_init : Addr
  d_AgainFault_init : FuncData
  f_BoundFault_init : Addr
  d_BoundFault_init : FuncData
  f_SumsFault_init : Addr
  d_SumsFault_init : FuncData
  f_Names_init : Addr
  d_Names_init : FuncData
  f_Names_amount : Addr
  d_Names_amount : FuncData
  f_Names_check_new : Addr
  d_Names_check_new : FuncData
  f_Names_check_room : Addr
  d_Names_check_room : FuncData
  f_Names_tell : Addr
  d_Names_tell : FuncData
  f_Names_check_told : Addr
  d_Names_check_told : FuncData
  f_Names_stand : Addr
  d_Names_stand : FuncData
  f_Token_init : Addr
  d_Token_init : FuncData
  f_Reader_init : Addr
  d_Reader_init : FuncData
  f_Reader_peek : Addr
  d_Reader_peek : FuncData
  f_Reader_step : Addr
  d_Reader_step : FuncData
  f_Reader_skip : Addr
  d_Reader_skip : FuncData
  f_Reader_want : Addr
  d_Reader_want : FuncData
  f_Reader_want_kind : Addr
  d_Reader_want_kind : FuncData
  f_Reader_enter : Addr
  d_Reader_enter : FuncData
  f_Reader_leave : Addr
  d_Reader_leave : FuncData
  f_Reader_want_new_name : Addr
  d_Reader_want_new_name : FuncData
  f_Reader_want_told_name : Addr
  d_Reader_want_told_name : FuncData
  f_Reader_want_standing_name : Addr
  d_Reader_want_standing_name : FuncData
  c_Fault : Addr
  c_ByteFault : Addr
  c_NumberFault : Addr
  c_WantFault : Addr
  c_UntoldFault : Addr
  c_AgainFault : Addr
  c_BoundFault : Addr
  c_SumsFault : Addr
  c_Names : Addr
  c_Token : Addr
  c_Reader : Addr
  t_BOUNDS : Addr
  t_DIGIT_WORDS : Addr
  t_PLAIN : Addr
  t_OTHER_WORDS : Addr
  t_SIGNS : Addr
  t_HEADS : Addr
  t_STATS : Addr
  t_LONES : Addr
structure Tx (P : Program) (w : World) (K : PySem.W.Frag) (mg : Str → Option Value) (a : Ad) : Prop where
  token_at : TopDef K mg "token_at" s_token_at ["t", "start"] a.f_token_at a.d_token_at
  skip_blanks : TopDef K mg "skip_blanks" s_skip_blanks ["t", "start"] a.f_skip_blanks a.d_skip_blanks
  skip_comment : TopDef K mg "skip_comment" s_skip_comment ["t", "start"] a.f_skip_comment a.d_skip_comment
  word_token : TopDef K mg "word_token" s_word_token ["t", "place"] a.f_word_token a.d_word_token
  digit_word_at : TopDef K mg "digit_word_at" s_digit_word_at ["t", "place"] a.f_digit_word_at a.d_digit_word_at
  number_token : TopDef K mg "number_token" s_number_token ["t", "place"] a.f_number_token a.d_number_token
  spelled : TopDef K mg "spelled" s_spelled ["codes"] a.f_spelled a.d_spelled
  sign_of : TopDef K mg "sign_of" s_sign_of ["byte"] a.f_sign_of a.d_sign_of
  is_letter : TopDef K mg "is_letter" s_is_letter ["byte"] a.f_is_letter a.d_is_letter
  is_digit : TopDef K mg "is_digit" s_is_digit ["byte"] a.f_is_digit a.d_is_digit
  is_letter_digit_or_underscore : TopDef K mg "is_letter_digit_or_underscore" s_is_letter_digit_or_underscore ["byte"] a.f_is_letter_digit_or_underscore a.d_is_letter_digit_or_underscore
  read_pattern : TopDef K mg "read_pattern" s_read_pattern ["reader"] a.f_read_pattern a.d_read_pattern
  read_head : TopDef K mg "read_head" s_read_head ["reader"] a.f_read_head a.d_read_head
  read_sizes : TopDef K mg "read_sizes" s_read_sizes ["reader", "token"] a.f_read_sizes a.d_read_sizes
  read_yarns : TopDef K mg "read_yarns" s_read_yarns ["reader", "token"] a.f_read_yarns a.d_read_yarns
  read_new_names : TopDef K mg "read_new_names" s_read_new_names ["reader", "kind"] a.f_read_new_names a.d_read_new_names
  read_let : TopDef K mg "read_let" s_read_let ["reader"] a.f_read_let a.d_read_let
  read_word : TopDef K mg "read_word" s_read_word ["reader"] a.f_read_word a.d_read_word
  read_block : TopDef K mg "read_block" s_read_block ["reader"] a.f_read_block a.d_read_block
  read_braces : TopDef K mg "read_braces" s_read_braces ["reader"] a.f_read_braces a.d_read_braces
  read_stats : TopDef K mg "read_stats" s_read_stats ["reader"] a.f_read_stats a.d_read_stats
  read_stat : TopDef K mg "read_stat" s_read_stat ["reader"] a.f_read_stat a.d_read_stat
  read_row : TopDef K mg "read_row" s_read_row ["reader"] a.f_read_row a.d_read_row
  read_work : TopDef K mg "read_work" s_read_work ["reader"] a.f_read_work a.d_read_work
  read_row_items : TopDef K mg "read_row_items" s_read_row_items ["reader"] a.f_read_row_items a.d_read_row_items
  read_row_item : TopDef K mg "read_row_item" s_read_row_item ["reader"] a.f_read_row_item a.d_read_row_item
  read_goal : TopDef K mg "read_goal" s_read_goal ["reader"] a.f_read_goal a.d_read_goal
  read_unit : TopDef K mg "read_unit" s_read_unit ["reader"] a.f_read_unit a.d_read_unit
  read_crossing : TopDef K mg "read_crossing" s_read_crossing ["reader"] a.f_read_crossing a.d_read_crossing
  read_crossing_number : TopDef K mg "read_crossing_number" s_read_crossing_number ["reader"] a.f_read_crossing_number a.d_read_crossing_number
  read_lone : TopDef K mg "read_lone" s_read_lone ["reader"] a.f_read_lone a.d_read_lone
  begins_sum : TopDef K mg "begins_sum" s_begins_sum ["token"] a.f_begins_sum a.d_begins_sum
  read_sum : TopDef K mg "read_sum" s_read_sum ["reader"] a.f_read_sum a.d_read_sum
  read_product : TopDef K mg "read_product" s_read_product ["reader"] a.f_read_product a.d_read_product
  read_factor : TopDef K mg "read_factor" s_read_factor ["reader"] a.f_read_factor a.d_read_factor
  judge : TopDef K mg "judge" s_judge ["t"] a.f_judge a.d_judge
  read_text : TopDef K mg "read_text" s_read_text ["t"] a.f_read_text a.d_read_text
  Fault_init : Fun K "__init__" "Fault.__init__" s_Fault_init a.f_Fault_init a.d_Fault_init ∧ Binds K a.d_Fault_init ["self", "kind", "place"] []
  ByteFault_init : Fun K "__init__" "ByteFault.__init__" s_ByteFault_init a.f_ByteFault_init a.d_ByteFault_init ∧ Binds K a.d_ByteFault_init ["self", "place"] []
  NumberFault_init : Fun K "__init__" "NumberFault.__init__" s_NumberFault_init a.f_NumberFault_init a.d_NumberFault_init ∧ Binds K a.d_NumberFault_init ["self", "place"] []
  WantFault_init : Fun K "__init__" "WantFault.__init__" s_WantFault_init a.f_WantFault_init a.d_WantFault_init ∧ Binds K a.d_WantFault_init ["self", "place"] []
  UntoldFault_init : Fun K "__init__" "UntoldFault.__init__" s_UntoldFault_init a.f_UntoldFault_init a.d_UntoldFault_init ∧ Binds K a.d_UntoldFault_init ["self", "place"] []
  AgainFault_init : Fun K "__init__" "AgainFault.__init__" s_AgainFault_init a.f_AgainFault_init a.d_AgainFault_init ∧ Binds K a.d_AgainFault_init ["self", "place"] []
  BoundFault_init : Fun K "__init__" "BoundFault.__init__" s_BoundFault_init a.f_BoundFault_init a.d_BoundFault_init ∧ Binds K a.d_BoundFault_init ["self", "place"] []
  SumsFault_init : Fun K "__init__" "SumsFault.__init__" s_SumsFault_init a.f_SumsFault_init a.d_SumsFault_init ∧ Binds K a.d_SumsFault_init ["self", "place"] []
  Names_init : Fun K "__init__" "Names.__init__" s_Names_init a.f_Names_init a.d_Names_init ∧ Binds K a.d_Names_init ["self"] []
  Names_amount : MthDef K a.c_Names "amount" "Names.amount" s_Names_amount ["self", "kind"] a.f_Names_amount a.d_Names_amount
  Names_check_new : MthDef K a.c_Names "check_new" "Names.check_new" s_Names_check_new ["self", "token", "kind"] a.f_Names_check_new a.d_Names_check_new
  Names_check_room : MthDef K a.c_Names "check_room" "Names.check_room" s_Names_check_room ["self", "token", "kind"] a.f_Names_check_room a.d_Names_check_room
  Names_tell : MthDef K a.c_Names "tell" "Names.tell" s_Names_tell ["self", "token", "kind"] a.f_Names_tell a.d_Names_tell
  Names_check_told : MthDef K a.c_Names "check_told" "Names.check_told" s_Names_check_told ["self", "token", "kind"] a.f_Names_check_told a.d_Names_check_told
  Names_stand : MthDef K a.c_Names "stand" "Names.stand" s_Names_stand ["self", "token", "kind"] a.f_Names_stand a.d_Names_stand
  Token_init : Fun K "__init__" "Token.__init__" s_Token_init a.f_Token_init a.d_Token_init ∧ Binds K a.d_Token_init ["self", "kind", "text", "number", "place", "after"] []
  Reader_init : Fun K "__init__" "Reader.__init__" s_Reader_init a.f_Reader_init a.d_Reader_init ∧ Binds K a.d_Reader_init ["self", "t"] []
  Reader_peek : MthDef K a.c_Reader "peek" "Reader.peek" s_Reader_peek ["self"] a.f_Reader_peek a.d_Reader_peek
  Reader_step : MthDef K a.c_Reader "step" "Reader.step" s_Reader_step ["self"] a.f_Reader_step a.d_Reader_step
  Reader_skip : MthDef K a.c_Reader "skip" "Reader.skip" s_Reader_skip ["self", "text"] a.f_Reader_skip a.d_Reader_skip
  Reader_want : MthDef K a.c_Reader "want" "Reader.want" s_Reader_want ["self", "text"] a.f_Reader_want a.d_Reader_want
  Reader_want_kind : MthDef K a.c_Reader "want_kind" "Reader.want_kind" s_Reader_want_kind ["self", "kind"] a.f_Reader_want_kind a.d_Reader_want_kind
  Reader_enter : MthDef K a.c_Reader "enter" "Reader.enter" s_Reader_enter ["self", "text"] a.f_Reader_enter a.d_Reader_enter
  Reader_leave : MthDef K a.c_Reader "leave" "Reader.leave" s_Reader_leave ["self", "text"] a.f_Reader_leave a.d_Reader_leave
  Reader_want_new_name : MthDef K a.c_Reader "want_new_name" "Reader.want_new_name" s_Reader_want_new_name ["self", "kind"] a.f_Reader_want_new_name a.d_Reader_want_new_name
  Reader_want_told_name : MthDef K a.c_Reader "want_told_name" "Reader.want_told_name" s_Reader_want_told_name ["self", "kind"] a.f_Reader_want_told_name a.d_Reader_want_told_name
  Reader_want_standing_name : MthDef K a.c_Reader "want_standing_name" "Reader.want_standing_name" s_Reader_want_standing_name ["self", "kind"] a.f_Reader_want_standing_name a.d_Reader_want_standing_name
  cF_Fault : mg "Fault" = some (.ref a.c_Fault) ∧ ClsFn K a.c_Fault "__init__" a.f_Fault_init ∧ xcIn K a.c_Fault = true
  cx_ByteFault : ErrCls K mg "ByteFault" a.c_ByteFault a.c_Fault a.f_ByteFault_init
  cx_NumberFault : ErrCls K mg "NumberFault" a.c_NumberFault a.c_Fault a.f_NumberFault_init
  cx_WantFault : ErrCls K mg "WantFault" a.c_WantFault a.c_Fault a.f_WantFault_init
  cx_UntoldFault : ErrCls K mg "UntoldFault" a.c_UntoldFault a.c_Fault a.f_UntoldFault_init
  cx_AgainFault : ErrCls K mg "AgainFault" a.c_AgainFault a.c_Fault a.f_AgainFault_init
  cx_BoundFault : ErrCls K mg "BoundFault" a.c_BoundFault a.c_Fault a.f_BoundFault_init
  cx_SumsFault : ErrCls K mg "SumsFault" a.c_SumsFault a.c_Fault a.f_SumsFault_init
  co_Names : OwnCls K mg "Names" a.c_Names a.f_Names_init
  na_Names_told : NoAttr K a.c_Names "told"
  na_Names_standing : NoAttr K a.c_Names "standing"
  na_Names_amounts : NoAttr K a.c_Names "amounts"
  co_Token : OwnCls K mg "Token" a.c_Token a.f_Token_init
  na_Token_kind : NoAttr K a.c_Token "kind"
  na_Token_text : NoAttr K a.c_Token "text"
  na_Token_number : NoAttr K a.c_Token "number"
  na_Token_place : NoAttr K a.c_Token "place"
  na_Token_after : NoAttr K a.c_Token "after"
  co_Reader : OwnCls K mg "Reader" a.c_Reader a.f_Reader_init
  na_Reader_source : NoAttr K a.c_Reader "source"
  na_Reader_ahead : NoAttr K a.c_Reader "ahead"
  na_Reader_after : NoAttr K a.c_Reader "after"
  na_Reader_depth : NoAttr K a.c_Reader "depth"
  na_Reader_names : NoAttr K a.c_Reader "names"
  k_SIZES : StrC mg "SIZES" "sizes"
  k_YARNS : StrC mg "YARNS" "yarns"
  k_NUMBERS : StrC mg "NUMBERS" "numbers"
  k_WORDS : StrC mg "WORDS" "words"
  k_BLOCKS : StrC mg "BLOCKS" "blocks"
  k_MARKERS : StrC mg "MARKERS" "markers"
  k_HOLDERS : StrC mg "HOLDERS" "holders"
  k_BOUNDS : mg "BOUNDS" = some (.ref a.t_BOUNDS) ∧ ModDict P w K a.t_BOUNDS [(.inr "sizes", .int 16), (.inr "yarns", .int 16), (.inr "numbers", .int 256), (.inr "words", .int 64), (.inr "blocks", .int 64), (.inr "markers", .int 64), (.inr "holders", .int 16)]
  k_END : StrC mg "END" "end"
  k_NAME : StrC mg "NAME" "name"
  k_NUMBER : StrC mg "NUMBER" "number"
  k_FIXED : StrC mg "FIXED" "fixed"
  k_DIGIT_WORDS : StrTup K mg "DIGIT_WORDS" ["k2tog", "k3tog", "p2tog", "m1l", "m1r"] a.t_DIGIT_WORDS
  k_LONGEST_DIGIT_WORD : IntC mg "LONGEST_DIGIT_WORD" 5
  k_PLAIN : StrTup K mg "PLAIN" ["k", "p", "ktbl", "ptbl", "yo", "k2tog", "k3tog", "ssk", "sssk", "p2tog", "ssp", "cdd", "kfb", "pfb", "kp", "m1l", "m1r", "sl", "slf", "pso", "even", "co", "bo"] a.t_PLAIN
  k_OTHER_WORDS : StrTup K mg "OTHER_WORDS" ["pattern", "sizes", "yarns", "let", "word", "block", "on", "round", "row", "rs", "ws", "repeat", "until", "work", "off", "to", "end", "last", "mark", "cl", "cr", "hold", "take", "yarn", "pass", "clear", "turn", "fasten"] a.t_OTHER_WORDS
  k_SIGNS : mg "SIGNS" = some (.ref a.t_SIGNS) ∧ ModDict P w K a.t_SIGNS [(.inl 40, .str "("), (.inl 41, .str ")"), (.inl 42, .str "*"), (.inl 43, .str "+"), (.inl 44, .str ","), (.inl 45, .str "-"), (.inl 47, .str "/"), (.inl 59, .str ";"), (.inl 61, .str "="), (.inl 91, .str "["), (.inl 93, .str "]"), (.inl 123, .str "{"), (.inl 125, .str "}")]
  k_LETTERS : StrC mg "LETTERS" "abcdefghijklmnopqrstuvwxyz"
  k_DIGITS : StrC mg "DIGITS" "0123456789"
  k_LINE_END : IntC mg "LINE_END" 10
  k_BLANK : IntC mg "BLANK" 32
  k_HASH : IntC mg "HASH" 35
  k_ZERO : IntC mg "ZERO" 48
  k_NINE : IntC mg "NINE" 57
  k_UNDERSCORE : IntC mg "UNDERSCORE" 95
  k_LOWER_A : IntC mg "LOWER_A" 97
  k_LOWER_Z : IntC mg "LOWER_Z" 122
  k_FIRST_BYTE : IntC mg "FIRST_BYTE" 32
  k_LAST_BYTE : IntC mg "LAST_BYTE" 126
  k_LARGEST_NUMBER : IntC mg "LARGEST_NUMBER" 1048576
  k_HEADS : StrTup K mg "HEADS" ["sizes", "yarns", "let", "word", "block"] a.t_HEADS
  k_STATS : StrTup K mg "STATS" ["on", "row", "repeat", "until", "work", "off"] a.t_STATS
  k_LONES : StrTup K mg "LONES" ["take", "yarn", "mark", "pass", "clear", "turn", "fasten"] a.t_LONES
  k_LARGEST_CROSSING : IntC mg "LARGEST_CROSSING" 16
  k_DEEPEST : IntC mg "DEEPEST" 8
  k_LONGEST_TEXT : IntC mg "LONGEST_TEXT" 16384
  b_len : mg "len" = none
  b_min : mg "min" = none
end Wale
end
section
set_option Elab.async false
set_option linter.all false
set_option maxRecDepth 100000
set_option maxHeartbeats 2000000
namespace Wale
open PySem PySem.Spec PyProof.Rows L2
section
variable {X : Cx} {x : Str} {pos p : Pos}
theorem pk_int {n : Int} (h : IntC X.mg x n) (hg : Gl X x := by rfl) (hd : (x == ("__debug__" : Str)) = false := by decide) : PE X (.Name x pos) (tC (.int n)) := by
  obtain ⟨t, e⟩ := h
  exact pe_glob hg e ⟨t, rfl⟩ hd
theorem pk_str {n : Str} (h : StrC X.mg x n) (hg : Gl X x := by rfl) (hd : (x == ("__debug__" : Str)) = false := by decide) : PE X (.Name x pos) (tC (.str n)) := by
  obtain ⟨t, e⟩ := h
  exact pe_glob hg e ⟨t, rfl⟩ hd
theorem callD {CX : CXT} {k : Nat} {st : Stmt} {ps : List Str} {f : Addr} {fd : FuncData} {sp : Sp} {E : XK} {e : Expr} {es : List Expr} {t : TA} (D : TopDef X.K X.mg x st ps f fd) (G : FnOk X.prog X.w X.K X.mg X.base CX k f fd ps sp) (hr : Room k X.A) (hx : Passes CX X E) (ha : PA X (e :: es) t)
    (hg : Gl X x := by rfl) (hdb : (x == ("__debug__" : Str)) = false := by decide) (he : starEach (e :: es) X.env = (false, eval e X.env) :: starEach es X.env := by rfl) (hpl : (backTo pos (starEach es X.env)).any (·.1) = false := by rfl) :
    PE X (.Call (.Name x p) (e :: es) [] pos) (tCall sp [] E t) := pe_call G hr hg D.at_ D.fn.kp D.bd .nil hx ha hdb he hpl
end
variable {P : Program} {w : World} {K : PySem.W.Frag} {mg : Str → Option Value} {base : Heap} {a : Ad}
def ErrC (K : PySem.W.Frag) (a : Ad) (C : Addr) : Prop := xcIn K C = true ∧ XGet K C ∧ PySem.W.mroIn K C (.ref a.c_Fault) = some true ∧ NoAttr K C "kind" ∧ NoAttr K C "place"
def Told (K : PySem.W.Frag) (a : Ad) (E : XK) (k n : Int) : Prop := ∀ (C d : Addr) (H' : Hp), ErrC K a C → H' d = some (XDic d [("kind", .int k), ("place", .int n)]) → E (.ref C) (some d) H'
def spFault (K : PySem.W.Frag) : Sp := fun vs H Q _ => ∃ (lo : Nat) (x C fI : Addr) (k n : Int), vs = [.ref x, .int k, .int n] ∧ H x = some (XObj lo x C none) ∧ XCls K C fI ∧ NoAttr K C "kind" ∧ NoAttr K C "place" ∧
  ∀ (H' : Hp) (d : Addr), H' x = some (XObj lo x C (some d)) → H' d = some (XDic d [("kind", .int k), ("place", .int n)]) → d ≠ x → Q .non H'
def spErr (K : PySem.W.Frag) (C : Addr) (k : Int) : Sp := fun vs H Q _ => ∃ (lo : Nat) (x fI : Addr) (n : Int), vs = [.ref x, .int n] ∧ H x = some (XObj lo x C none) ∧ XCls K C fI ∧ NoAttr K C "kind" ∧ NoAttr K C "place" ∧
  ∀ (H' : Hp) (d : Addr), H' x = some (XObj lo x C (some d)) → H' d = some (XDic d [("kind", .int k), ("place", .int n)]) → d ≠ x → Q .non H'
theorem sc_Fault_init : FnScope ["self", "kind", "place"] ["self", "kind", "place"] (defScope s_Fault_init) := ⟨rfl, rfl, rfl, by decide +kernel, rfl, by decide +kernel, by decide +kernel⟩
theorem ok_Fault_init (T : Tx P w K mg a) : FnOk P w K mg base CX0 1 a.f_Fault_init a.d_Fault_init ["self", "kind", "place"] (spFault K) := by
  refine T.Fault_init.1.ok sc_Fault_init (fun vs H Q E h => ?_) (fun cdv A outer s H vs Q E hr h => ?_)
  · obtain ⟨_, _, _, _, _, _, rfl, _⟩ := h; rfl
  obtain ⟨lo, x, C, fI, k, n, rfl, hx, xc, nk, np, q⟩ := h
  refine ⟨_, pss_cons (ps_xfst (pv 0) (pv 1) rfl) (pss_one (ps_xnxt (pv 0) (pv 2) rfl)), ?_⟩
  refine ⟨_, rfl, _, rfl, lo, x, C, fI, rfl, hx, xc, nk, fun d hd hne => ?_⟩
  refine ⟨_, rfl, _, rfl, lo, x, C, fI, d, _, rfl, upd_same, (by rw [upd_ne hne]; exact upd_same), hne, xc, np, (by show 1 < 1000; decide), ?_⟩
  exact q _ d (by rw [upd_ne (Ne.symm hne)]; exact upd_same) upd_same hne
theorem sc_ByteFault_init : FnScope ["self", "place"] ["self", "place"] (defScope s_ByteFault_init) := ⟨rfl, rfl, rfl, by decide +kernel, rfl, by decide +kernel, by decide +kernel⟩
theorem ok_ByteFault_init (T : Tx P w K mg a) : FnOk P w K mg base CX0 2 a.f_ByteFault_init a.d_ByteFault_init ["self", "place"] (spErr K a.c_ByteFault 1) := by
  refine T.ByteFault_init.1.ok sc_ByteFault_init (fun vs H Q E h => ?_) (fun cdv A outer s H vs Q E hr h => ?_)
  · obtain ⟨_, _, _, _, rfl, _⟩ := h; rfl
  obtain ⟨lo, x, fI, n, rfl, hx, xc, nk, np, q⟩ := h
  refine ⟨_, pss_one (ps_expr (pe_clsm rfl T.cF_Fault.1 T.cF_Fault.2.1 (ok_Fault_init T) hr T.Fault_init.2 .nil pass0 (pa_cons (pv 0) (pa_cons pe_int (pa_cons (pv 1) pa_nil))))), ?_⟩
  exact ⟨_, rfl, _, rfl, lo, x, _, fI, 1, n, rfl, hx, xc, nk, np, fun H' d h1 h2 h3 => q H' d h1 h2 h3⟩
theorem sc_NumberFault_init : FnScope ["self", "place"] ["self", "place"] (defScope s_NumberFault_init) := ⟨rfl, rfl, rfl, by decide +kernel, rfl, by decide +kernel, by decide +kernel⟩
theorem ok_NumberFault_init (T : Tx P w K mg a) : FnOk P w K mg base CX0 2 a.f_NumberFault_init a.d_NumberFault_init ["self", "place"] (spErr K a.c_NumberFault 2) := by
  refine T.NumberFault_init.1.ok sc_NumberFault_init (fun vs H Q E h => ?_) (fun cdv A outer s H vs Q E hr h => ?_)
  · obtain ⟨_, _, _, _, rfl, _⟩ := h; rfl
  obtain ⟨lo, x, fI, n, rfl, hx, xc, nk, np, q⟩ := h
  refine ⟨_, pss_one (ps_expr (pe_clsm rfl T.cF_Fault.1 T.cF_Fault.2.1 (ok_Fault_init T) hr T.Fault_init.2 .nil pass0 (pa_cons (pv 0) (pa_cons pe_int (pa_cons (pv 1) pa_nil))))), ?_⟩
  exact ⟨_, rfl, _, rfl, lo, x, _, fI, 2, n, rfl, hx, xc, nk, np, fun H' d h1 h2 h3 => q H' d h1 h2 h3⟩
theorem sc_WantFault_init : FnScope ["self", "place"] ["self", "place"] (defScope s_WantFault_init) := ⟨rfl, rfl, rfl, by decide +kernel, rfl, by decide +kernel, by decide +kernel⟩
theorem ok_WantFault_init (T : Tx P w K mg a) : FnOk P w K mg base CX0 2 a.f_WantFault_init a.d_WantFault_init ["self", "place"] (spErr K a.c_WantFault 3) := by
  refine T.WantFault_init.1.ok sc_WantFault_init (fun vs H Q E h => ?_) (fun cdv A outer s H vs Q E hr h => ?_)
  · obtain ⟨_, _, _, _, rfl, _⟩ := h; rfl
  obtain ⟨lo, x, fI, n, rfl, hx, xc, nk, np, q⟩ := h
  refine ⟨_, pss_one (ps_expr (pe_clsm rfl T.cF_Fault.1 T.cF_Fault.2.1 (ok_Fault_init T) hr T.Fault_init.2 .nil pass0 (pa_cons (pv 0) (pa_cons pe_int (pa_cons (pv 1) pa_nil))))), ?_⟩
  exact ⟨_, rfl, _, rfl, lo, x, _, fI, 3, n, rfl, hx, xc, nk, np, fun H' d h1 h2 h3 => q H' d h1 h2 h3⟩
theorem sc_UntoldFault_init : FnScope ["self", "place"] ["self", "place"] (defScope s_UntoldFault_init) := ⟨rfl, rfl, rfl, by decide +kernel, rfl, by decide +kernel, by decide +kernel⟩
theorem ok_UntoldFault_init (T : Tx P w K mg a) : FnOk P w K mg base CX0 2 a.f_UntoldFault_init a.d_UntoldFault_init ["self", "place"] (spErr K a.c_UntoldFault 4) := by
  refine T.UntoldFault_init.1.ok sc_UntoldFault_init (fun vs H Q E h => ?_) (fun cdv A outer s H vs Q E hr h => ?_)
  · obtain ⟨_, _, _, _, rfl, _⟩ := h; rfl
  obtain ⟨lo, x, fI, n, rfl, hx, xc, nk, np, q⟩ := h
  refine ⟨_, pss_one (ps_expr (pe_clsm rfl T.cF_Fault.1 T.cF_Fault.2.1 (ok_Fault_init T) hr T.Fault_init.2 .nil pass0 (pa_cons (pv 0) (pa_cons pe_int (pa_cons (pv 1) pa_nil))))), ?_⟩
  exact ⟨_, rfl, _, rfl, lo, x, _, fI, 4, n, rfl, hx, xc, nk, np, fun H' d h1 h2 h3 => q H' d h1 h2 h3⟩
theorem sc_AgainFault_init : FnScope ["self", "place"] ["self", "place"] (defScope s_AgainFault_init) := ⟨rfl, rfl, rfl, by decide +kernel, rfl, by decide +kernel, by decide +kernel⟩
theorem ok_AgainFault_init (T : Tx P w K mg a) : FnOk P w K mg base CX0 2 a.f_AgainFault_init a.d_AgainFault_init ["self", "place"] (spErr K a.c_AgainFault 5) := by
  refine T.AgainFault_init.1.ok sc_AgainFault_init (fun vs H Q E h => ?_) (fun cdv A outer s H vs Q E hr h => ?_)
  · obtain ⟨_, _, _, _, rfl, _⟩ := h; rfl
  obtain ⟨lo, x, fI, n, rfl, hx, xc, nk, np, q⟩ := h
  refine ⟨_, pss_one (ps_expr (pe_clsm rfl T.cF_Fault.1 T.cF_Fault.2.1 (ok_Fault_init T) hr T.Fault_init.2 .nil pass0 (pa_cons (pv 0) (pa_cons pe_int (pa_cons (pv 1) pa_nil))))), ?_⟩
  exact ⟨_, rfl, _, rfl, lo, x, _, fI, 5, n, rfl, hx, xc, nk, np, fun H' d h1 h2 h3 => q H' d h1 h2 h3⟩
theorem sc_BoundFault_init : FnScope ["self", "place"] ["self", "place"] (defScope s_BoundFault_init) := ⟨rfl, rfl, rfl, by decide +kernel, rfl, by decide +kernel, by decide +kernel⟩
theorem ok_BoundFault_init (T : Tx P w K mg a) : FnOk P w K mg base CX0 2 a.f_BoundFault_init a.d_BoundFault_init ["self", "place"] (spErr K a.c_BoundFault 6) := by
  refine T.BoundFault_init.1.ok sc_BoundFault_init (fun vs H Q E h => ?_) (fun cdv A outer s H vs Q E hr h => ?_)
  · obtain ⟨_, _, _, _, rfl, _⟩ := h; rfl
  obtain ⟨lo, x, fI, n, rfl, hx, xc, nk, np, q⟩ := h
  refine ⟨_, pss_one (ps_expr (pe_clsm rfl T.cF_Fault.1 T.cF_Fault.2.1 (ok_Fault_init T) hr T.Fault_init.2 .nil pass0 (pa_cons (pv 0) (pa_cons pe_int (pa_cons (pv 1) pa_nil))))), ?_⟩
  exact ⟨_, rfl, _, rfl, lo, x, _, fI, 6, n, rfl, hx, xc, nk, np, fun H' d h1 h2 h3 => q H' d h1 h2 h3⟩
theorem sc_SumsFault_init : FnScope ["self", "place"] ["self", "place"] (defScope s_SumsFault_init) := ⟨rfl, rfl, rfl, by decide +kernel, rfl, by decide +kernel, by decide +kernel⟩
theorem ok_SumsFault_init (T : Tx P w K mg a) : FnOk P w K mg base CX0 2 a.f_SumsFault_init a.d_SumsFault_init ["self", "place"] (spErr K a.c_SumsFault 7) := by
  refine T.SumsFault_init.1.ok sc_SumsFault_init (fun vs H Q E h => ?_) (fun cdv A outer s H vs Q E hr h => ?_)
  · obtain ⟨_, _, _, _, rfl, _⟩ := h; rfl
  obtain ⟨lo, x, fI, n, rfl, hx, xc, nk, np, q⟩ := h
  refine ⟨_, pss_one (ps_expr (pe_clsm rfl T.cF_Fault.1 T.cF_Fault.2.1 (ok_Fault_init T) hr T.Fault_init.2 .nil pass0 (pa_cons (pv 0) (pa_cons pe_int (pa_cons (pv 1) pa_nil))))), ?_⟩
  exact ⟨_, rfl, _, rfl, lo, x, _, fI, 7, n, rfl, hx, xc, nk, np, fun H' d h1 h2 h3 => q H' d h1 h2 h3⟩
section
variable {X : Cx} {E : XK} {x : Str} {e : Expr} {te : TE} {p pos pos' : Pos} {C f : Addr} {fd : FuncData} {k : Int}
theorem drp_d {H : Hp} {x d : Addr} {o : HO} (h : H d = some o) (hne : d ≠ x) : drp H x d = some o := by rw [drp_ne hne]; exact h
def Flt (lo : Nat) (K : PySem.W.Frag) (C : Addr) (E : XK) (k : Int) : List V → Hp → Prop := fun vs H1 => vs.length ≤ sizeLine ∧ ∀ x, H1 x = none → spErr K C k (.ref x :: vs) (upd H1 x (XObj lo x C none))
  (fun v H2 => v = .non ∧ ∃ a fI dx, V.ref x = .ref a ∧ H2 a = some (XObj lo a C (some dx)) ∧ XCls K C fI ∧ E (.ref C) (some dx) (drp H2 a)) E0
def tFault (lo : Nat) (K : PySem.W.Frag) (C : Addr) (E : XK) (k : Int) (te : TE) : TS := fun _ σ H => te σ H fun v H1 => Flt lo K C E k [v] H1
theorem ps_fault (hc : X.calm = true) (hx : Raises X E) (D : ErrCls X.K X.mg x C a.c_Fault f) (G : FnOk X.prog X.w X.K X.mg X.base CX0 2 f fd ["self", "place"] (spErr X.K C k)) (hb : Binds X.K fd ["self", "place"] []) (hr : Room 3 X.A) (he : PE X e te)
    (hg : Gl X x := by rfl) (hdb : (x == ("__debug__" : Str)) = false := by decide) (hst : starEach [e] X.env = [(false, eval e X.env)] := by rfl) :
    PS X (.Raise (some (.Call (.Name x p) [e] [] pos)) none pos') (tFault X.s_0.heap.objs.size X.K C E k te) := fun pins s σ H Dn I h =>
  ps_raise (C := C) hc hx (pe_xmake D.xc G hr hg D.at_ hb (pa_cons he pa_nil hst) hdb hst rfl) D.xc.is pins s σ H Dn I h
theorem flt_ok {lo : Nat} {H1 : Hp} {n : Int} (D : ErrCls K mg x C a.c_Fault f) (h : Told K a E k n) : Flt lo K C E k [.int n] H1 :=
  ⟨by show 1 ≤ sizeLine; decide, fun y hy => ⟨lo, y, f, n, rfl, upd_same, D.xc, D.nk, D.np, fun H' d h1 h2 h3 => ⟨rfl, y, f, d, rfl, h1, D.xc, h C d _ ⟨D.xc.is, D.xg, D.sub, D.nk, D.np⟩ (drp_d h2 h3)⟩⟩⟩
end
end Wale
end
section
set_option Elab.async false
set_option linter.all false
set_option maxRecDepth 100000
set_option maxHeartbeats 2000000
namespace Wale
open PySem PySem.Spec PyProof.Rows L2
variable {P : Program} {w : World} {K : PySem.W.Frag} {mg : Str → Option Value} {base : Heap} {a : Ad}
theorem while_inv {ι : Type} {c : TT} {tb : TS} {D : Ends} {σ : L2.St} {H : Hp} (I : ι → L2.St → Hp → Prop) (μ : ι → Nat) (i0 : ι) (h0 : I i0 σ H)
    (hs : ∀ i σ H, I i σ H → c σ H fun b H1 => if b = true then ∃ N : L2.St → Hp → Prop, (∀ σ' H', N σ' H' → ∃ m', m' < μ i ∧ ∃ j, m' = μ j ∧ I j σ' H') ∧ tb { D with nx := N, ct := N, bk := D.nx } σ H1 else D.nx σ H1) : tWhile c tb D σ H :=
  ⟨fun m σ H => ∃ i, m = μ i ∧ I i σ H, ⟨_, i0, rfl, h0⟩, fun m σ H ⟨i, e, q⟩ => by subst e; exact hs i σ H q⟩
theorem turn_mk {ι : Type} {tb : TS} {D : Ends} {σ : L2.St} {H : Hp} {I : ι → L2.St → Hp → Prop} {μ : ι → Nat} {i : ι}
    (h : tb { D with nx := fun σ' H' => ∃ j, μ j < μ i ∧ I j σ' H', ct := fun σ' H' => ∃ j, μ j < μ i ∧ I j σ' H', bk := D.nx } σ H) :
    ∃ N : L2.St → Hp → Prop, (∀ σ' H', N σ' H' → ∃ m', m' < μ i ∧ ∃ j, m' = μ j ∧ I j σ' H') ∧ tb { D with nx := N, ct := N, bk := D.nx } σ H :=
  ⟨_, fun σ' H' ⟨j, l, q⟩ => ⟨_, l, j, rfl, q⟩, h⟩
abbrev Bytes := LsWale.Bytes
def nums (b : Bytes) : List V := b.map fun c => V.int (c.toNat : Int)
def strOf (b : Bytes) : Str := ⟨(b.map UInt8.toNat).toArray⟩
theorem nums_len (b : Bytes) : (nums b).length = b.length := by unfold nums; rw [List.length_map]
theorem nums_at {b : Bytes} {i : Nat} {c : UInt8} (h : b[i]? = some c) : atI (nums b) (i : Int) = some (.int c.toNat) := by
  refine atI_nat ?_
  unfold nums
  rw [List.getElem?_map, h]
  rfl
def spB (g : Int → Bool) : Sp := fun vs H Q _ => ∃ n : Int, vs = [.int n] ∧ Q (.bl (g n)) H
def letter (n : Int) : Bool := decide (97 ≤ n) && decide (n ≤ 122)
def digit (n : Int) : Bool := decide (48 ≤ n) && decide (n ≤ 57)
def tailB (n : Int) : Bool := letter n || (digit n || decide (n = 95))
theorem sc_is_letter : FnScope ["byte"] ["byte"] (defScope s_is_letter) := ⟨rfl, rfl, rfl, by decide +kernel, rfl, by decide +kernel, by decide +kernel⟩
theorem ok_is_letter (T : Tx P w K mg a) : FnOk P w K mg base CX0 1 a.f_is_letter a.d_is_letter ["byte"] (spB letter) := by
  refine T.is_letter.fn.ok sc_is_letter (fun vs H Q E h => ?_) (fun cdv A outer s H vs Q E hr h => ?_)
  · obtain ⟨n, rfl, _⟩ := h; rfl
  obtain ⟨n, rfl, k⟩ := h
  refine ⟨_, pss_one (ps_ret (pe_chain op_le op_le (pk_int T.k_LOWER_A) (pv 0) (pk_int T.k_LOWER_Z))), ?_⟩
  refine ⟨_, rfl, _, _, rfl, rfl, _, rfl, ?_⟩
  unfold letter at k
  refine ite2 (fun c => ?_) (fun c => ?_)
  · rw [c, Bool.true_and] at k
    exact ⟨_, _, rfl, rfl, k⟩
  · rw [Bool.eq_false_iff.mpr c, Bool.false_and] at k
    exact k
theorem sc_is_digit : FnScope ["byte"] ["byte"] (defScope s_is_digit) := ⟨rfl, rfl, rfl, by decide +kernel, rfl, by decide +kernel, by decide +kernel⟩
theorem ok_is_digit (T : Tx P w K mg a) : FnOk P w K mg base CX0 1 a.f_is_digit a.d_is_digit ["byte"] (spB digit) := by
  refine T.is_digit.fn.ok sc_is_digit (fun vs H Q E h => ?_) (fun cdv A outer s H vs Q E hr h => ?_)
  · obtain ⟨n, rfl, _⟩ := h; rfl
  obtain ⟨n, rfl, k⟩ := h
  refine ⟨_, pss_one (ps_ret (pe_chain op_le op_le (pk_int T.k_ZERO) (pv 0) (pk_int T.k_NINE))), ?_⟩
  refine ⟨_, rfl, _, _, rfl, rfl, _, rfl, ?_⟩
  unfold digit at k
  refine ite2 (fun c => ?_) (fun c => ?_)
  · rw [c, Bool.true_and] at k
    exact ⟨_, _, rfl, rfl, k⟩
  · rw [Bool.eq_false_iff.mpr c, Bool.false_and] at k
    exact k
theorem sc_ildu : FnScope ["byte"] ["byte"] (defScope s_is_letter_digit_or_underscore) := ⟨rfl, rfl, rfl, by decide +kernel, rfl, by decide +kernel, by decide +kernel⟩
theorem ok_ildu (T : Tx P w K mg a) : FnOk P w K mg base CX0 2 a.f_is_letter_digit_or_underscore a.d_is_letter_digit_or_underscore ["byte"] (spB tailB) := by
  refine T.is_letter_digit_or_underscore.fn.ok sc_ildu (fun vs H Q E h => ?_) (fun cdv A outer s H vs Q E hr h => ?_)
  · obtain ⟨n, rfl, _⟩ := h; rfl
  obtain ⟨n, rfl, k⟩ := h
  refine ⟨_, pss_one (ps_ret (pe_or (callD T.is_letter (ok_is_letter T) hr pass0 (pa_cons (pv 0) pa_nil)) (pe_or (callD T.is_digit (ok_is_digit T) hr pass0 (pa_cons (pv 0) pa_nil)) (pe_one (pe_cmpR op_eq (pv 0) (pk_int T.k_UNDERSCORE) (nomark _)))))), ?_⟩
  refine ⟨_, rfl, n, rfl, _, rfl, ?_⟩
  unfold tailB at k
  refine ite2 (fun c => ?_) (fun c => ?_)
  · rw [c, Bool.true_or] at k; exact k
  rw [Bool.eq_false_iff.mpr c, Bool.false_or] at k
  refine ⟨_, rfl, n, rfl, _, rfl, ?_⟩
  refine ite2 (fun c => ?_) (fun c => ?_)
  · rw [c, Bool.true_or] at k; exact k
  rw [Bool.eq_false_iff.mpr c, Bool.false_or] at k
  refine ⟨_, rfl, rfl, ?_⟩
  rw [show decide (V.int n = V.int 95) = decide (n = 95) by by_cases h : n = 95 <;> simp [h]]
  exact k
theorem letters_at : ∀ k : Nat, k < 26 → ("abcdefghijklmnopqrstuvwxyz" : Str).cps.toList[k]? = some (97 + k) := by decide +kernel
theorem digits_at : ∀ k : Nat, k < 10 → ("0123456789" : Str).cps.toList[k]? = some (48 + k) := by decide +kernel
def spSign : Sp := fun vs H Q _ => ∃ n : Int, vs = [.int n] ∧ tailB n = true ∧ Q (.str ⟨#[n.toNat]⟩) H
theorem sc_sign_of : FnScope ["byte"] ["byte"] (defScope s_sign_of) := ⟨rfl, rfl, rfl, by decide +kernel, rfl, by decide +kernel, by decide +kernel⟩
theorem ok_sign_of (T : Tx P w K mg a) : FnOk P w K mg base CX0 2 a.f_sign_of a.d_sign_of ["byte"] spSign := by
  refine T.sign_of.fn.ok sc_sign_of (fun vs H Q E h => ?_) (fun cdv A outer s H vs Q E hr h => ?_)
  · obtain ⟨n, rfl, _⟩ := h; rfl
  obtain ⟨n, rfl, ht, k⟩ := h
  refine ⟨_, pss_cons (ps_if (pt_val (callD T.is_letter (ok_is_letter T) hr pass0 (pa_cons (pv 0) pa_nil))) (pss_one (ps_ret (pe_ix ix_str (pk_str T.k_LETTERS) (pe_op op_sub (pv 0) (pk_int T.k_LOWER_A)) (fun _ _ => rfl)))) pss_nil)
    (pss_cons (ps_if (pt_val (callD T.is_digit (ok_is_digit T) hr pass0 (pa_cons (pv 0) pa_nil))) (pss_one (ps_ret (pe_ix ix_str (pk_str T.k_DIGITS) (pe_op op_sub (pv 0) (pk_int T.k_ZERO)) (fun _ _ => rfl)))) pss_nil)
    (pss_one (ps_ret pe_str))), ?_⟩
  refine ⟨_, rfl, n, rfl, _, rfl, ?_⟩
  refine ite2 (fun c => ?_) (fun c => ?_)
  · simp only [letter, Bool.and_eq_true, decide_eq_true_eq] at c
    refine ⟨_, rfl, _, _, rfl, rfl, _, _, n.toNat, rfl, rfl, by decide, ?_, k⟩
    have e : n - 97 = ((n.toNat - 97 : Nat) : Int) := by omega
    rw [e]
    refine atI_nat ?_
    rw [letters_at _ (by omega)]
    congr 1; omega
  refine ⟨_, rfl, n, rfl, _, rfl, ?_⟩
  refine ite2 (fun c2 => ?_) (fun c2 => ?_)
  · simp only [digit, Bool.and_eq_true, decide_eq_true_eq] at c2
    refine ⟨_, rfl, _, _, rfl, rfl, _, _, n.toNat, rfl, rfl, by decide, ?_, k⟩
    have e : n - 48 = ((n.toNat - 48 : Nat) : Int) := by omega
    rw [e]
    refine atI_nat ?_
    rw [digits_at _ (by omega)]
    congr 1; omega
  · have h95 : n = 95 := by
      simp only [tailB, Bool.eq_false_iff.mpr c, Bool.eq_false_iff.mpr c2, Bool.false_or, decide_eq_true_eq] at ht
      exact ht
    subst h95
    exact k
def spSpell (K : PySem.W.Frag) : Sp := fun vs H Q _ => ∃ (p : Addr) (b : Bytes), vs = [.ref p] ∧ SqL K H p (nums b) ∧ (∀ c ∈ b, tailB (c.toNat : Int) = true) ∧ b.length ≤ 20000 ∧ ∀ H', Same H H' → Q (.str (strOf b)) H'
theorem sc_spelled : FnScope ["codes", "byte"] ["codes"] (defScope s_spelled) := ⟨rfl, rfl, rfl, by decide +kernel, rfl, by decide +kernel, by decide +kernel⟩
theorem join_one (b : Bytes) : Txt.join "" (b.map fun c => (⟨#[c.toNat]⟩ : Str)) = strOf b := by
  rw [TL.join_eq]
  have e : ∀ l : List (List Nat), TL.joinL [] l = l.flatten := by
    intro l
    induction l with
    | nil => rfl
    | cons p r ih =>
      cases r with
      | nil => simp [TL.joinL]
      | cons q r => rw [TL.joinL, ih]; simp
  have h := TL.tl_join "" (b.map fun c => (⟨#[c.toNat]⟩ : Str))
  rw [show TL.tl ("" : Str) = [] from by decide +kernel, e, List.map_map] at h
  have h2 : (List.map (TL.tl ∘ fun c => (⟨#[UInt8.toNat c]⟩ : Str)) b).flatten = b.map UInt8.toNat := by
    clear h
    induction b with
    | nil => rfl
    | cons c r ih => rw [List.map_cons, List.flatten_cons, ih]; rfl
  rw [h2] at h
  unfold strOf
  generalize Str.join "" (b.map fun c => (⟨#[c.toNat]⟩ : Str)) = z at h
  obtain ⟨⟨l⟩⟩ := z
  have h3 : l = b.map UInt8.toNat := h
  rw [h3]
theorem blk_spelled : BlkOk ["codes", "byte"] (defScope s_spelled) { kind := .function, names := [(".0", .local), ("byte", .local), ("sign_of", .globalImplicit)], isGenerator := false, isCoroutine := false } [("byte", 1)] := blkOk_by (by decide +kernel)
theorem ok_spelled (T : Tx P w K mg a) : FnOk P w K mg base CX0 3 a.f_spelled a.d_spelled ["codes"] (spSpell K) := by
  refine T.spelled.fn.ok sc_spelled (fun vs H Q E h => ?_) (fun cdv A outer s H vs Q E hr h => ?_)
  · obtain ⟨_, _, rfl, _⟩ := h; rfl
  obtain ⟨p, b, rfl, hS, ht, hl, k⟩ := h
  refine ⟨_, pss_one (ps_ret (pe_join pe_str (pe_lc (own := [("byte", 1)]) rfl sc_spelled.nd (pi_list (pv 0)) blk_spelled (fun _ _ _ _ _ => pg_name (i := 1) sc_spelled.nd rfl (Or.inl rfl)) (fun _ _ _ _ _ => pts_nil)
    (fun _ _ _ _ _ => callD T.sign_of (ok_sign_of T) hr pass0 (pa_cons (pv 1) pa_nil))))), ?_⟩
  refine ⟨⟨_, rfl⟩, _, rfl, p, rfl, ⟨_, hS⟩, fun D hD => ?_⟩
  have s0 : Same H (upd H D (.lst [])) := fun x o e => by rw [upd_ne (ne_of_none e hD)]; exact e
  refine lc_list (K := K) (a := p) (xs := nums b) (fun i H' => Same H H' ∧ H' D = some (.lst ((b.take i).map fun c => V.str ⟨#[c.toNat]⟩))) ⟨s0, upd_same⟩ (fun i H' _ q => q.1.seq hS) (fun i x H' hi q => ?_) (fun H' q => ?_)
  · obtain ⟨sm, hd⟩ := q
    unfold nums at hi
    rw [List.getElem?_map] at hi
    obtain ⟨c, hc, rfl⟩ := Option.map_eq_some_iff.mp hi
    have hi2 : i < b.length := (List.getElem?_eq_some_iff.mp hc).1
    refine ⟨rfl, ⟨_, rfl, _, rfl, ht c (List.mem_of_getElem? hc), _, hd, ?_, ?_, ?_⟩⟩
    · rw [List.length_map, List.length_take, sizeLine_eq]; omega
    · exact fun x o e => by
        rw [upd_ne (ne_of_none e hD)]
        exact sm x o e
    · rw [upd_same, List.take_add_one, hc]
      simp
  · obtain ⟨sm, hd⟩ := q
    rw [nums_len, List.take_length] at hd
    refine ⟨_, D, b.map fun c => (⟨#[c.toNat]⟩ : Str), rfl, rfl, .inl (SqL.of (by rw [hd, List.map_map]; rfl)), ?_, ?_⟩
    · have : ((b.map fun c => (⟨#[c.toNat]⟩ : Str)).map (·.length)).sum = b.length := by
        rw [List.map_map]
        clear hd sm s0 hD k hl ht hS
        induction b with
        | nil => rfl
        | cons c r ih => rw [List.map_cons, List.sum_cons, ih, List.length_cons]; show 1 + _ = _; omega
      rw [this]
      show _ + _ * 0 ≤ _
      omega
    · rw [join_one]
      exact k H' sm
end Wale
end
section
set_option Elab.async false
set_option linter.all false
set_option maxRecDepth 100000
set_option maxHeartbeats 2000000
namespace Wale
open PySem PySem.Spec PyProof.Rows L2
open Wm (blanks_f blanks_t blanks_end isByte_iff tkAt tkOf tkEnd)
open LsWale (blanks isByte)
variable {P : Program} {w : World} {K : PySem.W.Frag} {mg : Str → Option Value} {base : Heap} {a : Ad}
theorem len_call {X : Cx} {e : Expr} {te : TE} {p pos : Pos} (hm : X.mg "len" = none) (he : PE X e te) (hg : Gl X "len" := by rfl) (hst : starEach [e] X.env = [(false, eval e X.env)] := by rfl) :
    PE X (.Call (.Name "len" p) [e] [] pos) (tCB (fun xs H Q => ∃ p ys, xs = [.ref p] ∧ (SqL X.K H p ys ∨ SqT X.K H p ys) ∧ Q (.int ys.length) H) (tCons te tNil)) :=
  pe_callB call_len_seq hg hm PySem.boot_len (pa_cons he pa_nil hst) (by decide) (by decide) hst rfl
theorem dec_v {i j : Int} : decide (V.int i = V.int j) = decide (i = j) := by by_cases h : i = j <;> simp [h]
def spComment (K : PySem.W.Frag) (a : Ad) : Sp := fun vs H Q E => ∃ (t : Addr) (b : Bytes) (p : Nat), vs = [.ref t, .int p] ∧ SqL K H t (nums b) ∧ (∃ c, b[p]? = some c ∧ c.toNat = 35) ∧
  (∀ q : Nat, p < q → q ≤ b.length → q + blanks false (b.drop q) = p + blanks true (b.drop p) → Q (.int q) H) ∧
  ∀ c, b[p + blanks true (b.drop p)]? = some c → isByte c = false → Told K a E 1 (p + blanks true (b.drop p) : Nat)
theorem sc_skip_comment : FnScope ["t", "start", "place"] ["t", "start"] (defScope s_skip_comment) := ⟨rfl, rfl, rfl, by decide +kernel, rfl, by decide +kernel, by decide +kernel⟩
theorem ok_skip_comment (T : Tx P w K mg a) : FnOk P w K mg base (CXF P w) 4 a.f_skip_comment a.d_skip_comment ["t", "start"] (spComment K a) := by
  refine T.skip_comment.fn.okx sc_skip_comment (fun vs H Q E h => ?_) (fun cdv A outer s H vs Q E hr h => ?_)
  · obtain ⟨_, _, _, rfl, _⟩ := h; rfl
  obtain ⟨t, b, p, rfl, hS, ⟨c0, hc0, h35⟩, k1, k2⟩ := h
  refine ⟨_, pss_cons (ps_set (i := 2) sc_skip_comment.nd rfl (Or.inl rfl) (pv 1)) (pss_cons (ps_while own_def
      (PW.pt (pw_and (pt_cmpR op_lt (pv 2) (len_call T.b_len (pv 0)) (nomark _)) (pw_and1 (pt_cmpR op_ne (pe_ix ix_list (pv 0) (pv 2) (fun _ _ => rfl)) (pk_int T.k_LINE_END) (nomark _)))))
      (pss_cons (ps_if (PW.pt (pw_or (pt_cmpR op_lt (pe_ix ix_list (pv 0) (pv 2) (fun _ _ => rfl)) (pk_int T.k_FIRST_BYTE) (nomark _)) (pw_or1 (pt_cmpR op_gt (pe_ix ix_list (pv 0) (pv 2) (fun _ _ => rfl)) (pk_int T.k_LAST_BYTE) (nomark _)))))
          (pss_one (ps_fault rfl raises_def T.cx_ByteFault (ok_ByteFault_init T) T.ByteFault_init.2 (hr.mono (by decide)) (pv 2))) pss_nil)
        (pss_one (ps_aug (i := 2) sc_skip_comment.nd rfl (Or.inl rfl) pe_int ip_add))))
    (pss_one (ps_ret (pv 2)))), ?_⟩
  refine ⟨_, rfl, ?_⟩
  refine while_inv (fun (q : Nat) σ H' => H' = H ∧ σ = [some (.ref t), some (.int p), some (.int q)] ∧ p ≤ q ∧ q ≤ b.length ∧ q + blanks true (b.drop q) = p + blanks true (b.drop p)) (fun q => b.length - q) p
    ⟨rfl, rfl, Nat.le_refl _, Nat.le_of_lt (List.getElem?_eq_some_iff.mp hc0).1, rfl⟩ ?_
  rintro q σ H' ⟨rfl, rfl, l1, l2, e⟩
  refine ⟨_, rfl, _, rfl, t, _, rfl, .inl hS, _, _, rfl, rfl, _, rfl, ?_⟩
  refine ite2 (fun c => ?_) (fun c => ?_)
  · rw [nums_len] at c
    have lt : q < b.length := by have := of_decide_eq_true c; omega
    obtain ⟨cb, hcb⟩ : ∃ c, b[q]? = some c := ⟨_, List.getElem?_eq_getElem lt⟩
    refine ⟨_, rfl, _, rfl, t, _, _, _, rfl, rfl, hS, nums_at hcb, rfl, _, rfl, ?_⟩
    rw [dec_v]
    refine ite2 (fun c2 => ?_) (fun c2 => ?_)
    · have n10 : cb.toNat ≠ 10 := fun z => by rw [z] at c2; exact absurd c2 (by decide)
      refine turn_mk ?_
      refine ⟨_, rfl, _, rfl, t, _, _, _, rfl, rfl, hS, nums_at hcb, _, _, rfl, rfl, _, rfl, ?_⟩
      have bt := blanks_t hcb
      rw [if_neg n10] at bt
      refine ite2 (fun c3 => ?_) (fun c3 => ?_)
      · have hb : isByte cb = false := Bool.eq_false_iff.mpr fun z => by
          have := of_decide_eq_true c3
          rcases (isByte_iff cb).mp z with z | z <;> omega
        rw [if_neg (by rw [hb]; decide)] at bt
        refine ⟨_, rfl, flt_ok T.cx_ByteFault ?_⟩
        have eq : q = p + blanks true (b.drop p) := by omega
        rw [eq]
        exact k2 cb (by rw [← eq]; exact hcb) hb
      · refine ⟨_, rfl, _, rfl, t, _, _, _, rfl, rfl, hS, nums_at hcb, _, _, rfl, rfl, _, rfl, ?_⟩
        refine ite2 (fun c4 => ?_) (fun c4 => ?_)
        · have hb : isByte cb = false := Bool.eq_false_iff.mpr fun z => by
            have := of_decide_eq_true c4
            rcases (isByte_iff cb).mp z with z | z <;> omega
          rw [if_neg (by rw [hb]; decide)] at bt
          refine ⟨_, rfl, flt_ok T.cx_ByteFault ?_⟩
          have eq : q = p + blanks true (b.drop p) := by omega
          rw [eq]
          exact k2 cb (by rw [← eq]; exact hcb) hb
        · have h3 : ¬ ((cb.toNat : Int) < 32) := fun z => c3 (decide_eq_true z)
          have h4 : ¬ ((126 : Int) < cb.toNat) := fun z => c4 (decide_eq_true z)
          have hb : isByte cb = true := (isByte_iff cb).mpr (.inr ⟨by omega, by omega⟩)
          rw [if_pos hb] at bt
          refine ⟨_, rfl, _, _, rfl, rfl, q + 1, by omega, rfl, ?_, by omega, lt, by omega⟩
          rfl
    · have n10 : cb.toNat = 10 := by
        have := Bool.eq_false_iff.mpr c2
        simp only [Bool.not_eq_false', decide_eq_true_eq] at this
        omega
      have bt := blanks_t hcb
      have bf := blanks_f hcb
      rw [if_pos n10] at bt
      rw [if_pos (.inl n10)] at bf
      refine ⟨_, rfl, k1 q ?_ l2 (by omega)⟩
      refine Nat.lt_of_le_of_ne l1 fun z => ?_
      rw [← z, hc0] at hcb
      cases hcb
      omega
  · rw [nums_len] at c
    have ge : b.length ≤ q := by
      have : ¬ ((q : Int) < b.length) := fun z => c (decide_eq_true z)
      omega
    refine ⟨_, rfl, k1 q ?_ l2 (by rw [blanks_end ge] at e ⊢; exact e)⟩
    have := (List.getElem?_eq_some_iff.mp hc0).1
    omega
def spBlanks (K : PySem.W.Frag) (a : Ad) : Sp := fun vs H Q E => ∃ (t : Addr) (b : Bytes) (p : Nat), vs = [.ref t, .int p] ∧ SqL K H t (nums b) ∧ p ≤ b.length ∧ Q (.int (tkAt b p : Nat)) H ∧
  ∀ c, b[tkAt b p]? = some c → isByte c = false → Told K a E 1 (tkAt b p : Nat)
theorem sc_skip_blanks : FnScope ["t", "start", "place"] ["t", "start"] (defScope s_skip_blanks) := ⟨rfl, rfl, rfl, by decide +kernel, rfl, by decide +kernel, by decide +kernel⟩
theorem ok_skip_blanks (T : Tx P w K mg a) : FnOk P w K mg base (CXF P w) 5 a.f_skip_blanks a.d_skip_blanks ["t", "start"] (spBlanks K a) := by
  refine T.skip_blanks.fn.okx sc_skip_blanks (fun vs H Q E h => ?_) (fun cdv A outer s H vs Q E hr h => ?_)
  · obtain ⟨_, _, _, rfl, _⟩ := h; rfl
  obtain ⟨t, b, p, rfl, hS, hp, k1, k2⟩ := h
  refine ⟨_, pss_cons (ps_set (i := 2) sc_skip_blanks.nd rfl (Or.inl rfl) (pv 1)) (pss_cons (ps_while own_def (pt_cmpR op_lt (pv 2) (len_call T.b_len (pv 0)) (nomark _))
      (pss_one (ps_if (pt_cmpR op_eq (pe_ix ix_list (pv 0) (pv 2) (fun _ _ => rfl)) (pk_int T.k_HASH) (nomark _))
        (pss_one (ps_set (i := 2) sc_skip_blanks.nd rfl (Or.inl rfl) (callD T.skip_comment (ok_skip_comment T) hr passes_def (pa_cons (pv 0) (pa_cons (pv 2) pa_nil)))))
        (pss_one (ps_if (PW.pt (pw_or (pt_cmpR op_eq (pe_ix ix_list (pv 0) (pv 2) (fun _ _ => rfl)) (pk_int T.k_LINE_END) (nomark _)) (pw_or1 (pt_cmpR op_eq (pe_ix ix_list (pv 0) (pv 2) (fun _ _ => rfl)) (pk_int T.k_BLANK) (nomark _)))))
          (pss_one (ps_aug (i := 2) sc_skip_blanks.nd rfl (Or.inl rfl) pe_int ip_add)) (pss_one (ps_ret (pv 2))))))))
    (pss_one (ps_ret (pv 2)))), ?_⟩
  refine ⟨_, rfl, ?_⟩
  refine while_inv (fun (q : Nat) σ H' => H' = H ∧ σ = [some (.ref t), some (.int p), some (.int q)] ∧ q ≤ b.length ∧ q + blanks false (b.drop q) = tkAt b p) (fun q => b.length - q) p ⟨rfl, rfl, hp, rfl⟩ ?_
  rintro q σ H' ⟨rfl, rfl, l2, e⟩
  refine ⟨_, rfl, _, rfl, t, _, rfl, .inl hS, _, _, rfl, rfl, _, rfl, ?_⟩
  refine ite2 (fun c => ?_) (fun c => ?_)
  · rw [nums_len] at c
    have lt : q < b.length := by have := of_decide_eq_true c; omega
    obtain ⟨cb, hcb⟩ : ∃ c, b[q]? = some c := ⟨_, List.getElem?_eq_getElem lt⟩
    have bf := blanks_f hcb
    refine turn_mk ?_
    refine ⟨_, rfl, _, rfl, t, _, _, _, rfl, rfl, hS, nums_at hcb, rfl, _, rfl, ?_⟩
    rw [dec_v]
    refine ite2 (fun c2 => ?_) (fun c2 => ?_)
    · have h35 : cb.toNat = 35 := by have := of_decide_eq_true c2; omega
      rw [if_neg (by omega), if_pos h35] at bf
      have bt := blanks_t hcb
      rw [if_neg (by omega), if_pos ((isByte_iff cb).mpr (.inr ⟨by omega, by omega⟩))] at bt
      have eq : q + blanks true (b.drop q) = tkAt b p := by omega
      refine ⟨_, rfl, _, rfl, t, b, q, rfl, hS, ⟨cb, hcb, h35⟩, fun r r1 r2 r3 => ?_, fun c hc hb => ?_⟩
      · exact ⟨r, by omega, rfl, rfl, r2, by omega⟩
      · rw [eq] at hc ⊢
        exact k2 c hc hb
    · have h35 : cb.toNat ≠ 35 := fun z => c2 (decide_eq_true (by omega))
      refine ⟨_, rfl, _, rfl, t, _, _, _, rfl, rfl, hS, nums_at hcb, rfl, _, rfl, ?_⟩
      rw [dec_v]
      have go : (cb.toNat = 10 ∨ cb.toNat = 32) → q + 1 + blanks false (b.drop (q + 1)) = tkAt b p := fun z => by
        rw [if_pos z] at bf; omega
      refine ite2 (fun c3 => ?_) (fun c3 => ?_)
      · have z : cb.toNat = 10 := by have := of_decide_eq_true c3; omega
        refine ⟨_, rfl, _, _, rfl, rfl, q + 1, by omega, rfl, rfl, lt, go (.inl z)⟩
      · have n10 : cb.toNat ≠ 10 := fun z => c3 (decide_eq_true (by omega))
        refine ⟨_, rfl, _, rfl, t, _, _, _, rfl, rfl, hS, nums_at hcb, rfl, _, rfl, ?_⟩
        rw [dec_v]
        refine ite2 (fun c4 => ?_) (fun c4 => ?_)
        · have z : cb.toNat = 32 := by have := of_decide_eq_true c4; omega
          exact ⟨_, rfl, _, _, rfl, rfl, q + 1, by omega, rfl, rfl, lt, go (.inr z)⟩
        · have n32 : cb.toNat ≠ 32 := fun z => c4 (decide_eq_true (by omega))
          rw [if_neg (by omega), if_neg h35] at bf
          refine ⟨_, rfl, ?_⟩
          rw [show (q : Int) = (tkAt b p : Nat) by omega]
          exact k1
  · rw [nums_len] at c
    have ge : b.length ≤ q := by
      have : ¬ ((q : Int) < b.length) := fun z => c (decide_eq_true z)
      omega
    refine ⟨_, rfl, ?_⟩
    rw [blanks_end ge] at e
    rw [show (q : Int) = (tkAt b p : Nat) by omega]
    exact k1
end Wale
end
section
set_option Elab.async false
set_option linter.all false
set_option maxRecDepth 100000
set_option maxHeartbeats 2000000
namespace Wale
open PySem PySem.Spec PyProof.Rows L2
open Wm
open LsWale (blanks isByte isLetter isDigit isTail valueOf isNumber DIGITWORDS wordAt oneToken KEYWORDS PLAINS isName)
variable {P : Program} {w : World} {K : PySem.W.Frag} {mg : Str → Option Value} {base : Heap} {a : Ad}
def TokAt (C : Addr) (H : Hp) (x : Addr) (kd tx : Str) (n pl af : Int) : Prop := ∃ dx fs, H x = some (.ins C dx fs) ∧ fs.lookup ("kind" : Str) = some (.str kd) ∧ fs.lookup ("text" : Str) = some (.str tx) ∧ fs.lookup ("number" : Str) = some (.int n) ∧
  fs.lookup ("place" : Str) = some (.int pl) ∧ fs.lookup ("after" : Str) = some (.int af)
def spTokInit (C : Addr) : Sp := fun vs H Q _ => ∃ (x dx : Addr) (kd tx : Str) (n pl af : Int), vs = [.ref x, .str kd, .str tx, .int n, .int pl, .int af] ∧ H x = some (.ins C dx []) ∧
  ∀ H' : Hp, TokAt C H' x kd tx n pl af → (∀ b o, H b = some o → b ≠ x → H' b = some o) → Q .non H'
theorem sc_Token_init : FnScope ["self", "kind", "text", "number", "place", "after"] ["self", "kind", "text", "number", "place", "after"] (defScope s_Token_init) := ⟨rfl, rfl, rfl, by decide +kernel, rfl, by decide +kernel, by decide +kernel⟩
theorem put_len (f : Str) (v : V) (fs : List (Str × V)) (n : Nat) (h : fs.length ≤ n) : (putF f v fs).length ≤ n + 1 := Nat.le_trans (length_putF f v fs) (Nat.succ_le_succ h)
theorem look_eq {f : Str} {v : V} {fs : List (Str × V)} : (putF f v fs).lookup f = some v := by rw [lookup_putF, if_pos rfl]
theorem look_ne {f g : Str} {v : V} {fs : List (Str × V)} (h : g ≠ f) : (putF f v fs).lookup g = fs.lookup g := by rw [lookup_putF, if_neg h]
theorem ok_Token_init (T : Tx P w K mg a) : FnOk P w K mg base CX0 1 a.f_Token_init a.d_Token_init ["self", "kind", "text", "number", "place", "after"] (spTokInit a.c_Token) := by
  refine T.Token_init.1.ok sc_Token_init (fun vs H Q E h => ?_) (fun cdv A outer s H vs Q E hr h => ?_)
  · obtain ⟨_, _, _, _, _, _, _, rfl, _⟩ := h; rfl
  obtain ⟨x, dx, kd, tx, n, pl, af, rfl, hx, k⟩ := h
  refine ⟨_, pss_cons (ps_fld (pv 0) (pv 1) rfl) (pss_cons (ps_fld (pv 0) (pv 2) rfl) (pss_cons (ps_fld (pv 0) (pv 3) rfl) (pss_cons (ps_fld (pv 0) (pv 4) rfl) (pss_one (ps_fld (pv 0) (pv 5) rfl))))), ?_⟩
  have C := T.co_Token.cl
  refine ⟨_, rfl, _, rfl, x, _, dx, _, rfl, hx, C, T.na_Token_kind, (by show 0 < 1000; decide), ?_⟩
  have l1 := put_len "kind" (.str kd) [] 0 (Nat.le_refl _)
  have l2 := put_len "text" (.str tx) _ 1 l1
  have l3 := put_len "number" (.int n) _ 2 l2
  have l4 := put_len "place" (.int pl) _ 3 l3
  refine ⟨_, rfl, _, rfl, x, _, dx, _, rfl, upd_same, C, T.na_Token_text, (by omega), ?_⟩
  refine ⟨_, rfl, _, rfl, x, _, dx, _, rfl, upd_same, C, T.na_Token_number, (by omega), ?_⟩
  refine ⟨_, rfl, _, rfl, x, _, dx, _, rfl, upd_same, C, T.na_Token_place, (by omega), ?_⟩
  refine ⟨_, rfl, _, rfl, x, _, dx, _, rfl, upd_same, C, T.na_Token_after, (by omega), ?_⟩
  refine k _ ⟨dx, _, upd_same, ?_, ?_, ?_, ?_, ?_⟩ fun b o e hb => by rw [upd_ne hb, upd_ne hb, upd_ne hb, upd_ne hb, upd_ne hb]; exact e
  · rw [look_ne (by decide +kernel), look_ne (by decide +kernel), look_ne (by decide +kernel), look_ne (by decide +kernel), look_eq]
  · rw [look_ne (by decide +kernel), look_ne (by decide +kernel), look_ne (by decide +kernel), look_eq]
  · rw [look_ne (by decide +kernel), look_ne (by decide +kernel), look_eq]
  · rw [look_ne (by decide +kernel), look_eq]
  · rw [look_eq]
theorem pe_token {X : Cx} {e1 e2 e3 e4 e5 : Expr} {t1 t2 t3 t4 t5 : TE} {p pos : Pos} (T : Tx X.prog X.w X.K X.mg a) (hr : Room 2 X.A) (h1 : PE X e1 t1) (h2 : PE X e2 t2) (h3 : PE X e3 t3) (h4 : PE X e4 t4) (h5 : PE X e5 t5) (hg : Gl X "Token" := by rfl)
    (s1 : starEach [e1, e2, e3, e4, e5] X.env = [(false, eval e1 X.env), (false, eval e2 X.env), (false, eval e3 X.env), (false, eval e4 X.env), (false, eval e5 X.env)] := by rfl)
    (s2 : starEach [e2, e3, e4, e5] X.env = [(false, eval e2 X.env), (false, eval e3 X.env), (false, eval e4 X.env), (false, eval e5 X.env)] := by rfl) (s3 : starEach [e3, e4, e5] X.env = [(false, eval e3 X.env), (false, eval e4 X.env), (false, eval e5 X.env)] := by rfl)
    (s4 : starEach [e4, e5] X.env = [(false, eval e4 X.env), (false, eval e5 X.env)] := by rfl) (s5 : starEach [e5] X.env = [(false, eval e5 X.env)] := by rfl) :
    PE X (.Call (.Name "Token" p) [e1, e2, e3, e4, e5] [] pos) (tMake a.c_Token (spTokInit a.c_Token) [] E0 (tCons t1 (tCons t2 (tCons t3 (tCons t4 (tCons t5 tNil)))))) :=
  pe_make T.co_Token.mk_ (ok_Token_init T) hr hg T.co_Token.at_ T.Token_init.2 .nil pass0
    (pa_cons h1 (pa_cons h2 (pa_cons h3 (pa_cons h4 (pa_cons h5 pa_nil s5) (by rw [s4, s5])) (by rw [s3, s4])) (by rw [s2, s3])) (by rw [s1, s2])) (by decide) (by rw [s1, s2]) (by rw [s2]; rfl)
def Made (a : Ad) (H : Hp) (Q : VK) (kd tx : Str) (n pl af : Int) : Prop := ∀ (x : Addr) (H' : Hp), Same H H' → H x = none → TokAt a.c_Token H' x kd tx n pl af → Q (.ref x) H'
theorem made_of {H H1 : Hp} {Q : VK} {kd tx : Str} {n pl af : Int} (h : Made a H Q kd tx n pl af) (hs : Same H H1) : ∀ x dx, H1 x = none → H1 dx = none → dx ≠ x →
    spTokInit a.c_Token (.ref x :: ([.str kd, .str tx, .int n, .int pl, .int af] ++ [])) (upd (upd H1 dx (.own x)) x (.ins a.c_Token dx [])) (fun v H2 => v = .non ∧ Q (.ref x) H2) E0 :=
  fun x dx n1 n2 ne => ⟨x, dx, kd, tx, n, pl, af, rfl, upd_same, fun H' tk kp => ⟨rfl, h x H' (hs.trans (Same.made n1 n2 kp)) (hs.free n1) tk⟩⟩
end Wale
end
section
set_option Elab.async false
set_option linter.all false
set_option maxRecDepth 100000
set_option maxHeartbeats 2000000
namespace Wale
open PySem PySem.Spec PyProof.Rows L2
open Wm
open LsWale (blanks isByte isLetter isDigit isTail valueOf isNumber DIGITWORDS wordAt oneToken KEYWORDS PLAINS isName)
variable {P : Program} {w : World} {K : PySem.W.Frag} {mg : Str → Option Value} {base : Heap} {a : Ad}
theorem digit_u (c : UInt8) : digit (c.toNat : Int) = isDigit c := by
  rw [Bool.eq_iff_iff, isDigit_iff]
  simp only [digit, Bool.and_eq_true, decide_eq_true_eq]
  omega
theorem letter_u (c : UInt8) : letter (c.toNat : Int) = isLetter c := by
  rw [Bool.eq_iff_iff, isLetter_iff]
  simp only [letter, Bool.and_eq_true, decide_eq_true_eq]
  omega
theorem tail_u (c : UInt8) : tailB (c.toNat : Int) = tl1 c := by
  rw [Bool.eq_iff_iff]
  unfold tl1
  rw [Bool.or_eq_true, isTail_iff, isDigit_iff]
  simp only [tailB, letter, digit, Bool.or_eq_true, Bool.and_eq_true, decide_eq_true_eq]
  omega
def digs (b : Bytes) (p : Nat) : Bytes := (b.drop p).takeWhile isDigit
def spNum (K : PySem.W.Frag) (a : Ad) : Sp := fun vs H Q E => ∃ (t : Addr) (b : Bytes) (p : Nat), vs = [.ref t, .int p] ∧ SqL K H t (nums b) ∧ (∃ c, b[p]? = some c ∧ isDigit c = true) ∧
  (isNumber (digs b p) = true → Made a H Q "number" "" (valueOf (digs b p)) p (p + (digs b p).length : Nat)) ∧ (isNumber (digs b p) = false → Told K a E 2 p)
theorem sc_number_token : FnScope ["t", "place", "after", "number", "begun_with_zero"] ["t", "place"] (defScope s_number_token) := ⟨rfl, rfl, rfl, by decide +kernel, rfl, by decide +kernel, by decide +kernel⟩
theorem boot_min' : bootBuiltins "min" = some (.builtin "min") := by kernel_rfl
theorem isNumber_iff {b : Bytes} {p : Nat} {c : UInt8} (hc : b[p]? = some c) (hd : isDigit c = true) : isNumber (digs b p) = true ↔ ¬ (c.toNat = 48 ∧ 1 < (digs b p).length) ∧ valueOf (digs b p) ≤ 1048576 := by
  have h1 : (digs b p).head? = some c := by unfold digs; rw [drop_cons hc, List.takeWhile_cons, if_pos hd]; rfl
  have h2 : 1 ≤ (digs b p).length := by unfold digs; rw [drop_cons hc, List.takeWhile_cons, if_pos hd, List.length_cons]; omega
  unfold isNumber
  rw [h1, Bool.and_eq_true, Bool.or_eq_true, decide_eq_true_eq, beq_iff_eq, bne_iff_ne]
  have e : (some c ≠ some (48 : UInt8)) ↔ c.toNat ≠ 48 := by
    rw [Ne, Option.some_inj, ← UInt8.toNat_inj]; rfl
  rw [e]
  show (_ ∧ valueOf (digs b p) ≤ 1048576) ↔ _
  omega
theorem ok_number_token (T : Tx P w K mg a) : FnOk P w K mg base (CXF P w) 4 a.f_number_token a.d_number_token ["t", "place"] (spNum K a) := by
  refine T.number_token.fn.okx sc_number_token (fun vs H Q E h => ?_) (fun cdv A outer s H vs Q E hr h => ?_)
  · obtain ⟨_, _, _, rfl, _⟩ := h; rfl
  obtain ⟨t, b, p, rfl, hS, ⟨c0, hc0, hd0⟩, k1, k2⟩ := h
  have hr1 : Room 1 _ := hr.mono (by decide)
  refine ⟨_, pss_cons (ps_set (i := 2) sc_number_token.nd rfl (Or.inl rfl) (pv 1)) (pss_cons (ps_set (i := 3) sc_number_token.nd rfl (Or.inl rfl) pe_int) (pss_cons (ps_while own_def
      (PW.pt (pw_and (pt_cmpR op_lt (pv 2) (len_call T.b_len (pv 0)) (nomark _)) (pw_and1 (pt_val (callD T.is_digit (ok_is_digit T) hr1 pass0 (pa_cons (pe_ix ix_list (pv 0) (pv 2) (fun _ _ => rfl)) pa_nil))))))
      (pss_cons (ps_set (i := 3) sc_number_token.nd rfl (Or.inl rfl) (pe_callB (call_min2 rfl) rfl T.b_min boot_min' (pa_cons (pe_op op_sub (pe_op op_add (pe_op op_mul (pv 3) pe_int) (pe_ix ix_list (pv 0) (pv 2) (fun _ _ => rfl))) (pk_int T.k_ZERO)) (pa_cons (pe_op op_add (pk_int T.k_LARGEST_NUMBER) pe_int) pa_nil))))
        (pss_one (ps_aug (i := 2) sc_number_token.nd rfl (Or.inl rfl) pe_int ip_add))))
    (pss_cons (ps_set (i := 4) sc_number_token.nd rfl (Or.inl rfl) (pe_and (pe_cmpR op_eq (pe_ix ix_list (pv 0) (pv 1) (fun _ _ => rfl)) (pk_int T.k_ZERO) (nomark _)) (pe_one (pe_cmpR op_gt (pv 2) (pe_op op_add (pv 1) pe_int) (nomark _)))))
    (pss_cons (ps_if (PW.pt (pw_or (pt_val (pv 4)) (pw_or1 (pt_cmpR op_gt (pv 3) (pk_int T.k_LARGEST_NUMBER) (nomark _)))))
        (pss_one (ps_fault rfl raises_def T.cx_NumberFault (ok_NumberFault_init T) T.NumberFault_init.2 (hr.mono (by decide)) (pv 1))) pss_nil)
    (pss_one (ps_ret (pe_token T (hr.mono (by decide)) (pk_str T.k_NUMBER) pe_str (pv 3) (pv 1) (pv 2)))))))), ?_⟩
  refine ⟨_, rfl, ?_⟩
  refine while_inv (fun (i : Nat) σ H' => H' = H ∧ σ = [some (.ref t), some (.int p), some (.int (p + i : Nat)), some (.int (min (valueOf ((b.drop p).take i)) 1048577 : Nat)), none] ∧ p + i ≤ b.length ∧ i + run isDigit b (p + i) = run isDigit b p)
    (fun i => b.length - i) 0 ⟨rfl, rfl, Nat.le_of_lt (List.getElem?_eq_some_iff.mp hc0).1, by simp⟩ ?_
  rintro i σ H' ⟨rfl, rfl, l2, e⟩
  -- behind the loop
  have fin : i = run isDigit b p → tSeq (tAsg (tAndV (tOp rEq (tOp (rIxL K) (tVar 0) (tVar 1)) (tC (.int 48))) (tOp (rI0 fun i j => .bl (decide (j < i))) (tVar 2) (tOp (rI0 fun i j => .int (i + j)) (tVar 1) (tC (.int 1))))) (gName 4))
      (tSeq (tIfS (tOr (tB (tVar 4)) (tTest (tOp (rI0 fun i j => .bl (decide (j < i))) (tVar 3) (tC (.int 1048576))))) (tFault s.heap.objs.size K a.c_NumberFault E 2 (tVar 1)) tNext)
        (tRet (tMake a.c_Token (spTokInit a.c_Token) [] E0 (tCons (tC (.str "number")) (tCons (tC (.str "")) (tCons (tVar 3) (tCons (tVar 1) (tCons (tVar 2) tNil)))))))) { nx := fun x H' => Q .non H', rt := Q }
      [some (.ref t), some (.int p), some (.int (p + i : Nat)), some (.int (min (valueOf ((b.drop p).take i)) 1048577 : Nat)), none] H' := fun hi => by
    have hds : (b.drop p).take i = digs b p := by rw [hi]; exact take_run isDigit _
    have hlen : (digs b p).length = i := hi.symm
    rw [hds]
    have hnum := isNumber_iff hc0 hd0
    refine ⟨_, rfl, _, rfl, t, _, _, _, rfl, rfl, hS, nums_at hc0, rfl, _, rfl, ?_⟩
    rw [dec_v]
    -- the two ways end alike
    have done : ∀ z : Bool, (z = true ↔ (c0.toNat = 48 ∧ 1 < i)) → tSeq (tIfS (tOr (tB (tVar 4)) (tTest (tOp (rI0 fun i j => .bl (decide (j < i))) (tVar 3) (tC (.int 1048576))))) (tFault s.heap.objs.size K a.c_NumberFault E 2 (tVar 1)) tNext)
        (tRet (tMake a.c_Token (spTokInit a.c_Token) [] E0 (tCons (tC (.str "number")) (tCons (tC (.str "")) (tCons (tVar 3) (tCons (tVar 1) (tCons (tVar 2) tNil))))))) { nx := fun x H' => Q .non H', rt := Q }
        [some (.ref t), some (.int p), some (.int (p + i : Nat)), some (.int (min (valueOf (digs b p)) 1048577 : Nat)), some (.bl z)] H' := fun z hz => by
      refine ⟨_, rfl, _, rfl, ?_⟩
      refine ite2 (fun c => ?_) (fun c => ?_)
      · refine ⟨_, rfl, flt_ok T.cx_NumberFault (k2 (Bool.eq_false_iff.mpr fun y => ?_))⟩
        rw [hnum, hlen] at y
        exact y.1 (hz.mp c)
      · refine ⟨_, rfl, _, _, rfl, rfl, _, rfl, ?_⟩
        refine ite2 (fun c2 => ?_) (fun c2 => ?_)
        · refine ⟨_, rfl, flt_ok T.cx_NumberFault (k2 (Bool.eq_false_iff.mpr fun y => ?_))⟩
          rw [hnum] at y
          have := of_decide_eq_true c2
          omega
        · have h2 : ¬ ((1048576 : Int) < (min (valueOf (digs b p)) 1048577 : Nat)) := fun y => c2 (decide_eq_true y)
          have hv : valueOf (digs b p) ≤ 1048576 := by omega
          have hm : min (valueOf (digs b p)) 1048577 = valueOf (digs b p) := by omega
          rw [hm]
          refine ⟨_, rfl, _, rfl, _, rfl, ?_⟩
          have km := k1 (hnum.mpr ⟨fun y => c (hz.mpr (by rw [hlen] at y; exact y)), hv⟩)
          rw [hlen] at km
          exact made_of km (Same.refl _)
    refine ite2 (fun c => ?_) (fun c => ?_)
    · refine ⟨_, rfl, _, rfl, _, _, rfl, rfl, _, _, rfl, rfl, ?_⟩
      refine done _ ?_
      have := of_decide_eq_true c
      rw [decide_eq_true_eq]
      omega
    · refine done _ ?_
      have : ¬ ((c0.toNat : Int) = 48) := fun z => c (decide_eq_true z)
      simp
      omega
  refine ⟨_, rfl, _, rfl, t, _, rfl, .inl hS, _, _, rfl, rfl, _, rfl, ?_⟩
  refine ite2 (fun c => ?_) (fun c => ?_)
  · rw [nums_len] at c
    have lt : p + i < b.length := by have := of_decide_eq_true c; omega
    obtain ⟨cb, hcb⟩ : ∃ c, b[p + i]? = some c := ⟨_, List.getElem?_eq_getElem lt⟩
    have rc := run_cons (f := isDigit) hcb
    refine ⟨_, rfl, _, rfl, t, _, _, _, rfl, rfl, hS, nums_at hcb, _, rfl, _, rfl, ?_⟩
    rw [digit_u]
    refine ite2 (fun c2 => ?_) (fun c2 => ?_)
    · rw [if_pos c2] at rc
      refine turn_mk ?_
      refine ⟨_, rfl, _, _, rfl, rfl, .inl ⟨by omega, by omega⟩, _, rfl, _, rfl, t, _, _, _, rfl, rfl, hS, nums_at hcb, _, _, rfl, rfl, _, _, rfl, rfl, _, _, rfl, rfl, _, _, rfl, ?_⟩
      refine ⟨_, rfl, _, _, rfl, rfl, i + 1, by omega, rfl, ?_, by omega, by rw [← Nat.add_assoc]; omega⟩
      have h48 := (isDigit_iff cb).mp c2
      have hdr : (b.drop p)[i]? = some cb := by rw [List.getElem?_drop]; exact hcb
      rw [take_snoc hdr, value_snoc]
      have cs := cap_step (valueOf ((b.drop p).take i)) (cb.toNat - 48)
      have e1 : (if (1048576 : Int) + 1 < (min (valueOf ((b.drop p).take i)) 1048577 : Nat) * 10 + (cb.toNat : Int) - 48 then (1048576 : Int) + 1 else (min (valueOf ((b.drop p).take i)) 1048577 : Nat) * 10 + (cb.toNat : Int) - 48) =
          ((min (10 * valueOf ((b.drop p).take i) + (cb.toNat - 48)) 1048577 : Nat) : Int) := by
        rw [← cs]
        split <;> omega
      have e2 : ((p + i : Nat) : Int) + 1 = ((p + (i + 1) : Nat) : Int) := by omega
      show [some (V.ref t), some (V.int p), some (V.int (((p + i : Nat) : Int) + 1)), _, none] = _
      rw [e2]
      exact congrArg (fun z => [some (V.ref t), some (V.int p), some (V.int ((p + (i + 1) : Nat) : Int)), some (V.int z), none]) e1
    · rw [if_neg c2] at rc
      exact fin (by omega)
  · rw [nums_len] at c
    have ge : b.length ≤ p + i := by
      have : ¬ (((p + i : Nat) : Int) < b.length) := fun z => c (decide_eq_true z)
      omega
    have rc := run_end (f := isDigit) ge
    exact fin (by omega)
end Wale
end
section
set_option Elab.async false
set_option linter.all false
set_option maxRecDepth 100000
set_option maxHeartbeats 2000000
namespace Wale
open PySem PySem.Spec PyProof.Rows L2
open Wm
open LsWale (blanks isByte isLetter isDigit isTail valueOf isNumber DIGITWORDS wordAt oneToken KEYWORDS PLAINS isName)
variable {P : Program} {w : World} {K : PySem.W.Frag} {mg : Str → Option Value} {base : Heap} {a : Ad}
theorem u8_map_inj : ∀ {x y : Bytes}, x.map UInt8.toNat = y.map UInt8.toNat → x = y
  | [], [], _ => rfl
  | [], _ :: _, h => by cases h
  | _ :: _, [], h => by cases h
  | c :: r, d :: s, h => by
    rw [List.map_cons, List.map_cons] at h
    obtain ⟨h1, h2⟩ := List.cons.inj h
    rw [UInt8.toNat_inj.mp h1, u8_map_inj h2]
theorem strOf_inj {x y : Bytes} (h : strOf x = strOf y) : x = y := by
  unfold strOf at h
  have h1 := congrArg (fun z : Str => z.cps.toList) h
  exact u8_map_inj h1
theorem strOf_len (x : Bytes) : (strOf x).length = x.length := by
  show ((x.map UInt8.toNat).toArray).size = _
  rw [List.size_toArray, List.length_map]
theorem in_strs (x : Bytes) (l : List Bytes) : inV (.str (strOf x)) ((l.map strOf).map V.str) = l.contains x := by
  unfold inV
  induction l with
  | nil => rfl
  | cons y r ih =>
    rw [List.map_cons, List.map_cons, List.any_cons, ih, List.contains_cons]
    congr 1
    show decide (strOf y = strOf x) = (x == y)
    rw [Bool.eq_iff_iff, decide_eq_true_eq, beq_iff_eq]
    exact ⟨fun h => (strOf_inj h).symm, fun h => by rw [h]⟩
theorem flat_strs : ∀ (l : List Str), (l.map V.str).all flatV = true
  | [] => rfl
  | _ :: r => by rw [List.map_cons, List.all_cons, flat_strs r]; rfl
def rInS (l : List Str) (d : Addr) : R2 := fun x y H Q => y = .ref d ∧ ∃ z, x = .str z ∧ Q (.bl (inV (.str z) (l.map V.str))) H
theorem op_inS {X : Cx} {x : Str} {l : List Str} {d : Addr} (h : StrTup X.K X.mg x l d) : OpR X (compareOp .In) (rInS l d) := by
  intro pins s σ H x y u v Q I rx ry ⟨e1, z, e2, q⟩
  exact op_in_seq pins s σ H x y u v Q I rx ry ⟨d, l.map V.str, e1, .inr (h.2 H), by rw [e2]; rfl, flat_strs l, by rw [e2]; exact q⟩
theorem pt_inS {X : Cx} {e : Expr} {te : TE} {x : Str} {l : List Str} {d : Addr} {p pos : Pos} (h : StrTup X.K X.mg x l d) (he : PE X e te) (hg : Gl X x := by rfl) (hd : (x == ("__debug__" : Str)) = false := by decide) (hm : behindInMarks .In (.Name x p) = false := by with_unfolding_all rfl) :
    PT X (.Compare e [.In] [.Name x p] pos) (tTest (tOp (rInS l d) te (tC (.ref d)))) := pt_cmpR (op_inS h) he (pe_glob hg h.1 (show RelV (.ref d) (.ref d) from rfl) hd) hm
theorem plain_eq : (["k", "p", "ktbl", "ptbl", "yo", "k2tog", "k3tog", "ssk", "sssk", "p2tog", "ssp", "cdd", "kfb", "pfb", "kp", "m1l", "m1r", "sl", "slf", "pso", "even", "co", "bo"] : List Str) = PLAINS.map strOf := by decide +kernel
theorem other_eq : (["pattern", "sizes", "yarns", "let", "word", "block", "on", "round", "row", "rs", "ws", "repeat", "until", "work", "off", "to", "end", "last", "mark", "cl", "cr", "hold", "take", "yarn", "pass", "clear", "turn", "fasten"] : List Str) =
    (KEYWORDS.take 28).map strOf := by decide +kernel
theorem dws_eq : (["k2tog", "k3tog", "p2tog", "m1l", "m1r"] : List Str) = DIGITWORDS.map strOf := by decide +kernel
theorem keywords_split : KEYWORDS = KEYWORDS.take 28 ++ PLAINS := by decide +kernel
theorem key_or (x : Bytes) : (PLAINS.contains x || (KEYWORDS.take 28).contains x) = KEYWORDS.contains x := by
  conv => rhs; rw [keywords_split]
  rw [Bool.eq_iff_iff]
  simp only [Bool.or_eq_true, List.contains_iff_mem, List.mem_append]
  exact ⟨fun h => h.symm, fun h => h.symm⟩
theorem dw_key : ∀ x ∈ DIGITWORDS, KEYWORDS.contains x = true := by decide +kernel
theorem str_empty : strOf [] = ("" : Str) := by decide +kernel
def spDW (K : PySem.W.Frag) : Sp := fun vs H Q _ => ∃ (t : Addr) (b : Bytes) (p : Nat), vs = [.ref t, .int p] ∧ SqL K H t (nums b) ∧ p ≤ b.length ∧ b.length ≤ 20000 ∧
  ∀ H', Same H H' → Q (.str (if dwAt (b.drop p) ∈ DIGITWORDS then strOf (dwAt (b.drop p)) else "")) H'
theorem sc_digit_word_at : FnScope ["t", "place", "after", "text"] ["t", "place"] (defScope s_digit_word_at) := ⟨rfl, rfl, rfl, by decide +kernel, rfl, by decide +kernel, by decide +kernel⟩
theorem cut_nums {b : Bytes} {p q : Nat} (h1 : p ≤ q) (h2 : q ≤ b.length) : cutV (nums b) (some (p : Int)) (some (q : Int)) = nums ((b.drop p).take (q - p)) := by
  unfold cutV
  rw [nums_len, HT.sIx_nat, HT.sIx_nat, show min p b.length = p by omega, show min q b.length = q by omega]
  unfold nums
  rw [List.map_take, List.map_drop]
theorem ok_digit_word_at (T : Tx P w K mg a) : FnOk P w K mg base CX0 4 a.f_digit_word_at a.d_digit_word_at ["t", "place"] (spDW K) := by
  refine T.digit_word_at.fn.ok sc_digit_word_at (fun vs H Q E h => ?_) (fun cdv A outer s H vs Q E hr h => ?_)
  · obtain ⟨_, _, _, rfl, _⟩ := h; rfl
  obtain ⟨t, b, p, rfl, hS, hp, hl, k⟩ := h
  refine ⟨_, pss_cons (ps_set (i := 2) sc_digit_word_at.nd rfl (Or.inl rfl) (pv 1)) (pss_cons (ps_while PassesOwn.never
      (PW.pt (pw_and (pt_cmpR op_lt (pv 2) (len_call T.b_len (pv 0)) (nomark _)) (pw_and (pt_cmpR op_le (pv 2) (pe_op op_add (pv 1) (pk_int T.k_LONGEST_DIGIT_WORD)) (nomark _))
        (pw_and1 (pt_val (callD T.is_letter_digit_or_underscore (ok_ildu T) (hr.mono (by decide)) pass0 (pa_cons (pe_ix ix_list (pv 0) (pv 2) (fun _ _ => rfl)) pa_nil)))))))
      (pss_one (ps_aug (i := 2) sc_digit_word_at.nd rfl (Or.inl rfl) pe_int ip_add)))
    (pss_cons (ps_set (i := 3) sc_digit_word_at.nd rfl (Or.inl rfl) (callD T.spelled (ok_spelled T) hr pass0 (pa_cons (pe_slice sl_list (pv 0) (po_some (pv 1)) (po_some (pv 2))) pa_nil)))
    (pss_one (ps_ret (pe_ifExp (pt_inS T.k_DIGIT_WORDS (pv 3)) (pv 3) pe_str))))), ?_⟩
  refine ⟨_, rfl, ?_⟩
  refine while_inv (fun (i : Nat) σ H' => H' = H ∧ σ = [some (.ref t), some (.int p), some (.int (p + i : Nat)), none] ∧ p + i ≤ b.length ∧ i ≤ 6 ∧ i + run tl1 b (p + i) = run tl1 b p) (fun i => b.length - i) 0 ⟨rfl, rfl, hp, by omega, by simp⟩ ?_
  rintro i σ H' ⟨rfl, rfl, l2, l6, e⟩
  have fin : i = min 6 (run tl1 b p) → tSeq (tAsg (tCall (spSpell K) [] E0 (tCons (tSl (rSlL K) (tVar 0) (tPart (tVar 1)) (tPart (tVar 2))) tNil)) (gName 3))
      (tRet (tIf (tTest (tOp (rInS ["k2tog", "k3tog", "p2tog", "m1l", "m1r"] a.t_DIGIT_WORDS) (tVar 3) (tC (.ref a.t_DIGIT_WORDS)))) (tVar 3) (tC (.str "")))) { nx := fun x H' => Q .non H', rt := Q }
      [some (.ref t), some (.int p), some (.int (p + i : Nat)), none] H' := fun hi => by
    have ei : (b.drop p).take i = dwAt (b.drop p) := by
      unfold dwAt
      rw [hi, ← take_run tl1 (b.drop p), List.take_take]
      congr 1
    refine ⟨_, rfl, _, rfl, _, rfl, _, rfl, _, rfl, t, _, rfl, hS, fun q hq => ?_⟩
    have sq : Same H' (upd H' q (.lst (cutV (nums b) (some (p : Int)) (some ((p + i : Nat) : Int))))) := fun x o e => by rw [upd_ne (ne_of_none e hq)]; exact e
    refine ⟨q, dwAt (b.drop p), rfl, SqL.of ?_, fun c hc => ?_, ?_, fun H2 s2 => ?_⟩
    · rw [upd_same, cut_nums (by omega) l2, Nat.add_sub_cancel_left, ei]
    · rw [tail_u]
      exact run_all c (List.mem_of_mem_take hc)
    · unfold dwAt
      rw [List.length_take]; omega
    · refine ⟨_, rfl, rfl, _, rfl, _, rfl, ?_⟩
      rw [dws_eq, in_strs]
      have kk := k H2 (sq.trans s2)
      refine ite2 (fun c => ?_) (fun c => ?_)
      · rw [if_pos (List.contains_iff_mem.mp c)] at kk
        exact ⟨_, rfl, kk⟩
      · rw [if_neg (fun z => c (List.contains_iff_mem.mpr z))] at kk
        exact kk
  refine ⟨_, rfl, _, rfl, t, _, rfl, .inl hS, _, _, rfl, rfl, _, rfl, ?_⟩
  refine ite2 (fun c => ?_) (fun c => ?_)
  · rw [nums_len] at c
    have lt : p + i < b.length := by have := of_decide_eq_true c; omega
    obtain ⟨cb, hcb⟩ : ∃ c, b[p + i]? = some c := ⟨_, List.getElem?_eq_getElem lt⟩
    have rc := run_cons (f := tl1) hcb
    refine ⟨_, rfl, _, rfl, _, _, rfl, rfl, _, _, rfl, rfl, _, rfl, ?_⟩
    refine ite2 (fun c2 => ?_) (fun c2 => ?_)
    · have l5 : i ≤ 5 := by have := of_decide_eq_true c2; omega
      refine ⟨_, rfl, _, rfl, t, _, _, _, rfl, rfl, hS, nums_at hcb, _, rfl, _, rfl, ?_⟩
      rw [tail_u]
      refine ite2 (fun c3 => ?_) (fun c3 => ?_)
      · rw [if_pos c3] at rc
        refine turn_mk ?_
        refine ⟨_, rfl, _, _, rfl, rfl, i + 1, by omega, rfl, ?_, by omega, by omega, by rw [← Nat.add_assoc]; omega⟩
        have e2 : ((p + i : Nat) : Int) + 1 = ((p + (i + 1) : Nat) : Int) := by omega
        exact congrArg (fun z => [some (V.ref t), some (V.int p), some (V.int z), none]) e2
      · rw [if_neg c3] at rc
        exact fin (by omega)
    · have l5 : ¬ (((p + i : Nat) : Int) ≤ p + 5) := fun z => c2 (decide_eq_true z)
      have l1 : 1 ≤ run tl1 b (p + i) ∨ run tl1 b (p + i) = 0 := by omega
      exact fin (by omega)
  · rw [nums_len] at c
    have ge : b.length ≤ p + i := by
      have : ¬ (((p + i : Nat) : Int) < b.length) := fun z => c (decide_eq_true z)
      omega
    have rc := run_end (f := tl1) ge
    exact fin (by omega)
end Wale
end
section
set_option Elab.async false
set_option linter.all false
set_option maxRecDepth 100000
set_option maxHeartbeats 2000000
namespace Wale
open PySem PySem.Spec PyProof.Rows L2
open Wm
open LsWale (blanks isByte isLetter isDigit isTail valueOf isNumber DIGITWORDS wordAt oneToken KEYWORDS PLAINS isName)
variable {P : Program} {w : World} {K : PySem.W.Frag} {mg : Str → Option Value} {base : Heap} {a : Ad}
def kdWord (x : Bytes) : Str := if isName x = true then "name" else "fixed"
def spWord (K : PySem.W.Frag) (a : Ad) : Sp := fun vs H Q _ => ∃ (t : Addr) (b : Bytes) (p : Nat), vs = [.ref t, .int p] ∧ SqL K H t (nums b) ∧ (∃ c, b[p]? = some c ∧ isLetter c = true) ∧ b.length ≤ 20000 ∧
  Made a H Q (kdWord (wordAt (b.drop p))) (strOf (wordAt (b.drop p))) 0 p (p + (wordAt (b.drop p)).length : Nat)
theorem sc_word_token : FnScope ["t", "place", "digit_word", "after", "text"] ["t", "place"] (defScope s_word_token) := ⟨rfl, rfl, rfl, by decide +kernel, rfl, by decide +kernel, by decide +kernel⟩
theorem dec_s {x y : Str} : decide (V.str x = V.str y) = decide (x = y) := by by_cases h : x = y <;> simp [h]
theorem made_same {H H1 : Hp} {Q : VK} {kd tx : Str} {n pl af : Int} (h : Made a H Q kd tx n pl af) (hs : Same H H1) : Made a H1 Q kd tx n pl af := fun x H' s1 n1 tk => h x H' (hs.trans s1) (hs.free n1) tk
theorem len_str {X : Cx} {e : Expr} {te : TE} {p pos : Pos} (hm : X.mg "len" = none) (he : PE X e te) (hg : Gl X "len" := by rfl) (hst : starEach [e] X.env = [(false, eval e X.env)] := by rfl) :
    PE X (.Call (.Name "len" p) [e] [] pos) (tCB (fun xs H Q => ∃ z, xs = [.str z] ∧ z.length ≤ sizeLine ∧ Q (.int z.length) H) (tCons te tNil)) :=
  pe_callB call_len_str hg hm PySem.boot_len (pa_cons he pa_nil hst) (by decide) (by decide) hst rfl
theorem letter_tail (c : UInt8) : (letter (c.toNat : Int) || decide ((c.toNat : Int) = 95)) = isTail c := by
  rw [letter_u, Bool.eq_iff_iff, Bool.or_eq_true, isTail_iff, isLetter_iff, decide_eq_true_eq]
  omega
theorem ok_word_token (T : Tx P w K mg a) : FnOk P w K mg base CX0 5 a.f_word_token a.d_word_token ["t", "place"] (spWord K a) := by
  refine T.word_token.fn.ok sc_word_token (fun vs H Q E h => ?_) (fun cdv A outer s H vs Q E hr h => ?_)
  · obtain ⟨_, _, _, rfl, _⟩ := h; rfl
  obtain ⟨t, b, p, rfl, hS, ⟨c0, hc0, hl0⟩, hl, k⟩ := h
  have hp : p < b.length := (List.getElem?_eq_some_iff.mp hc0).1
  have hr1 : Room 1 _ := hr.mono (by decide)
  refine ⟨_, pss_cons (ps_set (i := 2) sc_word_token.nd rfl (Or.inl rfl) (callD T.digit_word_at (ok_digit_word_at T) hr pass0 (pa_cons (pv 0) (pa_cons (pv 1) pa_nil))))
    (pss_cons (ps_if (pt_cmpR op_ne (pv 2) pe_str (nomark _)) (pss_one (ps_ret (pe_token T (hr.mono (by decide)) (pk_str T.k_FIXED) (pv 2) pe_int (pv 1) (pe_op op_add (pv 1) (len_str T.b_len (pv 2)))))) pss_nil)
    (pss_cons (ps_set (i := 3) sc_word_token.nd rfl (Or.inl rfl) (pv 1))
    (pss_cons (ps_while PassesOwn.never (PW.pt (pw_and (pt_cmpR op_lt (pv 3) (len_call T.b_len (pv 0)) (nomark _))
        (pw_and1 (PW.pt (pw_or (pt_val (callD T.is_letter (ok_is_letter T) hr1 pass0 (pa_cons (pe_ix ix_list (pv 0) (pv 3) (fun _ _ => rfl)) pa_nil))) (pw_or1 (pt_cmpR op_eq (pe_ix ix_list (pv 0) (pv 3) (fun _ _ => rfl)) (pk_int T.k_UNDERSCORE) (nomark _))))))))
      (pss_one (ps_aug (i := 3) sc_word_token.nd rfl (Or.inl rfl) pe_int ip_add)))
    (pss_cons (ps_set (i := 4) sc_word_token.nd rfl (Or.inl rfl) (callD T.spelled (ok_spelled T) (hr.mono (by decide)) pass0 (pa_cons (pe_slice sl_list (pv 0) (po_some (pv 1)) (po_some (pv 3))) pa_nil)))
    (pss_cons (ps_if (PW.pt (pw_or (pt_inS T.k_PLAIN (pv 4)) (pw_or1 (pt_inS T.k_OTHER_WORDS (pv 4))))) (pss_one (ps_ret (pe_token T (hr.mono (by decide)) (pk_str T.k_FIXED) (pv 4) pe_int (pv 1) (pv 3)))) pss_nil)
    (pss_one (ps_ret (pe_token T (hr.mono (by decide)) (pk_str T.k_NAME) (pv 4) pe_int (pv 1) (pv 3))))))))), ?_⟩
  refine ⟨_, rfl, _, rfl, t, b, p, rfl, hS, Nat.le_of_lt hp, hl, fun H1 s1 => ?_⟩
  have k1 := made_same k s1
  have hS1 := s1.seq hS
  refine ⟨_, rfl, rfl, _, rfl, ?_⟩
  rw [dec_s]
  have dc := drop_cons hc0
  by_cases hd : dwAt (b.drop p) ∈ DIGITWORDS
  · rw [if_pos hd]
    have hw := wordAt_digit hd
    rw [hw] at k1
    have ne : ¬ strOf (dwAt (b.drop p)) = "" := fun z => by
      rw [← str_empty] at z
      have z1 := strOf_inj z
      have := (dw_all _ hd).2.2
      rw [z1] at this
      simp at this
    refine ite2 (fun c => ?_) (fun c => ?_)
    · have kf : kdWord (dwAt (b.drop p)) = "fixed" := by
        unfold kdWord isName
        rw [dw_key _ hd]; rfl
      rw [kf] at k1
      have l5 := (dw_all _ hd).2.1
      refine ⟨_, rfl, _, rfl, _, rfl, _, rfl, _, rfl, by rw [strOf_len, sizeLine_eq]; omega, _, _, rfl, rfl, ?_⟩
      rw [show ((p + (dwAt (b.drop p)).length : Nat) : Int) = (p : Int) + ((strOf (dwAt (b.drop p))).length : Nat) by rw [strOf_len]; omega] at k1
      exact made_of k1 (Same.refl _)
    · exact absurd (by simpa using c) ne
  rw [if_neg hd]
  refine ite2 (fun c => absurd c (by decide)) (fun c => ?_)
  have hw : wordAt (b.drop p) = (b.drop p).takeWhile isTail := by
    rw [dc] at hd ⊢
    exact wordAt_plain hd hl0
  rw [hw] at k1
  refine ⟨_, rfl, ?_⟩
  refine while_inv (fun (i : Nat) σ H' => H' = H1 ∧ σ = [some (.ref t), some (.int p), some (.str ""), some (.int (p + i : Nat)), none] ∧ p + i ≤ b.length ∧ i + run isTail b (p + i) = run isTail b p) (fun i => b.length - i) 0
    ⟨rfl, rfl, Nat.le_of_lt hp, by simp⟩ ?_
  rintro i σ H' ⟨rfl, rfl, l2, e⟩
  have fin : i = run isTail b p → tSeq (tAsg (tCall (spSpell K) [] E0 (tCons (tSl (rSlL K) (tVar 0) (tPart (tVar 1)) (tPart (tVar 3))) tNil)) (gName 4))
      (tSeq (tIfS (tOr (tTest (tOp (rInS ["k", "p", "ktbl", "ptbl", "yo", "k2tog", "k3tog", "ssk", "sssk", "p2tog", "ssp", "cdd", "kfb", "pfb", "kp", "m1l", "m1r", "sl", "slf", "pso", "even", "co", "bo"] a.t_PLAIN) (tVar 4) (tC (.ref a.t_PLAIN))))
          (tTest (tOp (rInS ["pattern", "sizes", "yarns", "let", "word", "block", "on", "round", "row", "rs", "ws", "repeat", "until", "work", "off", "to", "end", "last", "mark", "cl", "cr", "hold", "take", "yarn", "pass", "clear", "turn", "fasten"] a.t_OTHER_WORDS) (tVar 4) (tC (.ref a.t_OTHER_WORDS)))))
        (tRet (tMake a.c_Token (spTokInit a.c_Token) [] E0 (tCons (tC (.str "fixed")) (tCons (tVar 4) (tCons (tC (.int 0)) (tCons (tVar 1) (tCons (tVar 3) tNil))))))) tNext)
        (tRet (tMake a.c_Token (spTokInit a.c_Token) [] E0 (tCons (tC (.str "name")) (tCons (tVar 4) (tCons (tC (.int 0)) (tCons (tVar 1) (tCons (tVar 3) tNil)))))))) { nx := fun x H' => Q .non H', rt := Q }
      [some (.ref t), some (.int p), some (.str ""), some (.int (p + i : Nat)), none] H' := fun hi => by
    have ei : (b.drop p).take i = (b.drop p).takeWhile isTail := by rw [hi]; exact take_run isTail _
    have ln : ((b.drop p).takeWhile isTail).length = i := hi.symm
    refine ⟨_, rfl, _, rfl, _, rfl, _, rfl, _, rfl, t, _, rfl, hS1, fun q hq => ?_⟩
    have sq : Same H' (upd H' q (.lst (cutV (nums b) (some (p : Int)) (some ((p + i : Nat) : Int))))) := fun x o e => by rw [upd_ne (ne_of_none e hq)]; exact e
    refine ⟨q, (b.drop p).takeWhile isTail, rfl, SqL.of ?_, fun c hc => ?_, ?_, fun H2 s2 => ?_⟩
    · rw [upd_same, cut_nums (by omega) l2, Nat.add_sub_cancel_left, ei]
    · rw [tail_u]
      unfold tl1
      rw [run_all c hc]; rfl
    · rw [ln]; omega
    · have k2 := made_same k1 (sq.trans s2)
      rw [ln] at k2
      refine ⟨_, rfl, rfl, _, rfl, _, rfl, ?_⟩
      rw [plain_eq, in_strs]
      have ko := key_or ((b.drop p).takeWhile isTail)
      refine ite2 (fun c => ?_) (fun c => ?_)
      · rw [c, Bool.true_or] at ko
        have kf : kdWord ((b.drop p).takeWhile isTail) = "fixed" := by unfold kdWord isName; rw [← ko]; rfl
        rw [kf] at k2
        exact ⟨_, rfl, _, rfl, _, rfl, made_of k2 (Same.refl _)⟩
      · rw [Bool.eq_false_iff.mpr c, Bool.false_or] at ko
        refine ⟨_, rfl, rfl, _, rfl, _, rfl, ?_⟩
        rw [other_eq, in_strs]
        refine ite2 (fun c2 => ?_) (fun c2 => ?_)
        · rw [c2] at ko
          have kf : kdWord ((b.drop p).takeWhile isTail) = "fixed" := by unfold kdWord isName; rw [← ko]; rfl
          rw [kf] at k2
          exact ⟨_, rfl, _, rfl, _, rfl, made_of k2 (Same.refl _)⟩
        · rw [Bool.eq_false_iff.mpr c2] at ko
          have kf : kdWord ((b.drop p).takeWhile isTail) = "name" := by unfold kdWord isName; rw [← ko]; rfl
          rw [kf] at k2
          exact ⟨_, rfl, _, rfl, _, rfl, made_of k2 (Same.refl _)⟩
  refine ⟨_, rfl, _, rfl, t, _, rfl, .inl hS1, _, _, rfl, rfl, _, rfl, ?_⟩
  refine ite2 (fun c => ?_) (fun c => ?_)
  · rw [nums_len] at c
    have lt : p + i < b.length := by have := of_decide_eq_true c; omega
    obtain ⟨cb, hcb⟩ : ∃ c, b[p + i]? = some c := ⟨_, List.getElem?_eq_getElem lt⟩
    have rc := run_cons (f := isTail) hcb
    have lt2 := letter_tail cb
    have nxt : isTail cb = true → ∃ j, b.length - j < b.length - i ∧ (H' = H' ∧ [some (V.ref t), some (V.int p), some (.str ""), some (V.int (((p + i : Nat) : Int) + 1)), none] = [some (.ref t), some (.int p), some (.str ""), some (.int (p + j : Nat)), none] ∧ p + j ≤ b.length ∧ j + run isTail b (p + j) = run isTail b p) := fun ht => by
      rw [if_pos ht] at rc
      refine ⟨i + 1, by omega, rfl, ?_, by omega, by rw [← Nat.add_assoc]; omega⟩
      have e2 : ((p + i : Nat) : Int) + 1 = ((p + (i + 1) : Nat) : Int) := by omega
      exact congrArg (fun z => [some (V.ref t), some (V.int p), some (.str ""), some (V.int z), none]) e2
    refine ⟨_, rfl, _, rfl, t, _, _, _, rfl, rfl, hS1, nums_at hcb, _, rfl, _, rfl, ?_⟩
    refine ite2 (fun c2 => ?_) (fun c2 => ?_)
    · rw [c2, Bool.true_or] at lt2
      exact turn_mk ⟨_, rfl, _, _, rfl, rfl, nxt lt2.symm⟩
    · rw [Bool.eq_false_iff.mpr c2, Bool.false_or] at lt2
      refine ⟨_, rfl, _, rfl, t, _, _, _, rfl, rfl, hS1, nums_at hcb, rfl, _, rfl, ?_⟩
      rw [dec_v, lt2]
      refine ite2 (fun c3 => turn_mk ⟨_, rfl, _, _, rfl, rfl, nxt c3⟩) (fun c3 => ?_)
      rw [if_neg c3] at rc
      exact fin (by omega)
  · rw [nums_len] at c
    have ge : b.length ≤ p + i := by
      have : ¬ (((p + i : Nat) : Int) < b.length) := fun z => c (decide_eq_true z)
      omega
    have rc := run_end (f := isTail) ge
    exact fin (by omega)
end Wale
end
section
set_option Elab.async false
set_option linter.all false
set_option maxRecDepth 100000
set_option maxHeartbeats 2000000
namespace Wale
open PySem PySem.Spec PyProof.Rows L2
open Wm
open LsWale (blanks isByte isLetter isDigit isTail valueOf isNumber DIGITWORDS wordAt oneToken KEYWORDS PLAINS isName)
variable {P : Program} {w : World} {K : PySem.W.Frag} {mg : Str → Option Value} {base : Heap} {a : Ad}
def rInM (kvs : List (Key × V)) (d : Addr) : R2 := fun x y H Q => y = .ref d ∧ ∃ k : Key, x = kV k ∧ Q (.bl (valV kvs k).isSome) H
theorem op_inM {X : Cx} {kvs : List (Key × V)} {d : Addr} (h : ModDict X.prog X.w X.K d kvs) : OpR X (compareOp .In) (rInM kvs d) := by
  intro pins s σ H x y u v Q I rx ry ⟨e1, k, e2, q⟩
  subst e1 e2
  obtain rfl : v = Value.ref d := ry
  obtain ⟨vs, rel, dd⟩ := h.ok s.heap I.kIn
  refine wpAny_in_of (kV_is rx) h.ns dd.mapOf ?_
  rw [← (rel.val k).isSome_eq]
  exact ⟨.bl (valV kvs k).isSome, H, I.tok _, rfl, q⟩
theorem pt_inM {X : Cx} {e : Expr} {te : TE} {x : Str} {kvs : List (Key × V)} {d : Addr} {p pos : Pos} (h : X.mg x = some (.ref d) ∧ ModDict X.prog X.w X.K d kvs) (he : PE X e te) (hg : Gl X x := by rfl) (hd : (x == ("__debug__" : Str)) = false := by decide) (hm : behindInMarks .In (.Name x p) = false := by with_unfolding_all rfl) :
    PT X (.Compare e [.In] [.Name x p] pos) (tTest (tOp (rInM kvs d) te (tC (.ref d)))) := pt_cmpR (op_inM h.2) he (pe_glob hg h.1 (show RelV (.ref d) (.ref d) from rfl) hd) hm
def tMGet (kvs : List (Key × V)) (ti : TE) : TE := fun σ H Q => ti σ H fun y H1 => ∃ k v, y = kV k ∧ valV kvs k = some v ∧ Q v H1
theorem pe_mget {X : Cx} {i : Expr} {ti : TE} {x : Str} {kvs : List (Key × V)} {d : Addr} {p pos : Pos} (h : X.mg x = some (.ref d) ∧ ModDict X.prog X.w X.K d kvs) (hi : PE X i ti) (hs : NoSl i) (hg : Gl X x := by rfl) (hd : (x == ("__debug__" : Str)) = false := by decide) :
    PE X (.Subscript (.Name x p) i pos) (tMGet kvs ti) := by
  intro pins s σ H Q I hh
  refine subD_of PySem.F.slot_dict_getitem.lookup hs (ld_glob I hg h.1 (thn (hi pins s σ H _ I hh) fun iv s2 ⟨y, H2, I2, ry, k, v, ey, ev, q⟩ => ?_) hd)
  subst ey
  obtain ⟨vs, rel, dd⟩ := h.2.ok s2.heap I2.kIn
  obtain ⟨w', hw, rw'⟩ := RelO.some_of (v := v) (o := valueAt vs k) (by rw [← ev]; exact rel.val k)
  refine ⟨?_, wpAny_getItem_of (kV_is ry) dd.mapOf hw ⟨v, H2, I2.tok _, rw', q⟩⟩
  obtain ⟨ob, _, _, h1, h2, _⟩ := dd
  exact ⟨ob, h1, h2.1⟩
def kdTok : LsWale.Tok → Str
  | .word x => kdWord x
  | .num _ => "number"
  | .sign _ => "fixed"
  | .bad _ => ""
  | .done => "end"
def txTok : LsWale.Tok → Str
  | .word x => strOf x
  | .sign c => strOf [c]
  | _ => ""
def nmTok : LsWale.Tok → Nat
  | .num n => n
  | _ => 0
def spToken (K : PySem.W.Frag) (a : Ad) : Sp := fun vs H Q E => ∃ (t : Addr) (b : Bytes) (p : Nat), vs = [.ref t, .int p] ∧ SqL K H t (nums b) ∧ p ≤ b.length ∧ b.length ≤ 20000 ∧
  ((∀ k, tkOf b p ≠ .bad k) → Made a H Q (kdTok (tkOf b p)) (txTok (tkOf b p)) (nmTok (tkOf b p)) (tkAt b p : Nat) (tkEnd b p : Nat)) ∧ ∀ k, tkOf b p = .bad k → Told K a E k (tkAt b p : Nat)
theorem sc_token_at : FnScope ["t", "start", "place", "byte"] ["t", "start"] (defScope s_token_at) := ⟨rfl, rfl, rfl, by decide +kernel, rfl, by decide +kernel, by decide +kernel⟩
abbrev signKV : List (Key × V) := [(.inl 40, .str "("), (.inl 41, .str ")"), (.inl 42, .str "*"), (.inl 43, .str "+"), (.inl 44, .str ","), (.inl 45, .str "-"), (.inl 47, .str "/"), (.inl 59, .str ";"), (.inl 61, .str "="), (.inl 91, .str "["), (.inl 93, .str "]"), (.inl 123, .str "{"), (.inl 125, .str "}")]
theorem signs_nat : ∀ n : Nat, n < 256 → valV signKV (.inl (n : Int)) = if LsWale.SIGNS.contains (UInt8.ofNat n) = true then some (.str (strOf [UInt8.ofNat n])) else none := by decide +kernel
theorem signs_at (c : UInt8) : valV signKV (.inl (c.toNat : Int)) = if LsWale.SIGNS.contains c = true then some (.str (strOf [c])) else none := by
  have := signs_nat c.toNat c.toNat_lt
  rw [UInt8.ofNat_toNat] at this
  exact this
theorem ok_token_at (T : Tx P w K mg a) : FnOk P w K mg base (CXF P w) 6 a.f_token_at a.d_token_at ["t", "start"] (spToken K a) := by
  refine T.token_at.fn.okx sc_token_at (fun vs H Q E h => ?_) (fun cdv A outer s H vs Q E hr h => ?_)
  · obtain ⟨_, _, _, rfl, _⟩ := h; rfl
  obtain ⟨t, b, p, rfl, hS, hp, hl, k1, k2⟩ := h
  have hr1 : Room 1 _ := hr.mono (by decide)
  refine ⟨_, pss_cons (ps_set (i := 2) sc_token_at.nd rfl (Or.inl rfl) (callD T.skip_blanks (ok_skip_blanks T) hr passes_def (pa_cons (pv 0) (pa_cons (pv 1) pa_nil))))
    (pss_cons (ps_if (pt_cmpR op_eq (pv 2) (len_call T.b_len (pv 0)) (nomark _)) (pss_one (ps_ret (pe_token T (hr.mono (by decide)) (pk_str T.k_END) pe_str pe_int (pv 2) (pv 2)))) pss_nil)
    (pss_cons (ps_set (i := 3) sc_token_at.nd rfl (Or.inl rfl) (pe_ix ix_list (pv 0) (pv 2) (fun _ _ => rfl)))
    (pss_cons (ps_if (pt_val (callD T.is_letter (ok_is_letter T) hr1 pass0 (pa_cons (pv 3) pa_nil))) (pss_one (ps_ret (callD T.word_token (ok_word_token T) hr pass0 (pa_cons (pv 0) (pa_cons (pv 2) pa_nil))))) pss_nil)
    (pss_cons (ps_if (pt_val (callD T.is_digit (ok_is_digit T) hr1 pass0 (pa_cons (pv 3) pa_nil))) (pss_one (ps_ret (callD T.number_token (ok_number_token T) (hr.mono (by decide)) passes_def (pa_cons (pv 0) (pa_cons (pv 2) pa_nil))))) pss_nil)
    (pss_cons (ps_if (pt_inM T.k_SIGNS (pv 3)) (pss_one (ps_ret (pe_token T (hr.mono (by decide)) (pk_str T.k_FIXED) (pe_mget T.k_SIGNS (pv 3) (fun _ _ => rfl)) pe_int (pv 2) (pe_op op_add (pv 2) pe_int)))) pss_nil)
    (pss_one (ps_fault rfl raises_def T.cx_ByteFault (ok_ByteFault_init T) T.ByteFault_init.2 (hr.mono (by decide)) (pv 2)))))))), ?_⟩
  refine ⟨_, rfl, _, rfl, t, b, p, rfl, hS, hp, ?_, fun c hc hb => ?_⟩
  rotate_left
  · refine k2 1 ?_
    unfold tkOf
    rw [drop_cons hc]
    have hnb : ¬ (c.toNat = 10 ∨ (32 ≤ c.toNat ∧ c.toNat ≤ 126)) := fun z => by rw [(isByte_iff c).mpr z] at hb; cases hb
    unfold oneToken
    have nl : ¬ isLetter c = true := fun z => hnb (.inr (by have := (isLetter_iff c).mp z; omega))
    have nd : ¬ isDigit c = true := fun z => hnb (.inr (by have := (isDigit_iff c).mp z; omega))
    have ns : ¬ LsWale.SIGNS.contains c = true := fun z => by
      have : ∀ n : Nat, n < 256 → LsWale.SIGNS.contains (UInt8.ofNat n) = true → 32 ≤ n ∧ n ≤ 126 := by decide +kernel
      have := this c.toNat c.toNat_lt
      rw [UInt8.ofNat_toNat] at this
      exact hnb (.inr (this z))
    dsimp only
    rw [if_neg nl, if_neg nd, if_neg ns]
  have le := tkAt_le hp
  refine ⟨_, rfl, _, rfl, t, _, rfl, .inl hS, rfl, _, rfl, ?_⟩
  rw [dec_v, nums_len]
  refine ite2 (fun c => ?_) (fun c => ?_)
  · have ge : b.length ≤ tkAt b p := by have := of_decide_eq_true c; omega
    have e1 : tkOf b p = .done := by unfold tkOf; rw [drop_end ge]; rfl
    have e2 : tkEnd b p = tkAt b p := by unfold tkEnd; rw [drop_end ge]; rfl
    have km := k1 (fun k z => by rw [e1] at z; cases z)
    rw [e1, e2] at km
    exact ⟨_, rfl, _, rfl, made_of km (Same.refl _)⟩
  · have lt : tkAt b p < b.length := by
      have : ¬ (((tkAt b p : Nat) : Int) = b.length) := fun z => c (decide_eq_true z)
      omega
    obtain ⟨cb, hcb⟩ : ∃ c, b[tkAt b p]? = some c := ⟨_, List.getElem?_eq_getElem lt⟩
    have dc := drop_cons hcb
    have eo : oneToken (b.drop (tkAt b p)) = if isLetter cb = true then (.word (wordAt (b.drop (tkAt b p))), (wordAt (b.drop (tkAt b p))).length) else if isDigit cb = true then (if isNumber (digs b (tkAt b p)) = true then (.num (valueOf (digs b (tkAt b p))), (digs b (tkAt b p)).length) else (.bad 2, 0))
        else if LsWale.SIGNS.contains cb = true then (.sign cb, 1) else (.bad 1, 0) := by
      unfold digs
      rw [dc]; rfl
    refine ⟨_, rfl, _, rfl, t, _, _, _, rfl, rfl, hS, nums_at hcb, ?_⟩
    refine ⟨_, rfl, _, rfl, _, rfl, ?_⟩
    rw [letter_u]
    refine ite2 (fun c1 => ?_) (fun c1 => ?_)
    · rw [if_pos c1] at eo
      have e1 : tkOf b p = .word (wordAt (b.drop (tkAt b p))) := by unfold tkOf; rw [eo]
      have e2 : tkEnd b p = tkAt b p + (wordAt (b.drop (tkAt b p))).length := by unfold tkEnd; rw [eo]
      have km := k1 (fun k z => by rw [e1] at z; cases z)
      rw [e1, e2] at km
      exact ⟨_, rfl, _, rfl, t, b, tkAt b p, rfl, hS, ⟨cb, hcb, c1⟩, hl, km⟩
    rw [if_neg c1] at eo
    refine ⟨_, rfl, _, rfl, _, rfl, ?_⟩
    rw [digit_u]
    refine ite2 (fun c2 => ?_) (fun c2 => ?_)
    · rw [if_pos c2] at eo
      refine ⟨_, rfl, _, rfl, t, b, tkAt b p, rfl, hS, ⟨cb, hcb, c2⟩, fun hn => ?_, fun hn => ?_⟩
      · rw [if_pos hn] at eo
        have e1 : tkOf b p = .num (valueOf (digs b (tkAt b p))) := by unfold tkOf; rw [eo]
        have e2 : tkEnd b p = tkAt b p + (digs b (tkAt b p)).length := by unfold tkEnd; rw [eo]
        have km := k1 (fun k z => by rw [e1] at z; cases z)
        rw [e1, e2] at km
        exact km
      · rw [if_neg (by rw [hn]; decide)] at eo
        exact k2 2 (by unfold tkOf; rw [eo])
    rw [if_neg c2] at eo
    refine ⟨_, rfl, rfl, .inl (cb.toNat : Int), rfl, _, rfl, ?_⟩
    rw [signs_at]
    by_cases hs : LsWale.SIGNS.contains cb = true
    · rw [if_pos hs]
      rw [if_pos hs] at eo
      have e1 : tkOf b p = .sign cb := by unfold tkOf; rw [eo]
      have e2 : tkEnd b p = tkAt b p + 1 := by unfold tkEnd; rw [eo]
      have km := k1 (fun k z => by rw [e1] at z; cases z)
      rw [e1, e2] at km
      refine ⟨_, rfl, .inl (cb.toNat : Int), .str (strOf [cb]), rfl, (by rw [signs_at, if_pos hs]), _, rfl, _, rfl, _, _, rfl, rfl, ?_⟩
      exact made_of km (Same.refl _)
    · rw [if_neg hs]
      rw [if_neg hs] at eo
      exact ⟨_, rfl, flt_ok T.cx_ByteFault (k2 1 (by unfold tkOf; rw [eo]))⟩
end Wale
end
section
set_option Elab.async false
set_option linter.all false
set_option maxRecDepth 100000
set_option maxHeartbeats 2000000
namespace Wale
open PySem PySem.Spec PyProof.Rows L2
open Wm
variable {P : Program} {w : World} {K : PySem.W.Frag} {mg : Str → Option Value} {base : Heap} {a : Ad}
inductive Kd where
  | sizes
  | yarns
  | numbers
  | words
  | blocks
  | markers
  | holders
  deriving DecidableEq
def kdS : Kd → Str
  | .sizes => "sizes"
  | .yarns => "yarns"
  | .numbers => "numbers"
  | .words => "words"
  | .blocks => "blocks"
  | .markers => "markers"
  | .holders => "holders"
def bnd : Kd → Nat
  | .sizes => 16
  | .yarns => 16
  | .numbers => 256
  | .words => 64
  | .blocks => 64
  | .markers => 64
  | .holders => 16
def isT : Kd → Bool
  | .markers => false
  | .holders => false
  | _ => true
theorem kdS_inj {j k : Kd} (h : kdS j = kdS k) : j = k := by
  revert h
  cases j <;> cases k <;> first | exact fun _ => rfl | exact fun h => absurd h (by decide +kernel)
theorem kdS_ne (k : Kd) : kdS k ≠ ("" : Str) := by cases k <;> decide +kernel
abbrev NL := Kd → List Bytes
def addL (L : NL) (k : Kd) (x : Bytes) : NL := fun j => if j = k then L j ++ [x] else L j
def tot (L : NL) : Nat := (L .sizes).length + (L .yarns).length + (L .numbers).length + (L .words).length + (L .blocks).length + (L .markers).length + (L .holders).length
theorem add_same {L : NL} {k : Kd} {x : Bytes} : addL L k x k = L k ++ [x] := if_pos rfl
theorem add_ne {L : NL} {j k : Kd} {x : Bytes} (h : j ≠ k) : addL L k x j = L j := if_neg h
theorem tot_add (L : NL) (k : Kd) (x : Bytes) : tot (addL L k x) = tot L + 1 := by
  cases k <;> simp [tot, addL] <;> omega
theorem tot_le {L : NL} (h : ∀ k, (L k).length ≤ bnd k) : tot L ≤ 496 := by
  have h1 := h .sizes
  have h2 := h .yarns
  have h3 := h .numbers
  have h4 := h .words
  have h5 := h .blocks
  have h6 := h .markers
  have h7 := h .holders
  simp only [bnd] at h1 h2 h3 h4 h5 h6 h7
  unfold tot
  omega
def TellOk (kvs : List (Key × V)) (L : NL) : Prop := ∀ x v, valV kvs (.inr (strOf x)) = some v ↔ ∃ k, isT k = true ∧ v = .str (kdS k) ∧ x ∈ L k
def StandOk (kvs : List (List Key × V)) (L : NL) : Prop := ∀ k x, isT k = false → ((valV kvs [.inr (kdS k), .inr (strOf x)]).isSome = true ↔ x ∈ L k)
def AmtOk (kvs : List (Key × V)) (L : NL) : Prop := ∀ k, (valV kvs (.inr (kdS k))).getD (.int 0) = .int (L k).length
def nfs (td sd ad : Addr) : List (Str × V) := [("told", .ref td), ("standing", .ref sd), ("amounts", .ref ad)]
structure NA where
  n : Addr
  td : Addr
  sd : Addr
  ad : Addr
structure NmAt (a : Ad) (R : NA) (L : NL) (H : Hp) : Prop where
  obj : ∃ dx, H R.n = some (.ins a.c_Names dx (nfs R.td R.sd R.ad))
  tdk : ∃ kvs, H R.td = some (.dK kvs) ∧ TellOk kvs L ∧ kvs.length ≤ tot L
  sdk : ∃ kvs, H R.sd = some (.dT kvs) ∧ StandOk kvs L ∧ kvs.length ≤ tot L
  adk : ∃ kvs, H R.ad = some (.dK kvs) ∧ AmtOk kvs L ∧ kvs.length ≤ tot L
  ne : R.td ≠ R.ad
  bd : ∀ k, (L k).length ≤ bnd k
def KeepN (R : NA) (H H' : Hp) : Prop := ∀ b o, H b = some o → b ≠ R.td → b ≠ R.sd → b ≠ R.ad → H' b = some o
theorem same_keepN {R : NA} {H H' : Hp} (h : Same H H') : KeepN R H H' := fun b o e _ _ _ => h b o e
theorem KeepN.trans {R : NA} {H H1 H2 : Hp} (h : KeepN R H H1) (g : KeepN R H1 H2) : KeepN R H H2 := fun b o e n1 n2 n3 => g b o (h b o e n1 n2 n3) n1 n2 n3
theorem same_upd {H : Hp} {p : Addr} {o : HO} (h : H p = none) : Same H (upd H p o) := fun b ob e => by
  rw [upd_ne (fun z => by rw [z, h] at e; cases e)]
  exact e
theorem NmAt.same {R : NA} {L : NL} {H H' : Hp} (h : NmAt a R L H) (s : Same H H') : NmAt a R L H' := by
  obtain ⟨⟨dx, e0⟩, ⟨k1, e1, t1⟩, ⟨k2, e2, t2⟩, ⟨k3, e3, t3⟩, ne, bd⟩ := h
  exact ⟨⟨dx, s _ _ e0⟩, ⟨k1, s _ _ e1, t1⟩, ⟨k2, s _ _ e2, t2⟩, ⟨k3, s _ _ e3, t3⟩, ne, bd⟩
theorem TokAt.same {C : Addr} {H H' : Hp} {x : Addr} {kd tx : Str} {n pl af : Int} (h : TokAt C H x kd tx n pl af) (s : Same H H') : TokAt C H' x kd tx n pl af := by
  obtain ⟨dx, fs, e, r⟩ := h
  exact ⟨dx, fs, s _ _ e, r⟩
theorem TokAt.keepN {C : Addr} {R : NA} {L : NL} {H H' : Hp} {x : Addr} {kd tx : Str} {n pl af : Int} (h : TokAt C H x kd tx n pl af) (N : NmAt a R L H) (s : KeepN R H H') : TokAt C H' x kd tx n pl af := by
  obtain ⟨dx, fs, e, r⟩ := h
  obtain ⟨k1, e1, -⟩ := N.tdk
  obtain ⟨k2, e2, -⟩ := N.sdk
  obtain ⟨k3, e3, -⟩ := N.adk
  exact ⟨dx, fs, s _ _ e (ne_of e e1 (fun z => nomatch z)) (ne_of e e2 (fun z => nomatch z)) (ne_of e e3 (fun z => nomatch z)), r⟩
def spAmount (a : Ad) : Sp := fun vs H Q _ => ∃ (R : NA) (dx : Addr) (kvs : List (Key × V)) (k : Str) (m : Int), vs = [.ref R.n, .str k] ∧ H R.n = some (.ins a.c_Names dx (nfs R.td R.sd R.ad)) ∧ H R.ad = some (.dK kvs) ∧
  (valV kvs (.inr k)).getD (.int 0) = .int m ∧ Q (.int m) H
theorem sc_Names_amount : FnScope ["self", "kind"] ["self", "kind"] (defScope s_Names_amount) := ⟨rfl, rfl, rfl, by decide +kernel, rfl, by decide +kernel, by decide +kernel⟩
theorem ok_amount (T : Tx P w K mg a) : FnOk P w K mg base CX0 1 a.f_Names_amount a.d_Names_amount ["self", "kind"] (spAmount a) := by
  refine T.Names_amount.fn.ok sc_Names_amount (fun vs H Q E h => ?_) (fun cdv A outer s H vs Q E hr h => ?_)
  · obtain ⟨_, _, _, _, _, rfl, _⟩ := h; rfl
  obtain ⟨R, dx, kvs, k, m, rfl, e0, e1, em, q⟩ := h
  refine ⟨_, pss_one (ps_ret (pe_dget2 (hu_of hr) (pe_fld (pv 0) rfl) (pv 1) pe_int ⟨rfl, rfl, rfl, rfl⟩)), ?_⟩
  refine ⟨_, rfl, R.n, _, dx, _, _, rfl, e0, T.co_Names.cl, T.na_Names_amounts, rfl, R.ad, rfl, .inl ⟨kvs, .inl e1⟩, _, rfl, _, DGet.k (k := .inr k) e1, ?_⟩
  rw [em]
  exact q
def spRoom (K : PySem.W.Frag) (a : Ad) : Sp := fun vs H Q E => ∃ (R : NA) (L : NL) (k : Kd) (x : Addr) (kd tx : Str) (n pl af : Int), vs = [.ref R.n, .ref x, .str (kdS k)] ∧ NmAt a R L H ∧ TokAt a.c_Token H x kd tx n pl af ∧
  ((L k).length ≠ bnd k → Q .non H) ∧ ((L k).length = bnd k → Told K a E 6 pl)
theorem sc_Names_check_room : FnScope ["self", "token", "kind"] ["self", "token", "kind"] (defScope s_Names_check_room) := ⟨rfl, rfl, rfl, by decide +kernel, rfl, by decide +kernel, by decide +kernel⟩
theorem bounds_at (k : Kd) : valV ([(.inr "sizes", .int 16), (.inr "yarns", .int 16), (.inr "numbers", .int 256), (.inr "words", .int 64), (.inr "blocks", .int 64), (.inr "markers", .int 64), (.inr "holders", .int 16)] : List (Key × V)) (.inr (kdS k)) = some (.int (bnd k : Nat)) := by
  cases k <;> decide +kernel
theorem ok_check_room (T : Tx P w K mg a) : FnOk P w K mg base (CXF P w) 4 a.f_Names_check_room a.d_Names_check_room ["self", "token", "kind"] (spRoom K a) := by
  refine T.Names_check_room.fn.okx sc_Names_check_room (fun vs H Q E h => ?_) (fun cdv A outer s H vs Q E hr h => ?_)
  · obtain ⟨_, _, _, _, _, _, _, _, _, rfl, _⟩ := h; rfl
  obtain ⟨R, L, k, x, kd, tx, n, pl, af, rfl, N, tk, q1, q2⟩ := h
  refine ⟨_, pss_one (ps_if (pt_cmpR op_eq (pe_meth (pv 0) T.co_Names.cl T.Names_amount.mt (ok_amount T) (hr.mono (by decide)) T.Names_amount.bd .nil pass0 (pa_cons (pv 2) pa_nil)) (pe_mget T.k_BOUNDS (pv 2) (fun _ _ => rfl)) (nomark _))
    (pss_one (ps_fault rfl raises_def T.cx_BoundFault (ok_BoundFault_init T) T.BoundFault_init.2 (hr.mono (by decide)) (pe_fld (pv 1) rfl))) pss_nil), ?_⟩
  obtain ⟨dx, e0⟩ := N.obj
  obtain ⟨kva, ea, ha, -⟩ := N.adk
  refine ⟨_, rfl, R.n, dx, _, rfl, e0, rfl, _, rfl, R, dx, kva, kdS k, _, rfl, e0, ea, ha k, ?_⟩
  refine ⟨_, rfl, .inr (kdS k), _, rfl, bounds_at k, rfl, _, rfl, ?_⟩
  rw [dec_v]
  refine ite2 (fun c => ?_) (fun c => ?_)
  · obtain ⟨dx1, fs, e, l1, l2, l3, l4, l5⟩ := tk
    exact ⟨_, rfl, x, _, dx1, fs, _, rfl, e, T.co_Token.cl, T.na_Token_place, l4, flt_ok T.cx_BoundFault (q2 (by have := of_decide_eq_true c; omega))⟩
  · exact q1 fun z => c (decide_eq_true (by rw [z]))
def untold (L : NL) (x : Bytes) : Prop := ∀ j, isT j = true → x ∉ L j
def spNew (K : PySem.W.Frag) (a : Ad) : Sp := fun vs H Q E => ∃ (R : NA) (L : NL) (k : Kd) (x : Addr) (xb : Bytes) (kd : Str) (n pl af : Int), vs = [.ref R.n, .ref x, .str (kdS k)] ∧ NmAt a R L H ∧ TokAt a.c_Token H x kd (strOf xb) n pl af ∧
  (¬ untold L xb → Told K a E 5 pl) ∧ (untold L xb → (L k).length = bnd k → Told K a E 6 pl) ∧ (untold L xb → (L k).length ≠ bnd k → Q .non H)
theorem sc_Names_check_new : FnScope ["self", "token", "kind"] ["self", "token", "kind"] (defScope s_Names_check_new) := ⟨rfl, rfl, rfl, by decide +kernel, rfl, by decide +kernel, by decide +kernel⟩
theorem ok_check_new (T : Tx P w K mg a) : FnOk P w K mg base (CXF P w) 5 a.f_Names_check_new a.d_Names_check_new ["self", "token", "kind"] (spNew K a) := by
  refine T.Names_check_new.fn.okx sc_Names_check_new (fun vs H Q E h => ?_) (fun cdv A outer s H vs Q E hr h => ?_)
  · obtain ⟨_, _, _, _, _, _, _, _, _, rfl, _⟩ := h; rfl
  obtain ⟨R, L, k, x, xb, kd, n, pl, af, rfl, N, tk, q1, q2, q3⟩ := h
  refine ⟨_, pss_cons (ps_if (pt_cmp (pc_din (hu_of hr) (pe_fld (pv 1) rfl) (pe_fld (pv 0) rfl)) (by rfl))
    (pss_one (ps_fault rfl raises_def T.cx_AgainFault (ok_AgainFault_init T) T.AgainFault_init.2 (hr.mono (by decide)) (pe_fld (pv 1) rfl))) pss_nil)
    (pss_one (ps_expr (pe_meth (pv 0) T.co_Names.cl T.Names_check_room.mt (ok_check_room T) hr T.Names_check_room.bd .nil passes_def (pa_cons (pv 1) (pa_cons (pv 2) pa_nil))))), ?_⟩
  obtain ⟨dx, e0⟩ := N.obj
  obtain ⟨kvs, e1, h1, -⟩ := N.tdk
  have tk' := tk
  obtain ⟨dx1, fs, e, l1, l2, l3, l4, l5⟩ := tk
  refine ⟨_, rfl, x, _, dx1, fs, _, rfl, e, T.co_Token.cl, T.na_Token_text, l2, _, rfl, R.n, _, dx, _, _, rfl, e0, T.co_Names.cl, T.na_Names_told, rfl, R.td, _, rfl, DGet.k (k := .inr (strOf xb)) e1, _, rfl, ?_⟩
  cases hv : valV kvs (.inr (strOf xb)) with
  | some v =>
    obtain ⟨j, hj, -, hm⟩ := (h1 xb v).mp hv
    exact iteT ⟨_, rfl, x, _, dx1, fs, _, rfl, e, T.co_Token.cl, T.na_Token_place, l4, flt_ok T.cx_AgainFault (q1 fun z => z j hj hm)⟩
  | none =>
    have un : untold L xb := fun j hj hm => by
      have := (h1 xb _).mpr ⟨j, hj, rfl, hm⟩
      rw [hv] at this
      cases this
    exact iteF ⟨_, rfl, R.n, dx, _, rfl, e0, rfl, _, rfl, _, rfl, R, L, k, x, kd, _, n, pl, af, rfl, N, tk', fun z => q3 un z, fun z => q2 un z⟩
def spTold (K : PySem.W.Frag) (a : Ad) : Sp := fun vs H Q E => ∃ (R : NA) (L : NL) (k : Kd) (x : Addr) (xb : Bytes) (kd : Str) (n pl af : Int), vs = [.ref R.n, .ref x, .str (kdS k)] ∧ NmAt a R L H ∧ TokAt a.c_Token H x kd (strOf xb) n pl af ∧ isT k = true ∧
  (xb ∈ L k → Q .non H) ∧ (xb ∉ L k → Told K a E 4 pl)
theorem sc_Names_check_told : FnScope ["self", "token", "kind"] ["self", "token", "kind"] (defScope s_Names_check_told) := ⟨rfl, rfl, rfl, by decide +kernel, rfl, by decide +kernel, by decide +kernel⟩
theorem ok_check_told (T : Tx P w K mg a) : FnOk P w K mg base (CXF P w) 4 a.f_Names_check_told a.d_Names_check_told ["self", "token", "kind"] (spTold K a) := by
  refine T.Names_check_told.fn.okx sc_Names_check_told (fun vs H Q E h => ?_) (fun cdv A outer s H vs Q E hr h => ?_)
  · obtain ⟨_, _, _, _, _, _, _, _, _, rfl, _⟩ := h; rfl
  obtain ⟨R, L, k, x, xb, kd, n, pl, af, rfl, N, tk, ht, q1, q2⟩ := h
  refine ⟨_, pss_one (ps_if (pt_cmpR op_ne (pe_dget2 (hu_of hr) (pe_fld (pv 0) rfl) (pe_fld (pv 1) rfl) pe_str ⟨rfl, rfl, rfl, rfl⟩) (pv 2) (nomark _))
    (pss_one (ps_fault rfl raises_def T.cx_UntoldFault (ok_UntoldFault_init T) T.UntoldFault_init.2 (hr.mono (by decide)) (pe_fld (pv 1) rfl))) pss_nil), ?_⟩
  obtain ⟨dx, e0⟩ := N.obj
  obtain ⟨kvs, e1, h1, -⟩ := N.tdk
  obtain ⟨dx1, fs, e, l1, l2, l3, l4, l5⟩ := tk
  refine ⟨_, rfl, R.n, _, dx, _, _, rfl, e0, T.co_Names.cl, T.na_Names_told, rfl, R.td, rfl, .inl ⟨kvs, .inl e1⟩, _, rfl, x, _, dx1, fs, _, rfl, e, T.co_Token.cl, T.na_Token_text, l2, _, DGet.k (k := .inr (strOf xb)) e1, ?_⟩
  have bad : ∀ lo, xb ∉ L k → tFault lo K a.c_UntoldFault E 4 (tFld K (tVar 1) "place") { nx := fun _ H' => Q .non H', rt := Q } (L2.start ["self", "token", "kind"] [.ref R.n, .ref x, .str (kdS k)]) H := fun lo hm =>
    ⟨_, rfl, x, _, dx1, fs, _, rfl, e, T.co_Token.cl, T.na_Token_place, l4, flt_ok T.cx_UntoldFault (q2 hm)⟩
  cases hv : valV kvs (.inr (strOf xb)) with
  | some v =>
    obtain ⟨j, hj, ev, hm⟩ := (h1 xb v).mp hv
    subst ev
    refine ⟨_, rfl, rfl, _, rfl, ?_⟩
    show if (!decide (V.str (kdS j) = V.str (kdS k))) = true then _ else _
    rw [dec_s]
    by_cases hjk : j = k
    · subst hjk
      exact iteNS rfl (q1 hm)
    · rw [decide_eq_false fun z => hjk (kdS_inj z)]
      refine iteT (bad _ fun hm' => hjk ?_)
      have := (h1 xb _).mpr ⟨k, ht, rfl, hm'⟩
      rw [hv] at this
      exact kdS_inj (V.str.inj (Option.some.inj this))
  | none =>
    refine ⟨_, rfl, rfl, _, rfl, ?_⟩
    show if (!decide (V.str "" = V.str (kdS k))) = true then _ else _
    rw [dec_s, decide_eq_false fun z => kdS_ne k z.symm]
    refine iteT (bad _ fun hm' => ?_)
    have := (h1 xb _).mpr ⟨k, ht, rfl, hm'⟩
    rw [hv] at this
    cases this
end Wale
end
section
set_option Elab.async false
set_option linter.all false
set_option maxRecDepth 100000
set_option maxHeartbeats 2000000
namespace Wale
open PySem PySem.Spec PyProof.Rows L2
open Wm
variable {P : Program} {w : World} {K : PySem.W.Frag} {mg : Str → Option Value} {base : Heap} {a : Ad}
theorem inr_ne {x y : Str} (h : x ≠ y) : (Sum.inr x : Key) ≠ .inr y := fun z => h (Sum.inr.inj z)
theorem TellOk.put {kvs : List (Key × V)} {L : NL} {k : Kd} {x : Bytes} (h : TellOk kvs L) (hk : isT k = true) (hu : untold L x) : TellOk (putK kvs (.inr (strOf x)) (.str (kdS k))) (addL L k x) := by
  intro y v
  rw [valV_put]
  by_cases e : y = x
  · subst e
    rw [if_pos rfl]
    constructor
    · intro z
      cases z
      exact ⟨k, hk, rfl, by rw [add_same]; simp⟩
    · rintro ⟨j, hj, rfl, hm⟩
      by_cases ej : j = k
      · rw [ej]
      · rw [add_ne ej] at hm
        exact absurd hm (hu j hj)
  · rw [if_neg (inr_ne fun z => e (strOf_inj z)), h y v]
    refine exists_congr fun j => and_congr_right fun hj => and_congr_right fun ev => ?_
    by_cases ej : j = k
    · rw [ej, add_same]
      simp [e]
    · rw [add_ne ej]
theorem AmtOk.put {kvs : List (Key × V)} {L : NL} {k : Kd} {x : Bytes} (h : AmtOk kvs L) : AmtOk (putK kvs (.inr (kdS k)) (.int ((L k).length + 1))) (addL L k x) := by
  intro j
  rw [valV_put]
  by_cases e : j = k
  · subst e
    rw [if_pos rfl, add_same]
    simp
  · rw [if_neg (inr_ne fun z => e (kdS_inj z)), add_ne e]
    exact h j
theorem StandOk.put {kvs : List (List Key × V)} {L : NL} {k : Kd} {x : Bytes} (h : StandOk kvs L) (hk : isT k = false) : StandOk (putK kvs [.inr (kdS k), .inr (strOf x)] (.bl true)) (addL L k x) := by
  intro j y hj
  rw [valV_put]
  by_cases e : j = k
  · subst e
    rw [add_same]
    by_cases ey : y = x
    · subst ey
      rw [if_pos rfl]
      simp
    · rw [if_neg (fun z => by simp at z; exact ey (strOf_inj z)), h j y hj]
      simp [ey]
  · rw [if_neg (fun z => by simp at z; exact e (kdS_inj z.1)), add_ne e]
    exact h j y hj
theorem TellOk.add {kvs : List (Key × V)} {L : NL} {k : Kd} {x : Bytes} (h : TellOk kvs L) (hk : isT k = false) : TellOk kvs (addL L k x) := by
  intro y v
  rw [h y v]
  refine exists_congr fun j => and_congr_right fun hj => and_congr_right fun ev => ?_
  rw [add_ne (fun z => by rw [z, hk] at hj; cases hj)]
theorem StandOk.add {kvs : List (List Key × V)} {L : NL} {k : Kd} {x : Bytes} (h : StandOk kvs L) (hk : isT k = true) : StandOk kvs (addL L k x) := by
  intro j y hj
  rw [h j y hj, add_ne (fun z => by rw [z, hk] at hj; cases hj)]
theorem bd_add {L : NL} {k : Kd} {x : Bytes} (h : ∀ k, (L k).length ≤ bnd k) (hl : (L k).length ≠ bnd k) (j : Kd) : (addL L k x j).length ≤ bnd j := by
  have := h j
  by_cases e : j = k
  · subst e
    rw [add_same, List.length_append, List.length_singleton]
    omega
  · rw [add_ne e]; exact this
theorem small {n : Nat} {L : NL} (h : n ≤ tot L) (b : ∀ k, (L k).length ≤ bnd k) : n < sizeLine := small1000 (by have := tot_le b; omega)
def spTell (a : Ad) : Sp := fun vs H Q _ => ∃ (R : NA) (L : NL) (k : Kd) (x : Addr) (xb : Bytes) (kd : Str) (n pl af : Int), vs = [.ref R.n, .ref x, .str (kdS k)] ∧ NmAt a R L H ∧ TokAt a.c_Token H x kd (strOf xb) n pl af ∧ isT k = true ∧ untold L xb ∧
  (L k).length ≠ bnd k ∧ ∀ H', NmAt a R (addL L k xb) H' → KeepN R H H' → Q .non H'
theorem sc_Names_tell : FnScope ["self", "token", "kind"] ["self", "token", "kind"] (defScope s_Names_tell) := ⟨rfl, rfl, rfl, by decide +kernel, rfl, by decide +kernel, by decide +kernel⟩
theorem ok_tell (T : Tx P w K mg a) : FnOk P w K mg base CX0 2 a.f_Names_tell a.d_Names_tell ["self", "token", "kind"] (spTell a) := by
  refine T.Names_tell.fn.ok sc_Names_tell (fun vs H Q E h => ?_) (fun cdv A outer s H vs Q E hr h => ?_)
  · obtain ⟨_, _, _, _, _, _, _, _, _, rfl, _⟩ := h; rfl
  obtain ⟨R, L, k, x, xb, kd, n, pl, af, rfl, N, tk, hk, hu, hl, q⟩ := h
  refine ⟨_, pss_cons (ps_dput (hu_of hr) (pe_fld (pv 0) rfl) (pe_fld (pv 1) rfl) (pv 2) rfl)
    (pss_one (ps_dput (hu_of hr) (pe_fld (pv 0) rfl) (pv 2) (pe_op op_add (pe_meth (pv 0) T.co_Names.cl T.Names_amount.mt (ok_amount T) hr T.Names_amount.bd .nil pass0 (pa_cons (pv 2) pa_nil)) pe_int) rfl)), ?_⟩
  obtain ⟨dx, e0⟩ := N.obj
  obtain ⟨kt, et, ht, lt⟩ := N.tdk
  obtain ⟨ks, es, hs, ls⟩ := N.sdk
  obtain ⟨ka, ea, ha, la⟩ := N.adk
  obtain ⟨dx1, fs, e, l1, l2, l3, l4, l5⟩ := tk
  have nt : R.n ≠ R.td := ne_of e0 et (fun z => nomatch z)
  have na : R.n ≠ R.ad := ne_of e0 ea (fun z => nomatch z)
  have st : R.sd ≠ R.td := ne_of es et (fun z => nomatch z)
  have sa : R.sd ≠ R.ad := ne_of es ea (fun z => nomatch z)
  refine ⟨_, rfl, _, rfl, R.n, _, dx, _, _, rfl, e0, T.co_Names.cl, T.na_Names_told, rfl, _, rfl, x, _, dx1, fs, _, rfl, e, T.co_Token.cl, T.na_Token_text, l2, R.td, _, rfl, DPut.k (k := .inr (strOf xb)) et (small lt N.bd), ?_⟩
  have e0' : (upd H R.td (.dK (putK kt (.inr (strOf xb)) (.str (kdS k))))) R.n = some (.ins a.c_Names dx (nfs R.td R.sd R.ad)) := by rw [upd_ne nt]; exact e0
  have ea' : (upd H R.td (.dK (putK kt (.inr (strOf xb)) (.str (kdS k))))) R.ad = some (.dK ka) := by rw [upd_ne N.ne.symm]; exact ea
  refine ⟨_, rfl, R.n, dx, _, rfl, e0', rfl, _, rfl, R, dx, ka, kdS k, _, rfl, e0', ea', ha k, _, _, rfl, rfl, ?_⟩
  refine ⟨_, rfl, R.n, _, dx, _, _, rfl, e0', T.co_Names.cl, T.na_Names_amounts, rfl, _, rfl, R.ad, _, rfl, DPut.k (k := .inr (kdS k)) ea' (small la N.bd), ?_⟩
  refine q _ ⟨⟨dx, ?_⟩, ⟨_, ?_, ht.put hk hu, ?_⟩, ⟨ks, ?_, hs.add hk, ?_⟩, ⟨_, upd_same, ha.put, ?_⟩, N.ne, bd_add N.bd hl⟩ fun b o eb n1 n2 n3 => ?_
  · rw [upd_ne na]; exact e0'
  · rw [upd_ne N.ne]; exact upd_same
  · have := length_putK kt (.inr (strOf xb)) (.str (kdS k)); rw [tot_add]; omega
  · rw [upd_ne sa, upd_ne st]; exact es
  · rw [tot_add]; omega
  · rw [tot_add]; exact Nat.le_trans (length_putK ka (.inr (kdS k)) _) (Nat.succ_le_succ la)
  · rw [upd_ne n3, upd_ne n1]; exact eb
def standL (L : NL) (k : Kd) (x : Bytes) : NL := if x ∈ L k then L else addL L k x
def spStand (K : PySem.W.Frag) (a : Ad) : Sp := fun vs H Q E => ∃ (R : NA) (L : NL) (k : Kd) (x : Addr) (xb : Bytes) (kd : Str) (n pl af : Int), vs = [.ref R.n, .ref x, .str (kdS k)] ∧ NmAt a R L H ∧ TokAt a.c_Token H x kd (strOf xb) n pl af ∧ isT k = false ∧
  (xb ∉ L k → (L k).length = bnd k → Told K a E 6 pl) ∧ ((xb ∈ L k ∨ (L k).length ≠ bnd k) → ∀ H', NmAt a R (standL L k xb) H' → KeepN R H H' → Q .non H')
theorem sc_Names_stand : FnScope ["self", "token", "kind"] ["self", "token", "kind"] (defScope s_Names_stand) := ⟨rfl, rfl, rfl, by decide +kernel, rfl, by decide +kernel, by decide +kernel⟩
theorem ok_stand (T : Tx P w K mg a) : FnOk P w K mg base (CXF P w) 5 a.f_Names_stand a.d_Names_stand ["self", "token", "kind"] (spStand K a) := by
  refine T.Names_stand.fn.okx sc_Names_stand (fun vs H Q E h => ?_) (fun cdv A outer s H vs Q E hr h => ?_)
  · obtain ⟨_, _, _, _, _, _, _, _, _, rfl, _⟩ := h; rfl
  obtain ⟨R, L, k, x, xb, kd, n, pl, af, rfl, N, tk, hk, q1, q2⟩ := h
  refine ⟨_, pss_cons (ps_if (pt_cmp (pc_din (hu_of hr) (pe_tup (pa_cons (pv 2) (pa_cons (pe_fld (pv 1) rfl) pa_nil))) (pe_fld (pv 0) rfl)) (by rfl)) (pss_one ps_retN) pss_nil)
    (pss_cons (ps_expr (pe_meth (pv 0) T.co_Names.cl T.Names_check_room.mt (ok_check_room T) hr T.Names_check_room.bd .nil passes_def (pa_cons (pv 1) (pa_cons (pv 2) pa_nil))))
    (pss_cons (ps_dput (hu_of hr) (pe_fld (pv 0) rfl) (pe_tup (pa_cons (pv 2) (pa_cons (pe_fld (pv 1) rfl) pa_nil))) pe_bl rfl)
    (pss_one (ps_dput (hu_of hr) (pe_fld (pv 0) rfl) (pv 2) (pe_op op_add (pe_meth (pv 0) T.co_Names.cl T.Names_amount.mt (ok_amount T) (hr.mono (by decide)) T.Names_amount.bd .nil pass0 (pa_cons (pv 2) pa_nil)) pe_int) rfl)))), ?_⟩
  have tk0 := tk
  obtain ⟨dx, e0⟩ := N.obj
  obtain ⟨kt, et, ht, lt⟩ := N.tdk
  obtain ⟨ks, es, hs, ls⟩ := N.sdk
  obtain ⟨ka, ea, ha, la⟩ := N.adk
  obtain ⟨dx1, fs, e, l1, l2, l3, l4, l5⟩ := tk
  have nt : R.n ≠ R.td := ne_of e0 et (fun z => nomatch z)
  have na : R.n ≠ R.ad := ne_of e0 ea (fun z => nomatch z)
  have ns : R.n ≠ R.sd := ne_of e0 es (fun z => nomatch z)
  have st : R.sd ≠ R.td := ne_of es et (fun z => nomatch z)
  have sa : R.sd ≠ R.ad := ne_of es ea (fun z => nomatch z)
  refine ⟨_, rfl, _, rfl, x, _, dx1, fs, _, rfl, e, T.co_Token.cl, T.na_Token_text, l2, (by show 2 ≤ sizeLine; decide), fun p hp => ?_⟩
  have s1 : Same H (upd H p (.tup [.str (kdS k), .str (strOf xb)])) := same_upd hp
  refine ⟨_, rfl, R.n, _, dx, _, _, rfl, s1 _ _ e0, T.co_Names.cl, T.na_Names_standing, rfl, R.sd, _, rfl, DGet.t (k := [.inr (kdS k), .inr (strOf xb)]) (s1 _ _ es) upd_same, _, rfl, ?_⟩
  have hin := hs k xb hk
  by_cases hm : xb ∈ L k
  · rw [hin.mpr hm]
    refine iteT (q2 (.inl hm) _ ?_ (same_keepN s1))
    unfold standL
    rw [if_pos hm]
    exact N.same s1
  rw [show (valV ks [.inr (kdS k), .inr (strOf xb)]).isSome = false from Bool.eq_false_iff.mpr fun z => hm (hin.mp z)]
  refine iteF ⟨_, rfl, R.n, dx, _, rfl, s1 _ _ e0, rfl, _, rfl, _, rfl, R, L, k, x, kd, _, n, pl, af, rfl, N.same s1, tk0.same s1, fun hl => ?_, fun hl => q1 hm hl⟩
  refine ⟨_, rfl, R.n, _, dx, _, _, rfl, s1 _ _ e0, T.co_Names.cl, T.na_Names_standing, rfl, _, rfl, _, rfl, x, _, dx1, fs, _, rfl, s1 _ _ e, T.co_Token.cl, T.na_Token_text, l2, (by show 2 ≤ sizeLine; decide), fun p2 hp2 => ?_⟩
  generalize hH1 : upd H p (.tup [.str (kdS k), .str (strOf xb)]) = H1 at s1 hp2
  have s2 : Same H (upd H1 p2 (.tup [.str (kdS k), .str (strOf xb)])) := s1.trans (same_upd hp2)
  refine ⟨R.sd, _, rfl, DPut.t (k := [.inr (kdS k), .inr (strOf xb)]) (s2 _ _ es) upd_same (small ls N.bd), ?_⟩
  generalize hH2 : upd H1 p2 (.tup [.str (kdS k), .str (strOf xb)]) = H2 at s2
  have e0' : (upd H2 R.sd (.dT (putK ks [.inr (kdS k), .inr (strOf xb)] (.bl true)))) R.n = some (.ins a.c_Names dx (nfs R.td R.sd R.ad)) := by rw [upd_ne ns]; exact s2 _ _ e0
  have ea' : (upd H2 R.sd (.dT (putK ks [.inr (kdS k), .inr (strOf xb)] (.bl true)))) R.ad = some (.dK ka) := by rw [upd_ne sa.symm]; exact s2 _ _ ea
  refine ⟨_, rfl, R.n, dx, _, rfl, e0', rfl, _, rfl, R, dx, ka, kdS k, _, rfl, e0', ea', ha k, _, _, rfl, rfl, ?_⟩
  refine ⟨_, rfl, R.n, _, dx, _, _, rfl, e0', T.co_Names.cl, T.na_Names_amounts, rfl, _, rfl, R.ad, _, rfl, DPut.k (k := .inr (kdS k)) ea' (small la N.bd), ?_⟩
  refine q2 (.inr hl) _ ?_ fun b o eb n1 n2 n3 => ?_
  · unfold standL
    rw [if_neg hm]
    refine ⟨⟨dx, ?_⟩, ⟨kt, ?_, ht.add hk, ?_⟩, ⟨_, ?_, hs.put hk, ?_⟩, ⟨_, upd_same, ha.put, ?_⟩, N.ne, bd_add N.bd hl⟩
    · rw [upd_ne na]; exact e0'
    · rw [upd_ne N.ne, upd_ne st.symm]; exact s2 _ _ et
    · rw [tot_add]; omega
    · rw [upd_ne sa]; exact upd_same
    · have := length_putK ks [.inr (kdS k), .inr (strOf xb)] (.bl true); rw [tot_add]; omega
    · rw [tot_add]; exact Nat.le_trans (length_putK ka (.inr (kdS k)) _) (Nat.succ_le_succ la)
  · rw [upd_ne n3, upd_ne n2]; exact s2 _ _ eb
def noneL : NL := fun _ => []
def spNamesInit (a : Ad) : Sp := fun vs H Q _ => ∃ (x dx : Addr), vs = [.ref x] ∧ H x = some (.ins a.c_Names dx []) ∧ ∀ (H' : Hp) (R : NA), R.n = x → NmAt a R noneL H' → (∀ b o, H b = some o → b ≠ x → H' b = some o) → Q .non H'
theorem sc_Names_init : FnScope ["self"] ["self"] (defScope s_Names_init) := ⟨rfl, rfl, rfl, by decide +kernel, rfl, by decide +kernel, by decide +kernel⟩
theorem ok_Names_init (T : Tx P w K mg a) : FnOk P w K mg base CX0 1 a.f_Names_init a.d_Names_init ["self"] (spNamesInit a) := by
  refine T.Names_init.1.ok sc_Names_init (fun vs H Q E h => ?_) (fun cdv A outer s H vs Q E hr h => ?_)
  · obtain ⟨_, _, rfl, _⟩ := h; rfl
  obtain ⟨x, dx, rfl, hx, q⟩ := h
  refine ⟨_, pss_cons (ps_fld (pv 0) pe_dnewK rfl) (pss_cons (ps_fld (pv 0) pe_dnewT rfl) (pss_one (ps_fld (pv 0) pe_dnewK rfl))), ?_⟩
  have C := T.co_Names.cl
  have nx {H : Hp} {p b : Addr} {o : HO} (h : H p = none) (e : H b = some o) : b ≠ p := fun z => by rw [z, h] at e; cases e
  intro td htd
  have n1 : x ≠ td := nx htd hx
  refine ⟨_, rfl, x, _, dx, _, rfl, (by rw [upd_ne n1]; exact hx), C, T.na_Names_told, (by show 0 < 1000; decide), ?_⟩
  intro sd hsd
  have e1 : (upd (upd H td (.dK [])) x (.ins a.c_Names dx (putF "told" (.ref td) []))) td = some (.dK []) := by rw [upd_ne n1.symm]; exact upd_same
  have n2 : x ≠ sd := nx hsd upd_same
  have n3 : td ≠ sd := nx hsd e1
  refine ⟨_, rfl, x, _, dx, _, rfl, (by rw [upd_ne n2]; exact upd_same), C, T.na_Names_standing, (by show 1 < 1000; decide), ?_⟩
  intro ad had
  have n4 : x ≠ ad := nx had upd_same
  have n5 : sd ≠ ad := nx had (by rw [upd_ne n2.symm]; exact upd_same)
  have n6 : td ≠ ad := nx had (by rw [upd_ne n1.symm, upd_ne n3]; exact e1)
  refine ⟨_, rfl, x, _, dx, _, rfl, (by rw [upd_ne n4]; exact upd_same), C, T.na_Names_amounts, (by show 2 < 1000; decide), ?_⟩
  refine q _ ⟨x, td, sd, ad⟩ rfl ⟨⟨dx, upd_same⟩, ⟨[], ?_, fun y v => ?_, Nat.zero_le _⟩, ⟨[], ?_, fun k y _ => ?_, Nat.zero_le _⟩, ⟨[], ?_, fun k => rfl, Nat.zero_le _⟩, n6, fun k => Nat.zero_le _⟩ fun b o eb hb => ?_
  · rw [upd_ne n1.symm, upd_ne n6, upd_ne n1.symm, upd_ne n3]; exact e1
  · rw [valV_nil]
    constructor
    · intro z; cases z
    · rintro ⟨j, _, _, hm⟩; cases hm
  · rw [upd_ne n2.symm, upd_ne n5, upd_ne n2.symm]; exact upd_same
  · rw [valV_nil]
    constructor
    · intro z; cases z
    · intro hm; cases hm
  · rw [upd_ne n4.symm]; exact upd_same
  · have b1 : b ≠ td := nx htd eb
    have g1 : (upd H td (.dK [])) b = some o := by rw [upd_ne b1]; exact eb
    have g2 : (upd (upd H td (.dK [])) x (.ins a.c_Names dx (putF "told" (.ref td) []))) b = some o := by rw [upd_ne hb]; exact g1
    have b2 : b ≠ sd := nx hsd g2
    have g3 : (upd (upd (upd (upd H td (.dK [])) x (.ins a.c_Names dx (putF "told" (.ref td) []))) sd (.dT [])) x (.ins a.c_Names dx (putF "standing" (.ref sd) (putF "told" (.ref td) [])))) b = some o := by rw [upd_ne hb, upd_ne b2]; exact g2
    rw [upd_ne hb, upd_ne (nx had g3)]
    exact g3
end Wale
end
section
set_option Elab.async false
set_option linter.all false
set_option maxRecDepth 100000
set_option maxHeartbeats 2000000
namespace Wale
open PySem PySem.Spec PyProof.Rows L2
open Wm
variable {P : Program} {w : World} {K : PySem.W.Frag} {mg : Str → Option Value} {base : Heap} {a : Ad}
structure RA where
  r : Addr
  t : Addr
  N : NA
def rfs (t : Addr) (v : V) (p d : Nat) (n : Addr) : List (Str × V) := [("source", .ref t), ("ahead", v), ("after", .int (p : Int)), ("depth", .int (d : Int)), ("names", .ref n)]
def notBad (b : Bytes) (p : Nat) : Prop := ∀ k, tkOf b p ≠ .bad k
def TokIs (a : Ad) (b : Bytes) (p : Nat) (H : Hp) (x : Addr) : Prop := TokAt a.c_Token H x (kdTok (tkOf b p)) (txTok (tkOf b p)) (nmTok (tkOf b p) : Nat) (tkAt b p : Nat) (tkEnd b p : Nat)
def AhOk (a : Ad) (b : Bytes) (p : Nat) (H : Hp) (v : V) : Prop := v = .non ∨ ∃ x, v = .ref x ∧ notBad b p ∧ TokIs a b p H x
structure RdrAt (a : Ad) (K : PySem.W.Frag) (b : Bytes) (R : RA) (p d : Nat) (L : NL) (H : Hp) : Prop where
  obj : ∃ dx v, H R.r = some (.ins a.c_Reader dx (rfs R.t v p d R.N.n)) ∧ AhOk a b p H v
  src : SqL K H R.t (nums b)
  nm : NmAt a R.N L H
  len : b.length ≤ 20000
  pl : p ≤ b.length
def KeepR (R : RA) (H H' : Hp) : Prop := ∀ b o, H b = some o → b ≠ R.r → b ≠ R.N.td → b ≠ R.N.sd → b ≠ R.N.ad → H' b = some o
theorem KeepR.refl (R : RA) (H : Hp) : KeepR R H H := fun _ _ h _ _ _ _ => h
theorem same_keepR {R : RA} {H H' : Hp} (h : Same H H') : KeepR R H H' := fun b o e _ _ _ _ => h b o e
theorem KeepR.trans {R : RA} {H H1 H2 : Hp} (h : KeepR R H H1) (g : KeepR R H1 H2) : KeepR R H H2 := fun b o e n1 n2 n3 n4 => g b o (h b o e n1 n2 n3 n4) n1 n2 n3 n4
theorem KeepN.keepR {R : RA} {H H' : Hp} (h : KeepN R.N H H') : KeepR R H H' := fun b o e _ n2 n3 n4 => h b o e n2 n3 n4
theorem keepR_put {R : RA} {H : Hp} {o : HO} : KeepR R H (upd H R.r o) := fun b ob e n1 _ _ _ => by rw [upd_ne n1]; exact e
theorem tok_ne {H : Hp} {x r : Addr} {C C' dx : Addr} {kd tx : Str} {n pl af : Int} {fs : List (Str × V)} (h : TokAt C H x kd tx n pl af) (e : H r = some (.ins C' dx fs)) (l : fs.lookup ("kind" : Str) = none) : x ≠ r := by
  obtain ⟨dx1, fs1, e1, l1, -⟩ := h
  intro z
  rw [z, e] at e1
  cases e1
  rw [l] at l1
  cases l1
section
variable {b : Bytes} {R : RA} {p d : Nat} {L : NL} {H H' : Hp}
theorem RdrAt.robj (h : RdrAt a K b R p d L H) : ∃ dx fs, H R.r = some (.ins a.c_Reader dx fs) ∧ fs.lookup ("kind" : Str) = none := by
  obtain ⟨dx, v, e, -⟩ := h.obj
  exact ⟨dx, _, e, rfl⟩
theorem TokAt.keepR {C x : Addr} {kd tx : Str} {n pl af : Int} (h : TokAt C H x kd tx n pl af) (N : RdrAt a K b R p d L H) (s : KeepR R H H') : TokAt C H' x kd tx n pl af := by
  obtain ⟨dr, fr, er, lr⟩ := N.robj
  have nr := tok_ne h er lr
  obtain ⟨dx, fs, e, r⟩ := h
  obtain ⟨k1, e1, -⟩ := N.nm.tdk
  obtain ⟨k2, e2, -⟩ := N.nm.sdk
  obtain ⟨k3, e3, -⟩ := N.nm.adk
  exact ⟨dx, fs, s _ _ e nr (ne_of e e1 (fun z => nomatch z)) (ne_of e e2 (fun z => nomatch z)) (ne_of e e3 (fun z => nomatch z)), r⟩
theorem Rd.keepR {t : Addr} {xs : List V} (h : Rd H t (.lst xs)) (N : RdrAt a K b R p d L H) (s : KeepR R H H') : Rd H' t (.lst xs) := by
  obtain ⟨dr, fr, er, lr⟩ := N.robj
  obtain ⟨k1, e1, -⟩ := N.nm.tdk
  obtain ⟨k2, e2, -⟩ := N.nm.sdk
  obtain ⟨k3, e3, -⟩ := N.nm.adk
  rcases h with e | ⟨o, e⟩
  · exact .inl (s _ _ e (ne_of e er (fun z => nomatch z)) (ne_of e e1 (fun z => nomatch z)) (ne_of e e2 (fun z => nomatch z)) (ne_of e e3 (fun z => nomatch z)))
  · exact .inr ⟨o, s _ _ e (ne_of e er (fun z => nomatch z)) (ne_of e e1 (fun z => nomatch z)) (ne_of e e2 (fun z => nomatch z)) (ne_of e e3 (fun z => nomatch z))⟩
theorem SqL.keepR {t : Addr} {xs : List V} (h : SqL K H t xs) (N : RdrAt a K b R p d L H) (s : KeepR R H H') : SqL K H' t xs := by
  rcases h with h | h
  · exact .inl (Rd.keepR h N s)
  · exact .inr h
theorem RdrAt.names {L' : NL} (h : RdrAt a K b R p d L H) (k : KeepN R.N H H') (n : NmAt a R.N L' H') : RdrAt a K b R p d L' H' := by
  obtain ⟨k1, e1, -⟩ := h.nm.tdk
  obtain ⟨k2, e2, -⟩ := h.nm.sdk
  obtain ⟨k3, e3, -⟩ := h.nm.adk
  obtain ⟨dx, v, e, hv⟩ := h.obj
  refine ⟨⟨dx, v, k _ _ e (ne_of e e1 (fun z => nomatch z)) (ne_of e e2 (fun z => nomatch z)) (ne_of e e3 (fun z => nomatch z)), ?_⟩, SqL.keepR h.src h k.keepR, n, h.len, h.pl⟩
  rcases hv with hv | ⟨x, ev, nb, tk⟩
  · exact .inl hv
  · exact .inr ⟨x, ev, nb, TokAt.keepR tk h k.keepR⟩
theorem RdrAt.same (h : RdrAt a K b R p d L H) (s : Same H H') : RdrAt a K b R p d L H' := h.names (same_keepN s) (h.nm.same s)
theorem RdrAt.put {dx : Addr} {v v' : V} {p' d' : Nat} (h : RdrAt a K b R p d L H) (e : H R.r = some (.ins a.c_Reader dx (rfs R.t v p d R.N.n))) (hv : AhOk a b p' H v') (hp : p' ≤ b.length) :
    RdrAt a K b R p' d' L (upd H R.r (.ins a.c_Reader dx (rfs R.t v' p' d' R.N.n))) := by
  have kp : KeepR R H (upd H R.r (.ins a.c_Reader dx (rfs R.t v' p' d' R.N.n))) := keepR_put
  obtain ⟨k1, e1, t1⟩ := h.nm.tdk
  obtain ⟨k2, e2, t2⟩ := h.nm.sdk
  obtain ⟨k3, e3, t3⟩ := h.nm.adk
  obtain ⟨dn, en⟩ := h.nm.obj
  have nr : R.N.n ≠ R.r := ne_of en e (fun z => by
    injection z with z1 z2 z3
    exact absurd (congrArg List.length z3) (show ¬ (3 = 5) by decide))
  refine ⟨⟨dx, v', upd_same, ?_⟩, SqL.keepR h.src h kp, ⟨⟨dn, ?_⟩, ⟨k1, ?_, t1⟩, ⟨k2, ?_, t2⟩, ⟨k3, ?_, t3⟩, h.nm.ne, h.nm.bd⟩, h.len, hp⟩
  · rcases hv with hv | ⟨x, ev, nb, tk⟩
    · exact .inl hv
    · exact .inr ⟨x, ev, nb, TokAt.keepR tk h kp⟩
  · rw [upd_ne nr]; exact en
  · rw [upd_ne (ne_of e1 e (fun z => nomatch z))]; exact e1
  · rw [upd_ne (ne_of e2 e (fun z => nomatch z))]; exact e2
  · rw [upd_ne (ne_of e3 e (fun z => nomatch z))]; exact e3
end
def BadTk (K : PySem.W.Frag) (a : Ad) (b : Bytes) (p : Nat) (E : XK) : Prop := ∀ k : Nat, tkOf b p = .bad k → Told K a E k (tkAt b p : Nat)
def spPeek (K : PySem.W.Frag) (a : Ad) : Sp := fun vs H Q E => ∃ (b : Bytes) (R : RA) (p d : Nat) (L : NL), vs = [.ref R.r] ∧ RdrAt a K b R p d L H ∧ BadTk K a b p E ∧
  (notBad b p → ∀ (H' : Hp) (x : Addr), RdrAt a K b R p d L H' → KeepR R H H' → TokIs a b p H' x → Q (.ref x) H')
theorem sc_Reader_peek : FnScope ["self"] ["self"] (defScope s_Reader_peek) := ⟨rfl, rfl, rfl, by decide +kernel, rfl, by decide +kernel, by decide +kernel⟩
theorem ok_peek (T : Tx P w K mg a) : FnOk P w K mg base (CXF P w) 7 a.f_Reader_peek a.d_Reader_peek ["self"] (spPeek K a) := by
  refine T.Reader_peek.fn.okx sc_Reader_peek (fun vs H Q E h => ?_) (fun cdv A outer s H vs Q E hr h => ?_)
  · obtain ⟨_, _, _, _, _, rfl, _⟩ := h; rfl
  obtain ⟨b, R, p, d, L, rfl, hR, kb, kq⟩ := h
  have C := T.co_Reader.cl
  refine ⟨_, pss_cons (ps_if (pt_cmpR op_isN (pe_fld (pv 0) rfl) pe_non (nomark _))
    (pss_one (ps_fld (pv 0) (callD T.token_at (ok_token_at T) hr passes_def (pa_cons (pe_fld (pv 0) rfl) (pa_cons (pe_fld (pv 0) rfl) pa_nil))) rfl)) pss_nil) (pss_one (ps_ret (pe_fld (pv 0) rfl))), ?_⟩
  obtain ⟨dx, v, e, hv⟩ := hR.obj
  refine ⟨_, rfl, R.r, _, dx, _, _, rfl, e, C, T.na_Reader_ahead, rfl, rfl, _, rfl, ?_⟩
  rcases hv with rfl | ⟨x, rfl, nb, tk⟩
  · refine iteT ⟨_, rfl, R.r, _, dx, _, _, rfl, e, C, T.na_Reader_source, rfl, _, rfl, R.r, _, dx, _, _, rfl, e, C, T.na_Reader_after, rfl, R.t, b, p, rfl, hR.src, hR.pl, hR.len, fun nb => ?_, kb⟩
    intro x H' sm fr tk
    have e' := sm _ _ e
    refine ⟨_, rfl, R.r, _, dx, _, rfl, e', C, T.na_Reader_ahead, (by show 5 < 1000; decide), ?_⟩
    have h2 := (hR.same sm).put (v' := .ref x) (p' := p) (d' := d) e' (.inr ⟨x, rfl, nb, tk⟩) hR.pl
    refine ⟨_, rfl, R.r, _, dx, _, _, rfl, upd_same, C, T.na_Reader_ahead, rfl, ?_⟩
    exact kq nb _ x h2 ((same_keepR sm).trans keepR_put) (TokAt.keepR tk (hR.same sm) keepR_put)
  · exact iteF ⟨_, rfl, R.r, _, dx, _, _, rfl, e, C, T.na_Reader_ahead, rfl, kq nb H x hR (KeepR.refl _ _) tk⟩
def spStep (K : PySem.W.Frag) (a : Ad) : Sp := fun vs H Q E => ∃ (b : Bytes) (R : RA) (p d : Nat) (L : NL), vs = [.ref R.r] ∧ RdrAt a K b R p d L H ∧ BadTk K a b p E ∧
  (notBad b p → ∀ (H' : Hp) (x : Addr), RdrAt a K b R (tkEnd b p) d L H' → KeepR R H H' → TokIs a b p H' x → Q (.ref x) H')
theorem sc_Reader_step : FnScope ["self", "token"] ["self"] (defScope s_Reader_step) := ⟨rfl, rfl, rfl, by decide +kernel, rfl, by decide +kernel, by decide +kernel⟩
theorem ok_step (T : Tx P w K mg a) : FnOk P w K mg base (CXF P w) 8 a.f_Reader_step a.d_Reader_step ["self"] (spStep K a) := by
  refine T.Reader_step.fn.okx sc_Reader_step (fun vs H Q E h => ?_) (fun cdv A outer s H vs Q E hr h => ?_)
  · obtain ⟨_, _, _, _, _, rfl, _⟩ := h; rfl
  obtain ⟨b, R, p, d, L, rfl, hR, kb, kq⟩ := h
  have C := T.co_Reader.cl
  refine ⟨_, pss_cons (ps_set (i := 1) sc_Reader_step.nd rfl (Or.inl rfl) (pe_meth0 (pv 0) C T.Reader_peek.mt (ok_peek T) hr T.Reader_peek.bd .nil passes_def))
    (pss_cons (ps_fld (pv 0) pe_non rfl) (pss_cons (ps_fld (pv 0) (pe_fld (pv 1) rfl) rfl) (pss_one (ps_ret (pv 1))))), ?_⟩
  obtain ⟨dx, v, e, hv⟩ := hR.obj
  refine ⟨_, rfl, R.r, dx, _, rfl, e, rfl, b, R, p, d, L, rfl, hR, kb, fun nb H1 x hR1 kp1 tk1 => ?_⟩
  obtain ⟨dx1, v1, e1, hv1⟩ := hR1.obj
  refine ⟨_, rfl, R.r, _, dx1, _, rfl, e1, C, T.na_Reader_ahead, (by show 5 < 1000; decide), ?_⟩
  have hR2 := hR1.put (v' := .non) (p' := p) (d' := d) e1 (.inl rfl) hR.pl
  have tk2 := TokAt.keepR tk1 hR1 (keepR_put (o := .ins a.c_Reader dx1 (rfs R.t .non p d R.N.n)))
  obtain ⟨dt, ft, et, lt1, lt2, lt3, lt4, lt5⟩ := tk2
  refine ⟨_, rfl, x, _, dt, ft, _, rfl, et, T.co_Token.cl, T.na_Token_after, lt5, _, rfl, R.r, _, dx1, _, rfl, upd_same, C, T.na_Reader_after, (by show 5 < 1000; decide), ?_⟩
  have hR3 := hR2.put (v' := .non) (p' := tkEnd b p) (d' := d) upd_same (.inl rfl) (tkEnd_le hR.pl)
  exact ⟨_, rfl, kq nb _ x hR3 ((kp1.trans keepR_put).trans keepR_put) (TokAt.keepR ⟨dt, ft, et, lt1, lt2, lt3, lt4, lt5⟩ hR2 keepR_put)⟩
end Wale
end
section
set_option Elab.async false
set_option linter.all false
set_option maxRecDepth 100000
set_option maxHeartbeats 2000000
namespace Wale
open PySem PySem.Spec PyProof.Rows L2
open Wm
variable {P : Program} {w : World} {K : PySem.W.Frag} {mg : Str → Option Value} {base : Heap} {a : Ad}
def spSkip (K : PySem.W.Frag) (a : Ad) : Sp := fun vs H Q E => ∃ (b : Bytes) (R : RA) (p d : Nat) (L : NL) (tx : Str), vs = [.ref R.r, .str tx] ∧ RdrAt a K b R p d L H ∧ BadTk K a b p E ∧
  (notBad b p → txTok (tkOf b p) = tx → ∀ H' : Hp, RdrAt a K b R (tkEnd b p) d L H' → KeepR R H H' → Q (.bl true) H') ∧ (notBad b p → txTok (tkOf b p) ≠ tx → ∀ H' : Hp, RdrAt a K b R p d L H' → KeepR R H H' → Q (.bl false) H')
theorem sc_Reader_skip : FnScope ["self", "text", "there"] ["self", "text"] (defScope s_Reader_skip) := ⟨rfl, rfl, rfl, by decide +kernel, rfl, by decide +kernel, by decide +kernel⟩
theorem ok_skip (T : Tx P w K mg a) : FnOk P w K mg base (CXF P w) 9 a.f_Reader_skip a.d_Reader_skip ["self", "text"] (spSkip K a) := by
  refine T.Reader_skip.fn.okx sc_Reader_skip (fun vs H Q E h => ?_) (fun cdv A outer s H vs Q E hr h => ?_)
  · obtain ⟨_, _, _, _, _, _, rfl, _⟩ := h; rfl
  obtain ⟨b, R, p, d, L, tx, rfl, hR, kb, k1, k2⟩ := h
  have C := T.co_Reader.cl
  refine ⟨_, pss_cons (ps_set (i := 2) sc_Reader_skip.nd rfl (Or.inl rfl) (pe_cmpR op_eq (pe_fld (pe_meth0 (pv 0) C T.Reader_peek.mt (ok_peek T) (hr.mono (by decide)) T.Reader_peek.bd .nil passes_def) rfl) (pv 1) (nomark _)))
    (pss_cons (ps_if (pt_val (pv 2)) (pss_one (ps_expr (pe_meth0 (pv 0) C T.Reader_step.mt (ok_step T) hr T.Reader_step.bd .nil passes_def))) pss_nil) (pss_one (ps_ret (pv 2)))), ?_⟩
  obtain ⟨dx, v, e, hv⟩ := hR.obj
  refine ⟨_, rfl, R.r, dx, _, rfl, e, rfl, b, R, p, d, L, rfl, hR, kb, fun nb H1 x hR1 kp1 tk1 => ?_⟩
  obtain ⟨dt, ft, et, lt1, lt2, lt3, lt4, lt5⟩ := tk1
  refine ⟨x, _, dt, ft, _, rfl, et, T.co_Token.cl, T.na_Token_text, lt2, _, rfl, rfl, _, rfl, _, rfl, ?_⟩
  rw [dec_s]
  obtain ⟨dx1, v1, e1, hv1⟩ := hR1.obj
  by_cases ht : txTok (tkOf b p) = tx
  · rw [decide_eq_true ht]
    refine iteT ⟨_, rfl, R.r, dx1, _, rfl, e1, rfl, b, R, p, d, L, rfl, hR1, kb, fun _ H2 y hR2 kp2 tk2 => ?_⟩
    exact ⟨_, rfl, k1 nb ht H2 hR2 (kp1.trans kp2)⟩
  · rw [decide_eq_false ht]
    exact iteF ⟨_, rfl, k2 nb ht H1 hR1 kp1⟩
def spWant (K : PySem.W.Frag) (a : Ad) (f : LsWale.Tok → Str) : Sp := fun vs H Q E => ∃ (b : Bytes) (R : RA) (p d : Nat) (L : NL) (tx : Str), vs = [.ref R.r, .str tx] ∧ RdrAt a K b R p d L H ∧ BadTk K a b p E ∧
  (notBad b p → f (tkOf b p) = tx → ∀ (H' : Hp) (x : Addr), RdrAt a K b R (tkEnd b p) d L H' → KeepR R H H' → TokIs a b p H' x → Q (.ref x) H') ∧ (notBad b p → f (tkOf b p) ≠ tx → Told K a E 3 (tkAt b p : Nat))
theorem sc_Reader_want : FnScope ["self", "text"] ["self", "text"] (defScope s_Reader_want) := ⟨rfl, rfl, rfl, by decide +kernel, rfl, by decide +kernel, by decide +kernel⟩
theorem ok_want (T : Tx P w K mg a) : FnOk P w K mg base (CXF P w) 9 a.f_Reader_want a.d_Reader_want ["self", "text"] (spWant K a txTok) := by
  refine T.Reader_want.fn.okx sc_Reader_want (fun vs H Q E h => ?_) (fun cdv A outer s H vs Q E hr h => ?_)
  · obtain ⟨_, _, _, _, _, _, rfl, _⟩ := h; rfl
  obtain ⟨b, R, p, d, L, tx, rfl, hR, kb, k1, k2⟩ := h
  have C := T.co_Reader.cl
  have hr7 : Room 7 _ := hr.mono (by decide)
  refine ⟨_, pss_cons (ps_if (pt_cmpR op_ne (pe_fld (pe_meth0 (pv 0) C T.Reader_peek.mt (ok_peek T) hr7 T.Reader_peek.bd .nil passes_def) rfl) (pv 1) (nomark _))
    (pss_one (ps_fault rfl raises_def T.cx_WantFault (ok_WantFault_init T) T.WantFault_init.2 (hr.mono (by decide)) (pe_fld (pe_meth0 (pv 0) C T.Reader_peek.mt (ok_peek T) hr7 T.Reader_peek.bd .nil passes_def) rfl))) pss_nil)
    (pss_one (ps_ret (pe_meth0 (pv 0) C T.Reader_step.mt (ok_step T) hr T.Reader_step.bd .nil passes_def))), ?_⟩
  obtain ⟨dx, v, e, hv⟩ := hR.obj
  refine ⟨_, rfl, R.r, dx, _, rfl, e, rfl, b, R, p, d, L, rfl, hR, kb, fun nb H1 x hR1 kp1 tk1 => ?_⟩
  obtain ⟨dt, ft, et, lt1, lt2, lt3, lt4, lt5⟩ := tk1
  refine ⟨x, _, dt, ft, _, rfl, et, T.co_Token.cl, T.na_Token_text, lt2, _, rfl, rfl, _, rfl, ?_⟩
  rw [dec_s]
  obtain ⟨dx1, v1, e1, hv1⟩ := hR1.obj
  by_cases ht : txTok (tkOf b p) = tx
  · refine iteNS ht ⟨_, rfl, R.r, dx1, _, rfl, e1, rfl, b, R, p, d, L, rfl, hR1, kb, fun _ H2 y hR2 kp2 tk2 => ?_⟩
    exact k1 nb ht H2 y hR2 (kp1.trans kp2) tk2
  · rw [decide_eq_false ht]
    refine iteT ⟨_, rfl, R.r, dx1, _, rfl, e1, rfl, b, R, p, d, L, rfl, hR1, kb, fun _ H2 y hR2 kp2 tk2 => ?_⟩
    obtain ⟨du, fu, eu, lu1, lu2, lu3, lu4, lu5⟩ := tk2
    exact ⟨y, _, du, fu, _, rfl, eu, T.co_Token.cl, T.na_Token_place, lu4, flt_ok T.cx_WantFault (k2 nb ht)⟩
theorem sc_Reader_want_kind : FnScope ["self", "kind"] ["self", "kind"] (defScope s_Reader_want_kind) := ⟨rfl, rfl, rfl, by decide +kernel, rfl, by decide +kernel, by decide +kernel⟩
theorem ok_want_kind (T : Tx P w K mg a) : FnOk P w K mg base (CXF P w) 9 a.f_Reader_want_kind a.d_Reader_want_kind ["self", "kind"] (spWant K a kdTok) := by
  refine T.Reader_want_kind.fn.okx sc_Reader_want_kind (fun vs H Q E h => ?_) (fun cdv A outer s H vs Q E hr h => ?_)
  · obtain ⟨_, _, _, _, _, _, rfl, _⟩ := h; rfl
  obtain ⟨b, R, p, d, L, tx, rfl, hR, kb, k1, k2⟩ := h
  have C := T.co_Reader.cl
  have hr7 : Room 7 _ := hr.mono (by decide)
  refine ⟨_, pss_cons (ps_if (pt_cmpR op_ne (pe_fld (pe_meth0 (pv 0) C T.Reader_peek.mt (ok_peek T) hr7 T.Reader_peek.bd .nil passes_def) rfl) (pv 1) (nomark _))
    (pss_one (ps_fault rfl raises_def T.cx_WantFault (ok_WantFault_init T) T.WantFault_init.2 (hr.mono (by decide)) (pe_fld (pe_meth0 (pv 0) C T.Reader_peek.mt (ok_peek T) hr7 T.Reader_peek.bd .nil passes_def) rfl))) pss_nil)
    (pss_one (ps_ret (pe_meth0 (pv 0) C T.Reader_step.mt (ok_step T) hr T.Reader_step.bd .nil passes_def))), ?_⟩
  obtain ⟨dx, v, e, hv⟩ := hR.obj
  refine ⟨_, rfl, R.r, dx, _, rfl, e, rfl, b, R, p, d, L, rfl, hR, kb, fun nb H1 x hR1 kp1 tk1 => ?_⟩
  obtain ⟨dt, ft, et, lt1, lt2, lt3, lt4, lt5⟩ := tk1
  refine ⟨x, _, dt, ft, _, rfl, et, T.co_Token.cl, T.na_Token_kind, lt1, _, rfl, rfl, _, rfl, ?_⟩
  rw [dec_s]
  obtain ⟨dx1, v1, e1, hv1⟩ := hR1.obj
  by_cases ht : kdTok (tkOf b p) = tx
  · refine iteNS ht ⟨_, rfl, R.r, dx1, _, rfl, e1, rfl, b, R, p, d, L, rfl, hR1, kb, fun _ H2 y hR2 kp2 tk2 => ?_⟩
    exact k1 nb ht H2 y hR2 (kp1.trans kp2) tk2
  · rw [decide_eq_false ht]
    refine iteT ⟨_, rfl, R.r, dx1, _, rfl, e1, rfl, b, R, p, d, L, rfl, hR1, kb, fun _ H2 y hR2 kp2 tk2 => ?_⟩
    obtain ⟨du, fu, eu, lu1, lu2, lu3, lu4, lu5⟩ := tk2
    exact ⟨y, _, du, fu, _, rfl, eu, T.co_Token.cl, T.na_Token_place, lu4, flt_ok T.cx_WantFault (k2 nb ht)⟩
def spEnter (K : PySem.W.Frag) (a : Ad) : Sp := fun vs H Q E => ∃ (b : Bytes) (R : RA) (p d : Nat) (L : NL) (tx : Str), vs = [.ref R.r, .str tx] ∧ RdrAt a K b R p d L H ∧ BadTk K a b p E ∧
  (notBad b p → txTok (tkOf b p) ≠ tx → Told K a E 3 (tkAt b p : Nat)) ∧ (notBad b p → txTok (tkOf b p) = tx → d = 8 → Told K a E 6 (tkAt b p : Nat)) ∧
  (notBad b p → txTok (tkOf b p) = tx → d ≠ 8 → ∀ H' : Hp, RdrAt a K b R (tkEnd b p) (d + 1) L H' → KeepR R H H' → Q .non H')
theorem sc_Reader_enter : FnScope ["self", "text", "token"] ["self", "text"] (defScope s_Reader_enter) := ⟨rfl, rfl, rfl, by decide +kernel, rfl, by decide +kernel, by decide +kernel⟩
theorem ok_enter (T : Tx P w K mg a) : FnOk P w K mg base (CXF P w) 10 a.f_Reader_enter a.d_Reader_enter ["self", "text"] (spEnter K a) := by
  refine T.Reader_enter.fn.okx sc_Reader_enter (fun vs H Q E h => ?_) (fun cdv A outer s H vs Q E hr h => ?_)
  · obtain ⟨_, _, _, _, _, _, rfl, _⟩ := h; rfl
  obtain ⟨b, R, p, d, L, tx, rfl, hR, kb, k1, k2, k3⟩ := h
  have C := T.co_Reader.cl
  refine ⟨_, pss_cons (ps_set (i := 2) sc_Reader_enter.nd rfl (Or.inl rfl) (pe_meth (pv 0) C T.Reader_want.mt (ok_want T) hr T.Reader_want.bd .nil passes_def (pa_cons (pv 1) pa_nil)))
    (pss_cons (ps_if (pt_cmpR op_eq (pe_fld (pv 0) rfl) (pk_int T.k_DEEPEST) (nomark _)) (pss_one (ps_fault rfl raises_def T.cx_BoundFault (ok_BoundFault_init T) T.BoundFault_init.2 (hr.mono (by decide)) (pe_fld (pv 2) rfl))) pss_nil)
    (pss_one (ps_fldaug (pv 0) pe_int in_add))), ?_⟩
  obtain ⟨dx, v, e, hv⟩ := hR.obj
  refine ⟨_, rfl, R.r, dx, _, rfl, e, rfl, _, rfl, b, R, p, d, L, tx, rfl, hR, kb, fun nb ht H1 x hR1 kp1 tk1 => ?_, k1⟩
  obtain ⟨dx1, v1, e1, hv1⟩ := hR1.obj
  refine ⟨_, rfl, R.r, _, dx1, _, _, rfl, e1, C, T.na_Reader_depth, rfl, rfl, _, rfl, ?_⟩
  rw [dec_v]
  refine ite2 (fun c => ?_) (fun c => ?_)
  · obtain ⟨dt, ft, et, lt1, lt2, lt3, lt4, lt5⟩ := tk1
    exact ⟨_, rfl, x, _, dt, ft, _, rfl, et, T.co_Token.cl, T.na_Token_place, lt4, flt_ok T.cx_BoundFault (k2 nb ht (by have := of_decide_eq_true c; omega))⟩
  · refine ⟨_, rfl, R.r, _, dx1, _, _, rfl, e1, C, T.na_Reader_depth, rfl, _, _, rfl, rfl, dx1, _, e1, (by show 5 < 1000; decide), ?_⟩
    exact k3 nb ht (fun z => c (decide_eq_true (by rw [z]; rfl))) _ (hR1.put (v' := v1) (p' := tkEnd b p) (d' := d + 1) e1 hv1 hR1.pl) (kp1.trans keepR_put)
def spLeave (K : PySem.W.Frag) (a : Ad) : Sp := fun vs H Q E => ∃ (b : Bytes) (R : RA) (p d : Nat) (L : NL) (tx : Str), vs = [.ref R.r, .str tx] ∧ RdrAt a K b R p (d + 1) L H ∧ BadTk K a b p E ∧
  (notBad b p → txTok (tkOf b p) ≠ tx → Told K a E 3 (tkAt b p : Nat)) ∧ (notBad b p → txTok (tkOf b p) = tx → ∀ H' : Hp, RdrAt a K b R (tkEnd b p) d L H' → KeepR R H H' → Q .non H')
theorem sc_Reader_leave : FnScope ["self", "text"] ["self", "text"] (defScope s_Reader_leave) := ⟨rfl, rfl, rfl, by decide +kernel, rfl, by decide +kernel, by decide +kernel⟩
theorem ok_leave (T : Tx P w K mg a) : FnOk P w K mg base (CXF P w) 10 a.f_Reader_leave a.d_Reader_leave ["self", "text"] (spLeave K a) := by
  refine T.Reader_leave.fn.okx sc_Reader_leave (fun vs H Q E h => ?_) (fun cdv A outer s H vs Q E hr h => ?_)
  · obtain ⟨_, _, _, _, _, _, rfl, _⟩ := h; rfl
  obtain ⟨b, R, p, d, L, tx, rfl, hR, kb, k1, k2⟩ := h
  have C := T.co_Reader.cl
  refine ⟨_, pss_cons (ps_expr (pe_meth (pv 0) C T.Reader_want.mt (ok_want T) hr T.Reader_want.bd .nil passes_def (pa_cons (pv 1) pa_nil))) (pss_one (ps_fldaug (pv 0) pe_int in_sub)), ?_⟩
  obtain ⟨dx, v, e, hv⟩ := hR.obj
  refine ⟨_, rfl, R.r, dx, _, rfl, e, rfl, _, rfl, b, R, p, d + 1, L, tx, rfl, hR, kb, fun nb ht H1 x hR1 kp1 tk1 => ?_, k1⟩
  obtain ⟨dx1, v1, e1, hv1⟩ := hR1.obj
  refine ⟨_, rfl, R.r, _, dx1, _, _, rfl, e1, C, T.na_Reader_depth, rfl, _, _, rfl, rfl, dx1, _, e1, (by show 5 < 1000; decide), ?_⟩
  have ed : ((d + 1 : Nat) : Int) - 1 = (d : Int) := by omega
  have h2 := hR1.put (v' := v1) (p' := tkEnd b p) (d' := d) e1 hv1 hR1.pl
  have h3 : KeepR R H1 (upd H1 R.r (.ins a.c_Reader dx1 (rfs R.t v1 (tkEnd b p) d R.N.n))) := keepR_put
  show Q .non (upd H1 R.r (.ins a.c_Reader dx1 [("source", .ref R.t), ("ahead", v1), ("after", .int (tkEnd b p : Nat)), ("depth", .int (((d + 1 : Nat) : Int) - 1)), ("names", .ref R.N.n)]))
  rw [ed]
  exact k2 nb ht _ h2 (kp1.trans h3)
def nameAt (b : Bytes) (p : Nat) : Option Bytes := match tkOf b p with
  | .word x => if LsWale.isName x = true then some x else none
  | _ => none
theorem kd_name {b : Bytes} {p : Nat} : kdTok (tkOf b p) = ("name" : Str) ↔ ∃ x, nameAt b p = some x := by
  unfold nameAt
  cases tkOf b p with
  | word x =>
    show kdWord x = _ ↔ _
    unfold kdWord
    by_cases h : LsWale.isName x = true
    · simp only [if_pos h]; exact ⟨fun _ => ⟨x, rfl⟩, fun _ => True.intro⟩
    · simp only [if_neg h]; exact ⟨fun z => absurd z (by decide +kernel), fun ⟨_, z⟩ => by cases z⟩
  | num n => exact ⟨fun z => absurd z (by show ¬ (("number" : Str) = "name"); decide +kernel), fun ⟨_, z⟩ => by cases z⟩
  | sign c => exact ⟨fun z => absurd z (by show ¬ (("fixed" : Str) = "name"); decide +kernel), fun ⟨_, z⟩ => by cases z⟩
  | bad k => exact ⟨fun z => absurd z (by show ¬ (("" : Str) = "name"); decide +kernel), fun ⟨_, z⟩ => by cases z⟩
  | done => exact ⟨fun z => absurd z (by show ¬ (("end" : Str) = "name"); decide +kernel), fun ⟨_, z⟩ => by cases z⟩
theorem name_word {b : Bytes} {p : Nat} {x : Bytes} (h : nameAt b p = some x) : tkOf b p = .word x ∧ LsWale.isName x = true := by
  unfold nameAt at h
  cases q : tkOf b p with
  | word y =>
    rw [q] at h
    simp only at h
    by_cases hy : LsWale.isName y = true
    · rw [if_pos hy] at h; cases h; exact ⟨rfl, hy⟩
    · rw [if_neg hy] at h; cases h
  | _ => rw [q] at h; cases h
theorem name_tx {b : Bytes} {p : Nat} {x : Bytes} (h : nameAt b p = some x) : txTok (tkOf b p) = strOf x := by rw [(name_word h).1]; rfl
def spWNew (K : PySem.W.Frag) (a : Ad) : Sp := fun vs H Q E => ∃ (b : Bytes) (R : RA) (p d : Nat) (L : NL) (k : Kd), vs = [.ref R.r, .str (kdS k)] ∧ RdrAt a K b R p d L H ∧ BadTk K a b p E ∧
  (notBad b p → nameAt b p = none → Told K a E 3 (tkAt b p : Nat)) ∧ ∀ x, nameAt b p = some x → (¬ untold L x → Told K a E 5 (tkAt b p : Nat)) ∧ (untold L x → (L k).length = bnd k → Told K a E 6 (tkAt b p : Nat)) ∧
    (untold L x → (L k).length ≠ bnd k → ∀ (H' : Hp) (y : Addr), RdrAt a K b R (tkEnd b p) d L H' → KeepR R H H' → TokIs a b p H' y → Q (.ref y) H')
theorem sc_Reader_want_new_name : FnScope ["self", "kind", "token"] ["self", "kind"] (defScope s_Reader_want_new_name) := ⟨rfl, rfl, rfl, by decide +kernel, rfl, by decide +kernel, by decide +kernel⟩
theorem ok_want_new_name (T : Tx P w K mg a) : FnOk P w K mg base (CXF P w) 10 a.f_Reader_want_new_name a.d_Reader_want_new_name ["self", "kind"] (spWNew K a) := by
  refine T.Reader_want_new_name.fn.okx sc_Reader_want_new_name (fun vs H Q E h => ?_) (fun cdv A outer s H vs Q E hr h => ?_)
  · obtain ⟨_, _, _, _, _, _, rfl, _⟩ := h; rfl
  obtain ⟨b, R, p, d, L, k, rfl, hR, kb, k1, k2⟩ := h
  have C := T.co_Reader.cl
  refine ⟨_, pss_cons (ps_set (i := 2) sc_Reader_want_new_name.nd rfl (Or.inl rfl) (pe_meth (pv 0) C T.Reader_want_kind.mt (ok_want_kind T) hr T.Reader_want_kind.bd .nil passes_def (pa_cons (pk_str T.k_NAME) pa_nil)))
    (pss_cons (ps_expr (pe_meth (pe_fld (pv 0) rfl) T.co_Names.cl T.Names_check_new.mt (ok_check_new T) (hr.mono (by decide)) T.Names_check_new.bd .nil passes_def (pa_cons (pv 2) (pa_cons (pv 1) pa_nil)))) (pss_one (ps_ret (pv 2)))), ?_⟩
  obtain ⟨dx, v, e, hv⟩ := hR.obj
  refine ⟨_, rfl, R.r, dx, _, rfl, e, rfl, b, R, p, d, L, "name", rfl, hR, kb, fun nb hk H1 y hR1 kp1 tk1 => ?_, fun nb hk => k1 nb ?_⟩
  · obtain ⟨x, hx⟩ := kd_name.mp hk
    obtain ⟨q1, q2, q3⟩ := k2 x hx
    obtain ⟨dx1, v1, e1, hv1⟩ := hR1.obj
    obtain ⟨dn, en⟩ := hR1.nm.obj
    have tk1' := tk1
    unfold TokIs at tk1'
    rw [name_tx hx] at tk1'
    exact ⟨_, rfl, R.r, _, dx1, _, _, rfl, e1, C, T.na_Reader_names, rfl, R.N.n, dn, _, rfl, en, rfl, _, rfl, _, rfl, R.N, L, k, y, x, _, _, _, _, rfl, hR1.nm, tk1', q1, q2, fun u l => ⟨_, rfl, q3 u l H1 y hR1 kp1 tk1⟩⟩
  · cases hx : nameAt b p with
    | none => rfl
    | some x => exact absurd (kd_name.mpr ⟨x, hx⟩) hk
def spWTold (K : PySem.W.Frag) (a : Ad) : Sp := fun vs H Q E => ∃ (b : Bytes) (R : RA) (p d : Nat) (L : NL) (k : Kd), vs = [.ref R.r, .str (kdS k)] ∧ RdrAt a K b R p d L H ∧ isT k = true ∧ BadTk K a b p E ∧
  (notBad b p → nameAt b p = none → Told K a E 3 (tkAt b p : Nat)) ∧ ∀ x, nameAt b p = some x → (x ∉ L k → Told K a E 4 (tkAt b p : Nat)) ∧ (x ∈ L k → ∀ H' : Hp, RdrAt a K b R (tkEnd b p) d L H' → KeepR R H H' → Q .non H')
theorem sc_Reader_want_told_name : FnScope ["self", "kind"] ["self", "kind"] (defScope s_Reader_want_told_name) := ⟨rfl, rfl, rfl, by decide +kernel, rfl, by decide +kernel, by decide +kernel⟩
theorem ok_want_told_name (T : Tx P w K mg a) : FnOk P w K mg base (CXF P w) 10 a.f_Reader_want_told_name a.d_Reader_want_told_name ["self", "kind"] (spWTold K a) := by
  refine T.Reader_want_told_name.fn.okx sc_Reader_want_told_name (fun vs H Q E h => ?_) (fun cdv A outer s H vs Q E hr h => ?_)
  · obtain ⟨_, _, _, _, _, _, rfl, _⟩ := h; rfl
  obtain ⟨b, R, p, d, L, k, rfl, hR, ht, kb, k1, k2⟩ := h
  have C := T.co_Reader.cl
  refine ⟨_, pss_one (ps_expr (pe_meth (pe_fld (pv 0) rfl) T.co_Names.cl T.Names_check_told.mt (ok_check_told T) (hr.mono (by decide)) T.Names_check_told.bd .nil passes_def
    (pa_cons (pe_meth (pv 0) C T.Reader_want_kind.mt (ok_want_kind T) hr T.Reader_want_kind.bd .nil passes_def (pa_cons (pk_str T.k_NAME) pa_nil)) (pa_cons (pv 1) pa_nil)))), ?_⟩
  obtain ⟨dx, v, e, hv⟩ := hR.obj
  obtain ⟨dn, en⟩ := hR.nm.obj
  refine ⟨_, rfl, R.r, _, dx, _, _, rfl, e, C, T.na_Reader_names, rfl, R.N.n, dn, _, rfl, en, rfl, ?_⟩
  refine ⟨_, rfl, R.r, dx, _, rfl, e, rfl, b, R, p, d, L, "name", rfl, hR, kb, fun nb hk H1 y hR1 kp1 tk1 => ?_, fun nb hk => k1 nb ?_⟩
  · obtain ⟨x, hx⟩ := kd_name.mp hk
    obtain ⟨q1, q2⟩ := k2 x hx
    unfold TokIs at tk1
    rw [name_tx hx] at tk1
    exact ⟨_, rfl, R.N, L, k, y, x, _, _, _, _, rfl, hR1.nm, tk1, ht, fun m => q2 m H1 hR1 kp1, q1⟩
  · cases hx : nameAt b p with
    | none => rfl
    | some x => exact absurd (kd_name.mpr ⟨x, hx⟩) hk
def spWStand (K : PySem.W.Frag) (a : Ad) : Sp := fun vs H Q E => ∃ (b : Bytes) (R : RA) (p d : Nat) (L : NL) (k : Kd), vs = [.ref R.r, .str (kdS k)] ∧ RdrAt a K b R p d L H ∧ isT k = false ∧ BadTk K a b p E ∧
  (notBad b p → nameAt b p = none → Told K a E 3 (tkAt b p : Nat)) ∧ ∀ x, nameAt b p = some x → (x ∉ L k → (L k).length = bnd k → Told K a E 6 (tkAt b p : Nat)) ∧
    ((x ∈ L k ∨ (L k).length ≠ bnd k) → ∀ H' : Hp, RdrAt a K b R (tkEnd b p) d (standL L k x) H' → KeepR R H H' → Q .non H')
theorem sc_Reader_want_standing_name : FnScope ["self", "kind"] ["self", "kind"] (defScope s_Reader_want_standing_name) := ⟨rfl, rfl, rfl, by decide +kernel, rfl, by decide +kernel, by decide +kernel⟩
theorem ok_want_standing_name (T : Tx P w K mg a) : FnOk P w K mg base (CXF P w) 10 a.f_Reader_want_standing_name a.d_Reader_want_standing_name ["self", "kind"] (spWStand K a) := by
  refine T.Reader_want_standing_name.fn.okx sc_Reader_want_standing_name (fun vs H Q E h => ?_) (fun cdv A outer s H vs Q E hr h => ?_)
  · obtain ⟨_, _, _, _, _, _, rfl, _⟩ := h; rfl
  obtain ⟨b, R, p, d, L, k, rfl, hR, ht, kb, k1, k2⟩ := h
  have C := T.co_Reader.cl
  refine ⟨_, pss_one (ps_expr (pe_meth (pe_fld (pv 0) rfl) T.co_Names.cl T.Names_stand.mt (ok_stand T) (hr.mono (by decide)) T.Names_stand.bd .nil passes_def
    (pa_cons (pe_meth (pv 0) C T.Reader_want_kind.mt (ok_want_kind T) hr T.Reader_want_kind.bd .nil passes_def (pa_cons (pk_str T.k_NAME) pa_nil)) (pa_cons (pv 1) pa_nil)))), ?_⟩
  obtain ⟨dx, v, e, hv⟩ := hR.obj
  obtain ⟨dn, en⟩ := hR.nm.obj
  refine ⟨_, rfl, R.r, _, dx, _, _, rfl, e, C, T.na_Reader_names, rfl, R.N.n, dn, _, rfl, en, rfl, ?_⟩
  refine ⟨_, rfl, R.r, dx, _, rfl, e, rfl, b, R, p, d, L, "name", rfl, hR, kb, fun nb hk H1 y hR1 kp1 tk1 => ?_, fun nb hk => k1 nb ?_⟩
  · obtain ⟨x, hx⟩ := kd_name.mp hk
    obtain ⟨q1, q2⟩ := k2 x hx
    unfold TokIs at tk1
    rw [name_tx hx] at tk1
    exact ⟨_, rfl, R.N, L, k, y, x, _, _, _, _, rfl, hR1.nm, tk1, ht, q1, fun c H2 n2 kn => q2 c H2 (hR1.names kn n2) (kp1.trans kn.keepR)⟩
  · cases hx : nameAt b p with
    | none => rfl
    | some x => exact absurd (kd_name.mpr ⟨x, hx⟩) hk
end Wale
end
section
set_option Elab.async false
set_option linter.all false
set_option maxRecDepth 100000
set_option maxHeartbeats 2000000
namespace Wale
open PySem PySem.Spec PyProof.Rows L2
open Wm
open LsWale (ascii Fault eatSign eatWord eatOpen anyName newName oldName markName holdName wanted isName)
abbrev WSt := LsWale.St
abbrev WEnv := LsWale.Env
variable {P : Program} {w : World} {K : PySem.W.Frag} {mg : Str → Option Value} {base : Heap} {a : Ad}
@[irreducible] def iWant (K : PySem.W.Frag) (a : Ad) (f : LsWale.Tok → Str) : Sp := spWant K a f
@[irreducible] def iSkip (K : PySem.W.Frag) (a : Ad) : Sp := spSkip K a
@[irreducible] def iEnter (K : PySem.W.Frag) (a : Ad) : Sp := spEnter K a
@[irreducible] def iLeave (K : PySem.W.Frag) (a : Ad) : Sp := spLeave K a
@[irreducible] def iPeek (K : PySem.W.Frag) (a : Ad) : Sp := spPeek K a
@[irreducible] def iStep (K : PySem.W.Frag) (a : Ad) : Sp := spStep K a
@[irreducible] def iWNew (K : PySem.W.Frag) (a : Ad) : Sp := spWNew K a
@[irreducible] def iWTold (K : PySem.W.Frag) (a : Ad) : Sp := spWTold K a
@[irreducible] def iWStand (K : PySem.W.Frag) (a : Ad) : Sp := spWStand K a
theorem oki_peek (T : Tx P w K mg a) : FnOk P w K mg base (CXF P w) 7 a.f_Reader_peek a.d_Reader_peek ["self"] (iPeek K a) := by unfold iPeek; exact ok_peek T
theorem oki_step (T : Tx P w K mg a) : FnOk P w K mg base (CXF P w) 8 a.f_Reader_step a.d_Reader_step ["self"] (iStep K a) := by unfold iStep; exact ok_step T
theorem oki_skip (T : Tx P w K mg a) : FnOk P w K mg base (CXF P w) 9 a.f_Reader_skip a.d_Reader_skip ["self", "text"] (iSkip K a) := by unfold iSkip; exact ok_skip T
theorem oki_want (T : Tx P w K mg a) : FnOk P w K mg base (CXF P w) 9 a.f_Reader_want a.d_Reader_want ["self", "text"] (iWant K a txTok) := by unfold iWant; exact ok_want T
theorem oki_want_kind (T : Tx P w K mg a) : FnOk P w K mg base (CXF P w) 9 a.f_Reader_want_kind a.d_Reader_want_kind ["self", "kind"] (iWant K a kdTok) := by unfold iWant; exact ok_want_kind T
theorem oki_enter (T : Tx P w K mg a) : FnOk P w K mg base (CXF P w) 10 a.f_Reader_enter a.d_Reader_enter ["self", "text"] (iEnter K a) := by unfold iEnter; exact ok_enter T
theorem oki_leave (T : Tx P w K mg a) : FnOk P w K mg base (CXF P w) 10 a.f_Reader_leave a.d_Reader_leave ["self", "text"] (iLeave K a) := by unfold iLeave; exact ok_leave T
theorem oki_want_new_name (T : Tx P w K mg a) : FnOk P w K mg base (CXF P w) 10 a.f_Reader_want_new_name a.d_Reader_want_new_name ["self", "kind"] (iWNew K a) := by unfold iWNew; exact ok_want_new_name T
theorem oki_want_told_name (T : Tx P w K mg a) : FnOk P w K mg base (CXF P w) 10 a.f_Reader_want_told_name a.d_Reader_want_told_name ["self", "kind"] (iWTold K a) := by unfold iWTold; exact ok_want_told_name T
theorem oki_want_standing_name (T : Tx P w K mg a) : FnOk P w K mg base (CXF P w) 10 a.f_Reader_want_standing_name a.d_Reader_want_standing_name ["self", "kind"] (iWStand K a) := by unfold iWStand; exact ok_want_standing_name T
def txB : LsWale.Tok → Bytes
  | .word x => x
  | .sign c => [c]
  | _ => []
theorem tx_eq (t : LsWale.Tok) : txTok t = strOf (txB t) := by
  cases t <;> first | rfl | exact str_empty.symm
theorem tx_word {t : LsWale.Tok} {x : Bytes} {c : UInt8} {r : Bytes} (hx : x = c :: r) (hc : LsWale.isLetter c = true) (h : wf t = true) : txB t = x ↔ t = .word x := by
  subst hx
  cases t with
  | word y => exact ⟨fun z => by rw [show y = _ from z], fun z => by cases z; rfl⟩
  | sign y =>
    refine ⟨fun z => ?_, fun z => by cases z⟩
    cases z
    exfalso
    have hs : LsWale.SIGNS.contains c = true := h
    have : ∀ n : Nat, n < 256 → LsWale.SIGNS.contains (UInt8.ofNat n) = true → LsWale.isLetter (UInt8.ofNat n) = false := by decide +kernel
    have := this c.toNat c.toNat_lt
    rw [UInt8.ofNat_toNat] at this
    rw [this hs] at hc
    cases hc
  | num n => exact ⟨fun z => (by cases z), fun z => by cases z⟩
  | bad n => exact ⟨fun z => (by cases z), fun z => by cases z⟩
  | done => exact ⟨fun z => (by cases z), fun z => by cases z⟩
theorem tx_sign {t : LsWale.Tok} {c : UInt8} (hc : LsWale.isLetter c = false) (h : wf t = true) : txB t = [c] ↔ t = .sign c := by
  cases t with
  | word y =>
    refine ⟨fun z => ?_, fun z => by cases z⟩
    have z : y = [c] := z
    subst z
    exact absurd (show LsWale.isLetter c = true from h) (by rw [hc]; decide)
  | sign y => exact ⟨fun z => by cases z; rfl, fun z => by cases z; rfl⟩
  | num n => exact ⟨fun z => (by cases z), fun z => by cases z⟩
  | bad n => exact ⟨fun z => (by cases z), fun z => by cases z⟩
  | done => exact ⟨fun z => (by cases z), fun z => by cases z⟩
def wOk (x : String) : Bool := match ascii x with
  | c :: _ => LsWale.isLetter c
  | [] => false
theorem txW (b : Bytes) (p : Nat) (e : WEnv) {x : String} (h : wOk x = true) : txB (tkOf b p) = ascii x ↔ (stAt b p e).isWord x = true := by
  rw [word_at, decide_eq_true_eq]
  unfold wOk at h
  cases q : ascii x with
  | nil => rw [q] at h; cases h
  | cons c r => rw [q] at h; exact tx_word rfl h (tk_wf b p)
theorem txS (b : Bytes) (p : Nat) (e : WEnv) {c : Char} (h : LsWale.isLetter (UInt8.ofNat c.toNat) = false) : txB (tkOf b p) = [UInt8.ofNat c.toNat] ↔ (stAt b p e).isSign c = true := by
  rw [sign_at, decide_eq_true_eq]
  exact tx_sign h (tk_wf b p)
theorem tx_is {t : LsWale.Tok} {z : Str} {y : Bytes} (h : z = strOf y) : txTok t = z ↔ txB t = y := by
  rw [tx_eq, h]
  exact ⟨strOf_inj, fun q => by rw [q]⟩
theorem word_isTok {b : Bytes} {p : Nat} {e : WEnv} {x : String} (h : (stAt b p e).isWord x = true) : isTok (tkOf b p) = true := by
  rw [word_at, decide_eq_true_eq] at h
  rw [h]; rfl
theorem sign_isTok {b : Bytes} {p : Nat} {e : WEnv} {c : Char} (h : (stAt b p e).isSign c = true) : isTok (tkOf b p) = true := by
  rw [sign_at, decide_eq_true_eq] at h
  rw [h]; rfl
theorem tok_notBad {b : Bytes} {p : Nat} (h : isTok (tkOf b p) = true) : notBad b p := fun k z => by rw [z] at h; cases h
def lst (e : WEnv) : NL
  | .sizes => e.sizes.getD []
  | .yarns => e.yarns.getD []
  | .numbers => e.lets
  | .words => e.words
  | .blocks => e.blocks
  | .markers => e.marks
  | .holders => e.holders
theorem any_at (b : Bytes) (p : Nat) (e : WEnv) : anyName (stAt b p e) = match nameAt b p with
    | some x => .ok (x, stAt b (tkEnd b p) e)
    | none => wanted (stAt b p e) := by
  unfold anyName nameAt
  rw [ts_at]
  cases q : tkOf b p with
  | word x =>
    dsimp only
    by_cases h : isName x = true
    · rw [if_pos h, if_pos h]
      dsimp only
      rw [next_at (by rw [q]; rfl)]
    · rw [if_neg h, if_neg h]
  | _ => rfl
theorem any_some {b : Bytes} {p : Nat} {e : WEnv} {x : Bytes} (h : nameAt b p = some x) : anyName (stAt b p e) = .ok (x, stAt b (tkEnd b p) e) := by rw [any_at, h]
theorem any_none {b : Bytes} {p : Nat} {e : WEnv} (h : nameAt b p = none) : anyName (stAt b p e) = wanted (stAt b p e) := by rw [any_at, h]
section
variable {α β : Type} {b : Bytes} {R : RA} {p d : Nat} {L : NL} {e : WEnv} {H : Hp} {Q : VK} {E : XK} {r : Except Fault (α × WSt)}
def Tl (K : PySem.W.Frag) (a : Ad) (E : XK) (r : Except Fault (α × WSt)) : Prop := ∀ k pl : Nat, Bad r k pl → Told K a E k pl
theorem Tl.bt (h : Tl K a E r) (hb : ∀ k pl, HB (stAt b p e) k pl → Bad r k pl) : BadTk K a b p E := fun k hk => h k _ (hb k _ (hb_at hk))
theorem Tl.err {k pl : Nat} (h : Tl K a E r) (hr : r = .error ⟨k, pl⟩) : Told K a E k pl := h k pl (.inl hr)
theorem Tl.want {f : β → Except Fault (α × WSt)} (h : Tl K a E r) (nb : notBad b p) (hr : r = (wanted (stAt b p e) : Except Fault β) >>= f) : Told K a E 3 (tkAt b p : Nat) :=
  h.err (by rw [hr, wanted_tok nb]; rfl)
theorem L_want_sign {c : Char} {tx : Str} {f : WSt → Except Fault (α × WSt)} (hR : RdrAt a K b R p d L H) (hT : Tl K a E r) (hr : r = eatSign c (stAt b p e) >>= f) (htx : tx = strOf [UInt8.ofNat c.toNat] := by decide +kernel)
    (hc : LsWale.isLetter (UInt8.ofNat c.toNat) = false := by decide +kernel)
    (k : r = f (stAt b (tkEnd b p) e) → ∀ (H' : Hp) (x : Addr), RdrAt a K b R (tkEnd b p) d L H' → KeepR R H H' → TokIs a b p H' x → Q (.ref x) H') : iWant K a txTok [.ref R.r, .str tx] H Q E := by
  unfold iWant
  refine ⟨b, R, p, d, L, tx, rfl, hR, hT.bt (e := e) fun k pl h => ?_, fun nb ht => ?_, fun nb ht => ?_⟩
  · rw [hr, hb_eatSign h]; exact .inl rfl
  · have h1 := (txS b p e hc).mp ((tx_is htx).mp ht)
    refine k ?_
    rw [hr]; unfold eatSign; rw [if_pos h1, next_at (sign_isTok h1)]; rfl
  · have h1 : ¬ (stAt b p e).isSign c = true := fun z => ht ((tx_is htx).mpr ((txS b p e hc).mpr z))
    refine hT.want (f := f) (e := e) nb ?_
    rw [hr]; unfold eatSign; rw [if_neg h1]
theorem L_want_word {c : String} {tx : Str} {f : WSt → Except Fault (α × WSt)} (hR : RdrAt a K b R p d L H) (hT : Tl K a E r) (hr : r = eatWord c (stAt b p e) >>= f) (htx : tx = strOf (ascii c) := by decide +kernel)
    (hc : wOk c = true := by decide +kernel)
    (k : r = f (stAt b (tkEnd b p) e) → ∀ (H' : Hp) (x : Addr), RdrAt a K b R (tkEnd b p) d L H' → KeepR R H H' → TokIs a b p H' x → Q (.ref x) H') : iWant K a txTok [.ref R.r, .str tx] H Q E := by
  unfold iWant
  refine ⟨b, R, p, d, L, tx, rfl, hR, hT.bt (e := e) fun k pl h => ?_, fun nb ht => ?_, fun nb ht => ?_⟩
  · rw [hr, hb_eatWord h]; exact .inl rfl
  · have h1 := (txW b p e hc).mp ((tx_is htx).mp ht)
    refine k ?_
    rw [hr]; unfold eatWord; rw [if_pos h1, next_at (word_isTok h1)]; rfl
  · have h1 : ¬ (stAt b p e).isWord c = true := fun z => ht ((tx_is htx).mpr ((txW b p e hc).mpr z))
    refine hT.want (f := f) (e := e) nb ?_
    rw [hr]; unfold eatWord; rw [if_neg h1]
theorem L_skip_sign {c : Char} {tx : Str} (hR : RdrAt a K b R p d L H) (hT : Tl K a E r) (hb : ∀ k pl, HB (stAt b p e) k pl → Bad r k pl)
    (k1 : (stAt b p e).isSign c = true → ∀ H' : Hp, RdrAt a K b R (tkEnd b p) d L H' → KeepR R H H' → Q (.bl true) H')
    (k2 : (stAt b p e).isSign c = false → notBad b p → ∀ H' : Hp, RdrAt a K b R p d L H' → KeepR R H H' → Q (.bl false) H') (htx : tx = strOf [UInt8.ofNat c.toNat] := by decide +kernel)
    (hc : LsWale.isLetter (UInt8.ofNat c.toNat) = false := by decide +kernel) : iSkip K a [.ref R.r, .str tx] H Q E := by
  unfold iSkip
  exact ⟨b, R, p, d, L, tx, rfl, hR, hT.bt hb, fun nb ht => k1 ((txS b p e hc).mp ((tx_is htx).mp ht)), fun nb ht => k2 (Bool.eq_false_iff.mpr fun z => ht ((tx_is htx).mpr ((txS b p e hc).mpr z))) nb⟩
theorem L_skip_word {c : String} {tx : Str} (hR : RdrAt a K b R p d L H) (hT : Tl K a E r) (hb : ∀ k pl, HB (stAt b p e) k pl → Bad r k pl)
    (k1 : (stAt b p e).isWord c = true → ∀ H' : Hp, RdrAt a K b R (tkEnd b p) d L H' → KeepR R H H' → Q (.bl true) H')
    (k2 : (stAt b p e).isWord c = false → notBad b p → ∀ H' : Hp, RdrAt a K b R p d L H' → KeepR R H H' → Q (.bl false) H') (htx : tx = strOf (ascii c) := by decide +kernel)
    (hc : wOk c = true := by decide +kernel) : iSkip K a [.ref R.r, .str tx] H Q E := by
  unfold iSkip
  exact ⟨b, R, p, d, L, tx, rfl, hR, hT.bt hb, fun nb ht => k1 ((txW b p e hc).mp ((tx_is htx).mp ht)), fun nb ht => k2 (Bool.eq_false_iff.mpr fun z => ht ((tx_is htx).mpr ((txW b p e hc).mpr z))) nb⟩
theorem L_enter {c : Char} {tx : Str} {f : WSt → Except Fault (α × WSt)} (hR : RdrAt a K b R p d L H) (hd : d ≤ 8) (hT : Tl K a E r) (hr : r = eatOpen c d (stAt b p e) >>= f)
    (k : r = f (stAt b (tkEnd b p) e) → d < 8 → (stAt b p e).isSign c = true → ∀ H' : Hp, RdrAt a K b R (tkEnd b p) (d + 1) L H' → KeepR R H H' → Q .non H') (htx : tx = strOf [UInt8.ofNat c.toNat] := by decide +kernel)
    (hc : LsWale.isLetter (UInt8.ofNat c.toNat) = false := by decide +kernel) : iEnter K a [.ref R.r, .str tx] H Q E := by
  unfold iEnter
  refine ⟨b, R, p, d, L, tx, rfl, hR, hT.bt (e := e) fun k pl h => ?_, fun nb ht => ?_, fun nb ht h8 => ?_, fun nb ht h8 => ?_⟩
  · rw [hr, hb_eatOpen h]; exact .inl rfl
  · have h1 : ¬ (stAt b p e).isSign c = true := fun z => ht ((tx_is htx).mpr ((txS b p e hc).mpr z))
    refine hT.want (f := f) (e := e) nb ?_
    rw [hr]; unfold eatOpen; rw [if_pos (Bool.eq_false_iff.mpr h1)]
  · have h1 := (txS b p e hc).mp ((tx_is htx).mp ht)
    refine hT.err ?_
    rw [hr]; unfold eatOpen; rw [if_neg (by rw [h1]; decide), if_pos (by rw [h8]; decide), place_at]; rfl
  · have h1 := (txS b p e hc).mp ((tx_is htx).mp ht)
    refine k ?_ (by omega) h1
    rw [hr]; unfold eatOpen; rw [if_neg (by rw [h1]; decide), if_neg (by show ¬ 8 ≤ d; omega), next_at (sign_isTok h1)]; rfl
theorem L_leave {c : Char} {tx : Str} {f : WSt → Except Fault (α × WSt)} (hR : RdrAt a K b R p (d + 1) L H) (hT : Tl K a E r) (hr : r = eatSign c (stAt b p e) >>= f)
    (k : r = f (stAt b (tkEnd b p) e) → ∀ H' : Hp, RdrAt a K b R (tkEnd b p) d L H' → KeepR R H H' → Q .non H') (htx : tx = strOf [UInt8.ofNat c.toNat] := by decide +kernel)
    (hc : LsWale.isLetter (UInt8.ofNat c.toNat) = false := by decide +kernel) : iLeave K a [.ref R.r, .str tx] H Q E := by
  unfold iLeave
  refine ⟨b, R, p, d, L, tx, rfl, hR, hT.bt (e := e) fun k pl h => ?_, fun nb ht => ?_, fun nb ht => ?_⟩
  · rw [hr, hb_eatSign h]; exact .inl rfl
  · have h1 : ¬ (stAt b p e).isSign c = true := fun z => ht ((tx_is htx).mpr ((txS b p e hc).mpr z))
    refine hT.want (f := f) (e := e) nb ?_
    rw [hr]; unfold eatSign; rw [if_neg h1]
  · have h1 := (txS b p e hc).mp ((tx_is htx).mp ht)
    refine k ?_
    rw [hr]; unfold eatSign; rw [if_pos h1, next_at (sign_isTok h1)]; rfl
theorem L_peek (hR : RdrAt a K b R p d L H) (hT : Tl K a E r) (hb : ∀ k pl, HB (stAt b p e) k pl → Bad r k pl)
    (k : notBad b p → ∀ (H' : Hp) (x : Addr), RdrAt a K b R p d L H' → KeepR R H H' → TokIs a b p H' x → Q (.ref x) H') : iPeek K a [.ref R.r] H Q E := by
  unfold iPeek
  exact ⟨b, R, p, d, L, rfl, hR, hT.bt hb, k⟩
theorem L_step (hR : RdrAt a K b R p d L H) (nb : notBad b p) (k : ∀ (H' : Hp) (x : Addr), RdrAt a K b R (tkEnd b p) d L H' → KeepR R H H' → TokIs a b p H' x → Q (.ref x) H') : iStep K a [.ref R.r] H Q E := by
  unfold iStep
  exact ⟨b, R, p, d, L, rfl, hR, fun k hk => absurd hk (nb k), fun _ => k⟩
theorem L_any {f : Bytes × WSt → Except Fault (α × WSt)} (hR : RdrAt a K b R p d L H) (hT : Tl K a E r) (hr : r = anyName (stAt b p e) >>= f)
    (k : ∀ x, r = f (x, stAt b (tkEnd b p) e) → ∀ (H' : Hp) (y : Addr), RdrAt a K b R (tkEnd b p) d L H' → KeepR R H H' → TokIs a b p H' y → Q (.ref y) H') : iWant K a kdTok [.ref R.r, .str "name"] H Q E := by
  unfold iWant
  refine ⟨b, R, p, d, L, _, rfl, hR, hT.bt (e := e) fun k pl h => ?_, fun nb ht => ?_, fun nb ht => ?_⟩
  · rw [hr, hb_any h]; exact .inl rfl
  · obtain ⟨x, hx⟩ := kd_name.mp ht
    exact k x (by rw [hr, any_some hx]; rfl)
  · refine hT.want (f := f) (e := e) nb ?_
    rw [hr, any_none]
    cases hx : nameAt b p with
    | none => rfl
    | some x => exact absurd (kd_name.mpr ⟨x, hx⟩) ht
theorem L_new {k : Kd} {f : Bytes × WSt → Except Fault (α × WSt)} {m most : Nat} {also : List Bytes} (hR : RdrAt a K b R p d L H) (hT : Tl K a E r) (hr : r = newName m most (stAt b p e) also >>= f) (hm : m = (L k).length) (hmost : most = bnd k)
    (hu : ∀ x, (e.told x = true ∨ also.contains x = true) ↔ ¬ untold L x)
    (kk : ∀ x, nameAt b p = some x → untold L x → (L k).length ≠ bnd k → r = f (x, stAt b (tkEnd b p) e) → ∀ (H' : Hp) (y : Addr), RdrAt a K b R (tkEnd b p) d L H' → KeepR R H H' → TokIs a b p H' y → Q (.ref y) H') : iWNew K a [.ref R.r, .str (kdS k)] H Q E := by
  subst hm hmost
  unfold iWNew
  refine ⟨b, R, p, d, L, k, rfl, hR, hT.bt (e := e) fun k pl h => ?_, fun nb hn => ?_, fun x hx => ?_⟩
  · rw [hr, hb_new h]; exact .inl rfl
  · refine hT.err ?_
    rw [hr]; unfold newName; rw [any_none hn, wanted_tok nb]; rfl
  have h0 : r = (newName (L k).length (bnd k) (stAt b p e) also >>= f) := hr
  have bd := hR.nm.bd k
  refine ⟨fun hn => hT.err ?_, fun hn hl => hT.err ?_, fun hn hl => kk x hx hn hl ?_⟩
  · rw [h0]; unfold newName; rw [any_some hx]
    show ((if e.told x = true ∨ also.contains x = true then _ else _) >>= f) = _
    rw [if_pos ((hu x).mpr hn), place_at]; rfl
  · rw [h0]; unfold newName; rw [any_some hx]
    show ((if e.told x = true ∨ also.contains x = true then _ else _) >>= f) = _
    rw [if_neg (fun z => (hu x).mp z hn)]
    show ((if bnd k ≤ (L k).length then _ else _) >>= f) = _
    rw [if_pos (by omega), place_at]; rfl
  · rw [h0]; unfold newName; rw [any_some hx]
    show ((if e.told x = true ∨ also.contains x = true then _ else _) >>= f) = _
    rw [if_neg (fun z => (hu x).mp z hn)]
    show ((if bnd k ≤ (L k).length then _ else _) >>= f) = _
    rw [if_neg (by omega)]; rfl
theorem L_told {k : Kd} {f : Bytes × WSt → Except Fault (α × WSt)} {l : List Bytes} (hR : RdrAt a K b R p d L H) (hk : isT k = true) (hT : Tl K a E r) (hr : r = oldName l (stAt b p e) >>= f) (hl : l = L k)
    (kk : ∀ x, r = f (x, stAt b (tkEnd b p) e) → ∀ H' : Hp, RdrAt a K b R (tkEnd b p) d L H' → KeepR R H H' → Q .non H') : iWTold K a [.ref R.r, .str (kdS k)] H Q E := by
  subst hl
  unfold iWTold
  refine ⟨b, R, p, d, L, k, rfl, hR, hk, hT.bt (e := e) fun k pl h => ?_, fun nb hn => ?_, fun x hx => ⟨fun hm => hT.err ?_, fun hm => kk x ?_⟩⟩
  · rw [hr, hb_old h]; exact .inl rfl
  · refine hT.err ?_
    rw [hr]; unfold oldName; rw [any_none hn, wanted_tok nb]; rfl
  · rw [hr]; unfold oldName; rw [any_some hx]
    show ((if (L k).contains x = false then _ else _) >>= f) = _
    rw [if_pos (by rw [Bool.eq_false_iff]; exact fun z => hm (by simpa using z)), place_at]; rfl
  · rw [hr]; unfold oldName; rw [any_some hx]
    show ((if (L k).contains x = false then _ else _) >>= f) = _
    rw [if_neg (by rw [show (L k).contains x = true by simpa using hm]; decide)]; rfl
def markE (e : WEnv) (x : Bytes) : WEnv := if e.marks.contains x = true then e else { e with marks := e.marks ++ [x] }
def holdE (e : WEnv) (x : Bytes) : WEnv := if e.holders.contains x = true then e else { e with holders := e.holders ++ [x] }
theorem lst_mark (e : WEnv) (x : Bytes) : standL (lst e) .markers x = lst (markE e x) := by
  unfold standL markE
  by_cases h : x ∈ e.marks
  · rw [if_pos (show x ∈ lst e .markers from h), if_pos (by simpa using h)]
  · rw [if_neg (show x ∉ lst e .markers from h), if_neg (by simpa using h)]
    funext j
    cases j <;> rfl
theorem lst_hold (e : WEnv) (x : Bytes) : standL (lst e) .holders x = lst (holdE e x) := by
  unfold standL holdE
  by_cases h : x ∈ e.holders
  · rw [if_pos (show x ∈ lst e .holders from h), if_pos (by simpa using h)]
  · rw [if_neg (show x ∉ lst e .holders from h), if_neg (by simpa using h)]
    funext j
    cases j <;> rfl
theorem L_mark {f : Bytes × WSt → Except Fault (α × WSt)} (hR : RdrAt a K b R p d (lst e) H) (hT : Tl K a E r) (hr : r = markName (stAt b p e) >>= f)
    (kk : ∀ x, r = f (x, stAt b (tkEnd b p) (markE e x)) → ∀ H' : Hp, RdrAt a K b R (tkEnd b p) d (lst (markE e x)) H' → KeepR R H H' → Q .non H') : iWStand K a [.ref R.r, .str "markers"] H Q E := by
  unfold iWStand
  refine ⟨b, R, p, d, lst e, .markers, rfl, hR, rfl, hT.bt (e := e) fun k pl h => ?_, fun nb hn => ?_, fun x hx => ⟨fun hm hl => hT.err ?_, fun hc H' hR' kp => kk x ?_ H' (by rw [← lst_mark]; exact hR') kp⟩⟩
  · rw [hr, hb_mark h]; exact .inl rfl
  · refine hT.err ?_
    rw [hr]; unfold markName; rw [any_none hn, wanted_tok nb]; rfl
  · rw [hr]; unfold markName; rw [any_some hx]
    show ((if e.marks.contains x = true then _ else _) >>= f) = _
    have hm' : x ∉ e.marks := hm
    have hl' : LsWale.MARKS ≤ e.marks.length := Nat.le_of_eq (Eq.symm hl)
    rw [if_neg (by simpa using hm')]
    show ((if LsWale.MARKS ≤ e.marks.length then _ else _) >>= f) = _
    rw [if_pos hl', place_at]; rfl
  · rw [hr]; unfold markName; rw [any_some hx]
    show ((if e.marks.contains x = true then _ else _) >>= f) = _
    unfold markE
    by_cases h : e.marks.contains x = true
    · rw [if_pos h, if_pos h]; rfl
    · rw [if_neg h, if_neg h]
      show ((if LsWale.MARKS ≤ e.marks.length then _ else _) >>= f) = _
      have h0 : x ∉ e.marks := by simpa using h
      have h1 : e.marks.length ≠ 64 := hc.resolve_left h0
      have h2 : e.marks.length ≤ 64 := hR.nm.bd .markers
      rw [if_neg (by show ¬ 64 ≤ _; omega)]; rfl
theorem L_hold {f : Bytes × WSt → Except Fault (α × WSt)} (hR : RdrAt a K b R p d (lst e) H) (hT : Tl K a E r) (hr : r = holdName (stAt b p e) >>= f)
    (kk : ∀ x, r = f (x, stAt b (tkEnd b p) (holdE e x)) → ∀ H' : Hp, RdrAt a K b R (tkEnd b p) d (lst (holdE e x)) H' → KeepR R H H' → Q .non H') : iWStand K a [.ref R.r, .str "holders"] H Q E := by
  unfold iWStand
  refine ⟨b, R, p, d, lst e, .holders, rfl, hR, rfl, hT.bt (e := e) fun k pl h => ?_, fun nb hn => ?_, fun x hx => ⟨fun hm hl => hT.err ?_, fun hc H' hR' kp => kk x ?_ H' (by rw [← lst_hold]; exact hR') kp⟩⟩
  · rw [hr, hb_hold h]; exact .inl rfl
  · refine hT.err ?_
    rw [hr]; unfold holdName; rw [any_none hn, wanted_tok nb]; rfl
  · rw [hr]; unfold holdName; rw [any_some hx]
    show ((if e.holders.contains x = true then _ else _) >>= f) = _
    have hm' : x ∉ e.holders := hm
    have hl' : LsWale.HOLDERS ≤ e.holders.length := Nat.le_of_eq (Eq.symm hl)
    rw [if_neg (by simpa using hm')]
    show ((if LsWale.HOLDERS ≤ e.holders.length then _ else _) >>= f) = _
    rw [if_pos hl', place_at]; rfl
  · rw [hr]; unfold holdName; rw [any_some hx]
    show ((if e.holders.contains x = true then _ else _) >>= f) = _
    unfold holdE
    by_cases h : e.holders.contains x = true
    · rw [if_pos h, if_pos h]; rfl
    · rw [if_neg h, if_neg h]
      show ((if LsWale.HOLDERS ≤ e.holders.length then _ else _) >>= f) = _
      have h0 : x ∉ e.holders := by simpa using h
      have h1 : e.holders.length ≠ 16 := hc.resolve_left h0
      have h2 : e.holders.length ≤ 16 := hR.nm.bd .holders
      rw [if_neg (by show ¬ 16 ≤ _; omega)]; rfl
end
end Wale
end
section
set_option Elab.async false
set_option linter.all false
set_option maxRecDepth 100000
set_option maxHeartbeats 2000000
namespace Wale
open PySem PySem.Spec PyProof.Rows L2
open Wm
open LsWale (ascii Fault eatSign eatWord eatOpen anyName newName oldName markName holdName wanted isName)
variable {P : Program} {w : World} {K : PySem.W.Frag} {mg : Str → Option Value} {base : Heap} {a : Ad}
theorem L_kind {b : Bytes} {R : RA} {p d : Nat} {L : NL} {H : Hp} {Q : VK} {E : XK} {kd : Str} (hR : RdrAt a K b R p d L H) (hb : BadTk K a b p E) (k1 : notBad b p → kdTok (tkOf b p) = kd → ∀ (H' : Hp) (x : Addr), RdrAt a K b R (tkEnd b p) d L H' → KeepR R H H' → TokIs a b p H' x → Q (.ref x) H')
    (k2 : notBad b p → kdTok (tkOf b p) ≠ kd → Told K a E 3 (tkAt b p : Nat)) : iWant K a kdTok [.ref R.r, .str kd] H Q E := by
  unfold iWant
  exact ⟨b, R, p, d, L, kd, rfl, hR, hb, k1, k2⟩
theorem RdrAt.ins {b : Bytes} {R : RA} {p d : Nat} {L : NL} {H : Hp} (h : RdrAt a K b R p d L H) : H R.r = some (.ins a.c_Reader h.obj.choose (rfs R.t h.obj.choose_spec.choose p d R.N.n)) := h.obj.choose_spec.choose_spec.1
@[irreducible] def spG {α : Type} (K : PySem.W.Frag) (a : Ad) (m : Nat) (S : Nat → WSt → Except Fault (α × WSt)) : Sp := fun vs H Q E => ∃ (b : Bytes) (R : RA) (p d : Nat) (e : WEnv), vs = [.ref R.r] ∧ RdrAt a K b R p d (lst e) H ∧ d ≤ 8 ∧ 8 < d + m ∧ Tl K a E (S d (stAt b p e)) ∧
  ∀ x p' e', S d (stAt b p e) = .ok (x, stAt b p' e') → ∀ H' : Hp, RdrAt a K b R p' d (lst e') H' → KeepR R H H' → Q .non H'
theorem spG_len {α : Type} {m : Nat} {S : Nat → WSt → Except Fault (α × WSt)} (vs : List V) (H : Hp) (Q : VK) (E : XK) (h : spG K a m S vs H Q E) : vs.length = 1 := by
  unfold spG at h
  obtain ⟨_, _, _, _, _, rfl, _⟩ := h; rfl
theorem spG_no {α : Type} {S : Nat → WSt → Except Fault (α × WSt)} {k : Nat} {f : Addr} {fd : FuncData} {CX : CXT} : FnOk P w K mg base CX k f fd ["reader"] (spG K a 0 S) :=
  ⟨spG_len, fun A outer s H args us vs Q E hr he hb hv hs => by unfold spG at hs; obtain ⟨_, _, _, _, _, _, _, h1, h2, _⟩ := hs; omega⟩
section
variable {α β : Type} {b : Bytes} {R : RA} {p d m : Nat} {L : NL} {e : WEnv} {H : Hp} {Q : VK} {E : XK} {r : Except Fault (α × WSt)}
theorem L_g {S : Nat → WSt → Except Fault (β × WSt)} {f : β × WSt → Except Fault (α × WSt)} (hR : RdrAt a K b R p d (lst e) H) (hd : d ≤ 8) (hm : 8 < d + m) (hT : Tl K a E r) (hr : r = S d (stAt b p e) >>= f) (hB : ∀ x s k pl, HB s k pl → Bad (f (x, s)) k pl)
    (kk : ∀ x p' e', S d (stAt b p e) = .ok (x, stAt b p' e') → r = f (x, stAt b p' e') → ∀ H' : Hp, RdrAt a K b R p' d (lst e') H' → KeepR R H H' → Q .non H') : spG K a m S [.ref R.r] H Q E := by
  unfold spG
  exact ⟨b, R, p, d, e, rfl, hR, hd, hm, fun k pl h => hT k pl (by rw [hr]; exact h.bind fun x s hb => hB x s k pl hb), fun x p' e' hS => kk x p' e' hS (by rw [hr, hS]; rfl)⟩
end
theorem spG_out {α : Type} {m : Nat} {S : Nat → WSt → Except Fault (α × WSt)} {vs : List V} {H : Hp} {Q : VK} {E : XK} (h : spG K a m S vs H Q E) : ∃ (b : Bytes) (R : RA) (p d : Nat) (e : WEnv), vs = [.ref R.r] ∧ RdrAt a K b R p d (lst e) H ∧ d ≤ 8 ∧ 8 < d + m ∧ Tl K a E (S d (stAt b p e)) ∧
  ∀ x p' e', S d (stAt b p e) = .ok (x, stAt b p' e') → ∀ H' : Hp, RdrAt a K b R p' d (lst e') H' → KeepR R H H' → Q .non H' := by unfold spG at h; exact h
theorem kd_num {b : Bytes} {p : Nat} : kdTok (tkOf b p) = ("number" : Str) ↔ ∃ n, tkOf b p = .num n := by
  cases tkOf b p with
  | word x =>
    refine ⟨fun z => ?_, fun ⟨_, z⟩ => by cases z⟩
    have z : kdWord x = "number" := z
    unfold kdWord at z
    split at z <;> exact absurd z (by decide +kernel)
  | num n => exact ⟨fun _ => ⟨n, rfl⟩, fun _ => rfl⟩
  | sign c => exact ⟨fun z => absurd z (by show ¬ (("fixed" : Str) = "number"); decide +kernel), fun ⟨_, z⟩ => by cases z⟩
  | bad k => exact ⟨fun z => absurd z (by show ¬ (("" : Str) = "number"); decide +kernel), fun ⟨_, z⟩ => by cases z⟩
  | done => exact ⟨fun z => absurd z (by show ¬ (("end" : Str) = "number"); decide +kernel), fun ⟨_, z⟩ => by cases z⟩
theorem fact_num {b : Bytes} {p d n : Nat} {e : WEnv} (h : tkOf b p = .num n) : sumS .fact d (stAt b p e) = .ok (.num n, stAt b (tkEnd b p) e) := by
  rw [sumS_num (by rw [ts_at, h]), next_at (by rw [h]; rfl)]
theorem fact_name {b : Bytes} {p d : Nat} {e : WEnv} {x : Bytes} (h : nameAt b p = some x) : sumS .fact d (stAt b p e) = oldName e.lets (stAt b p e) >>= fun x => .ok (.name (tkAt b p) x.1, x.2) :=
  sumS_word (by rw [ts_at, (name_word h).1])
theorem fact_else {b : Bytes} {p d : Nat} {e : WEnv} (nb : notBad b p) (h1 : ∀ n, tkOf b p ≠ .num n) (h2 : nameAt b p = none) :
    sumS .fact d (stAt b p e) = eatOpen '(' d (stAt b p e) >>= fun t => sumS .sum (d + 1) t >>= fun x => eatSign ')' x.2 >>= fun u => .ok (x.1, u) := by
  by_cases hw : ∃ x, tkOf b p = .word x
  · obtain ⟨x, hx⟩ := hw
    rw [sumS_word (by rw [ts_at, hx])]
    unfold oldName eatOpen
    rw [any_none h2, if_pos (by rw [sign_at, hx]; rfl), wanted_tok nb, wanted_tok nb]
    rfl
  · exact sumS_open (fun p' n r z => by rw [ts_at] at z; exact h1 n (congrArg LsWale.Token.tok (List.cons.inj z).1)) (fun p' x r z => by rw [ts_at] at z; exact hw ⟨x, congrArg LsWale.Token.tok (List.cons.inj z).1⟩)
abbrev FnG {α : Type} (P : Program) (w : World) (K : PySem.W.Frag) (mg : Str → Option Value) (base : Heap) (a : Ad) (k : Nat) (f : Addr) (fd : FuncData) (m : Nat) (S : Nat → WSt → Except Fault (α × WSt)) : Prop := FnOk P w K mg base (CXF P w) k f fd ["reader"] (spG K a m S)
theorem sc_read_factor : FnScope ["reader", "token"] ["reader"] (defScope s_read_factor) := ⟨rfl, rfl, rfl, by decide +kernel, rfl, by decide +kernel, by decide +kernel⟩
theorem bad_close {α : Type} {x : α} {s : WSt} {c : Char} {k pl : Nat} (h : HB s k pl) : Bad (eatSign c s >>= fun u => (.ok (x, u) : Except Fault (α × WSt))) k pl := by rw [hb_eatSign h]; exact .inl rfl
theorem ok_read_factor (T : Tx P w K mg a) {m : Nat} (F : FnG P w K mg base a (10 + 3 * m) a.f_read_sum a.d_read_sum m (sumS .sum)) : FnG P w K mg base a (10 + 3 * m + 1) a.f_read_factor a.d_read_factor (m + 1) (sumS .fact) := by
  refine Fun.okx (k := 10 + 3 * m) T.read_factor.fn sc_read_factor spG_len (fun cdv A outer s H vs Q E hr h => ?_)
  obtain ⟨b, R, p, d, e, rfl, hR, hd, hm, hT, kk⟩ := spG_out h
  have C := T.co_Reader.cl
  refine ⟨_, pss_cons (ps_set (i := 1) sc_read_factor.nd rfl (Or.inl rfl) (pe_meth0 (pv 0) C T.Reader_peek.mt (oki_peek T) (hr.mono (by omega)) T.Reader_peek.bd .nil passes_def))
    (pss_one (ps_if (pt_cmpR op_eq (pe_fld (pv 1) rfl) (pk_str T.k_NUMBER) (nomark _)) (pss_one (ps_expr (pe_meth0 (pv 0) C T.Reader_step.mt (oki_step T) (hr.mono (by omega)) T.Reader_step.bd .nil passes_def)))
      (pss_one (ps_if (pt_cmpR op_eq (pe_fld (pv 1) rfl) (pk_str T.k_NAME) (nomark _)) (pss_one (ps_expr ((pe_meth (pv 0) C T.Reader_want_told_name.mt (oki_want_told_name T) (hr.mono (by omega)) T.Reader_want_told_name.bd .nil passes_def (pa_cons (pk_str T.k_NUMBERS) pa_nil)))))
        (pss_cons (ps_expr (pe_meth (pv 0) C T.Reader_enter.mt (oki_enter T) (hr.mono (by omega)) T.Reader_enter.bd .nil passes_def (pa_cons pe_str pa_nil))) (pss_cons (ps_expr (callD T.read_sum F (hr.mono (by omega)) passes_def (pa_cons (pv 0) pa_nil))) (pss_one (ps_expr (pe_meth (pv 0) C T.Reader_leave.mt (oki_leave T) (hr.mono (by omega)) T.Reader_leave.bd .nil passes_def (pa_cons pe_str pa_nil)))))))))), ?_⟩
  refine ⟨_, rfl, R.r, _, _, rfl, hR.ins, rfl, ?_⟩
  refine L_peek (e := e) hR hT (fun k pl hb => .inl (hb_fact hb d)) fun nb H1 x hR1 kp1 tk1 => ?_
  obtain ⟨dt, ft, et, lt1, lt2, lt3, lt4, lt5⟩ := tk1
  refine ⟨_, rfl, x, _, dt, ft, _, rfl, et, T.co_Token.cl, T.na_Token_kind, lt1, rfl, _, rfl, ?_⟩
  rw [dec_s]
  refine ite2 (fun c => ?_) (fun c => ?_)
  · obtain ⟨n, hn⟩ := kd_num.mp (of_decide_eq_true c)
    refine ⟨_, rfl, R.r, _, _, rfl, hR1.ins, rfl, ?_⟩
    exact L_step hR1 nb fun H2 y hR2 kp2 tk2 => kk _ _ _ (fact_num hn) H2 hR2 (kp1.trans kp2)
  have h1 : ∀ n, tkOf b p ≠ .num n := fun n z => c (decide_eq_true (kd_num.mpr ⟨n, z⟩))
  refine ⟨_, rfl, x, _, dt, ft, _, rfl, et, T.co_Token.cl, T.na_Token_kind, lt1, rfl, _, rfl, ?_⟩
  rw [dec_s]
  refine ite2 (fun c2 => ?_) (fun c2 => ?_)
  · obtain ⟨z, hz⟩ := kd_name.mp (of_decide_eq_true c2)
    refine ⟨_, rfl, R.r, _, _, rfl, hR1.ins, rfl, ?_⟩
    exact L_told (k := .numbers) hR1 rfl hT (fact_name hz) rfl fun y hy H2 hR2 kp2 => kk _ _ _ hy H2 hR2 (kp1.trans kp2)
  have h2 : nameAt b p = none := by
    cases hx : nameAt b p with
    | none => rfl
    | some x => exact absurd (decide_eq_true (kd_name.mpr ⟨x, hx⟩)) c2
  refine ⟨_, rfl, R.r, _, _, rfl, hR1.ins, rfl, ?_⟩
  refine L_enter hR1 hd hT (fact_else nb h1 h2) fun e1 l8 hs H2 hR2 kp2 => ?_
  refine ⟨_, rfl, ?_⟩
  refine L_g (m := m) hR2 (by omega) (by omega) hT e1 (fun x s k pl hb => bad_close hb) fun y p' e' hS e2 H3 hR3 kp3 => ?_
  refine ⟨_, rfl, R.r, _, _, rfl, hR3.ins, rfl, ?_⟩
  exact L_leave hR3 hT e2 fun e3 H4 hR4 kp4 => kk _ _ _ e3 H4 hR4 (((kp1.trans kp2).trans kp3).trans kp4)
end Wale
end
section
set_option Elab.async false
set_option linter.all false
set_option maxRecDepth 100000
set_option maxHeartbeats 2000000
namespace Wale
open PySem PySem.Spec PyProof.Rows L2
open Wm
open LsWale (ascii Fault eatSign eatWord eatOpen anyName newName oldName markName holdName wanted isName)
variable {P : Program} {w : World} {K : PySem.W.Frag} {mg : Str → Option Value} {base : Heap} {a : Ad}
theorem in_signs {b : Bytes} {p : Nat} {e : WEnv} (cs : List Char) {l : List Str} (hl : l = cs.map fun c => strOf [UInt8.ofNat c.toNat]) (hc : ∀ c ∈ cs, LsWale.isLetter (UInt8.ofNat c.toNat) = false) :
    inV (.str (txTok (tkOf b p))) (l.map V.str) = cs.any fun c => (stAt b p e).isSign c := by
  subst hl
  have h1 : (cs.map fun c => strOf [UInt8.ofNat c.toNat]) = (cs.map fun c => [UInt8.ofNat c.toNat]).map strOf := by rw [List.map_map]; rfl
  rw [tx_eq, h1, in_strs]
  induction cs with
  | nil => rfl
  | cons c r ih =>
    rw [List.map_cons, List.contains_cons, List.any_cons, ih (fun c h => hc c (List.mem_cons_of_mem _ h)) (by rw [List.map_map]; rfl)]
    congr 1
    rw [Bool.eq_iff_iff, beq_iff_eq]
    exact txS b p e (hc c (List.mem_cons_self ..))
theorem in_words {b : Bytes} {p : Nat} {e : WEnv} (ws : List String) {l : List Str} (hl : l = ws.map fun c => strOf (ascii c)) (hc : ∀ c ∈ ws, wOk c = true) :
    inV (.str (txTok (tkOf b p))) (l.map V.str) = ws.any fun c => (stAt b p e).isWord c := by
  subst hl
  have h1 : (ws.map fun c => strOf (ascii c)) = (ws.map fun c => ascii c).map strOf := by rw [List.map_map]; rfl
  rw [tx_eq, h1, in_strs]
  induction ws with
  | nil => rfl
  | cons c r ih =>
    rw [List.map_cons, List.contains_cons, List.any_cons, ih (fun c h => hc c (List.mem_cons_of_mem _ h)) (by rw [List.map_map]; rfl)]
    congr 1
    rw [Bool.eq_iff_iff, beq_iff_eq]
    exact txW b p e (hc c (List.mem_cons_self ..))
section
variable {α β : Type} {b : Bytes} {R : RA} {p d m : Nat} {L : NL} {e : WEnv} {H : Hp} {E : XK} {r : Except Fault (α × WSt)} {σ : L2.St} {Q : Bool → Hp → Prop}
theorem L_in2 {z1 z2 : Str} (T : Tx P w K mg a) (h0 : σ[0]? = some (some (.ref R.r))) (hR : RdrAt a K b R p d L H) (hT : Tl K a E r) (hb : ∀ k pl, HB (stAt b p e) k pl → Bad r k pl)
    (k : notBad b p → ∀ H' : Hp, RdrAt a K b R p d L H' → KeepR R H H' → Q (inV (.str (txTok (tkOf b p))) [.str z1, .str z2]) H') :
    tTest (tOp (rIn K false) (tFld K (tMeth a.c_Reader "peek" (iPeek K a) [] E (tVar 0) tNil) "text") (tTup (tCons (tC (.str z1)) (tCons (tC (.str z2)) tNil)))) σ H Q := by
  refine ⟨_, h0, R.r, _, _, rfl, hR.ins, rfl, L_peek hR hT hb fun nb H1 x hR1 kp1 tk1 => ?_⟩
  obtain ⟨dt, ft, et, lt1, lt2, lt3, lt4, lt5⟩ := tk1
  refine ⟨x, _, dt, ft, _, rfl, et, T.co_Token.cl, T.na_Token_text, lt2, (by show 2 ≤ sizeLine; decide), fun q hq => ?_⟩
  refine ⟨q, _, rfl, .inr (.inl (.inl upd_same)), rfl, rfl, _, rfl, ?_⟩
  rw [if_neg Bool.false_ne_true]
  exact k nb _ (hR1.same (same_upd hq)) (kp1.trans (same_keepR (same_upd hq)))
theorem L_inT {l : List Str} {dd : Addr} (T : Tx P w K mg a) (h0 : σ[0]? = some (some (.ref R.r))) (hR : RdrAt a K b R p d L H) (hT : Tl K a E r) (hb : ∀ k pl, HB (stAt b p e) k pl → Bad r k pl)
    (k : notBad b p → ∀ H' : Hp, RdrAt a K b R p d L H' → KeepR R H H' → Q (inV (.str (txTok (tkOf b p))) (l.map V.str)) H') :
    tTest (tOp (rInS l dd) (tFld K (tMeth a.c_Reader "peek" (iPeek K a) [] E (tVar 0) tNil) "text") (tC (.ref dd))) σ H Q := by
  refine ⟨_, h0, R.r, _, _, rfl, hR.ins, rfl, L_peek hR hT hb fun nb H1 x hR1 kp1 tk1 => ?_⟩
  obtain ⟨dt, ft, et, lt1, lt2, lt3, lt4, lt5⟩ := tk1
  exact ⟨x, _, dt, ft, _, rfl, et, T.co_Token.cl, T.na_Token_text, lt2, rfl, _, rfl, _, rfl, k nb H1 hR1 kp1⟩
end
theorem bad_ok' {α : Type} {r : Except Fault (α × WSt)} {x : α} {s : WSt} {k pl : Nat} (h : r = .ok (x, s)) (hb : HB s k pl) : Bad r k pl := .inr ⟨x, s, h, hb⟩
theorem sc_read_product : FnScope ["reader"] ["reader"] (defScope s_read_product) := ⟨rfl, rfl, rfl, by decide +kernel, rfl, by decide +kernel, by decide +kernel⟩
theorem toks_lt {α : Type} {b : Bytes} {p p' : Nat} {e e' : WEnv} {x : α} {g : Except Fault (α × WSt)} (h : Lt (stAt b p e).ts.length g) (hS : g = .ok (x, stAt b p' e')) : (toks b p').length < (toks b p).length := h _ _ hS
theorem end_lt {b : Bytes} {p : Nat} (h : isTok (tkOf b p) = true) : (toks b (tkEnd b p)).length < (toks b p).length := by
  have h1 := next_lt (s := stAt b p .none_) (by rw [ts_at]; exact List.cons_ne_nil _ _)
  rw [next_at h] at h1
  exact h1
theorem star_eq {b : Bytes} {p : Nat} {e : WEnv} : inV (.str (txTok (tkOf b p))) [.str "*", .str "/"] = ((stAt b p e).isSign '*' || (stAt b p e).isSign '/') := by
  have h := in_signs (b := b) (p := p) (e := e) ['*', '/'] (l := ["*", "/"]) (by decide +kernel) (by decide +kernel)
  rw [show (['*', '/'].any fun c => (stAt b p e).isSign c) = ((stAt b p e).isSign '*' || ((stAt b p e).isSign '/' || false)) from rfl, Bool.or_false] at h
  exact h
theorem plus_eq {b : Bytes} {p : Nat} {e : WEnv} : inV (.str (txTok (tkOf b p))) [.str "+", .str "-"] = ((stAt b p e).isSign '+' || (stAt b p e).isSign '-') := by
  have h := in_signs (b := b) (p := p) (e := e) ['+', '-'] (l := ["+", "-"]) (by decide +kernel) (by decide +kernel)
  rw [show (['+', '-'].any fun c => (stAt b p e).isSign c) = ((stAt b p e).isSign '+' || ((stAt b p e).isSign '-' || false)) from rfl, Bool.or_false] at h
  exact h
theorem or_isTok {b : Bytes} {p : Nat} {e : WEnv} {c c' : Char} (h : ((stAt b p e).isSign c || (stAt b p e).isSign c') = true) : isTok (tkOf b p) = true := by
  rcases (Bool.or_eq_true _ _).mp h with h | h
  · exact sign_isTok h
  · exact sign_isTok h
theorem ok_read_product (T : Tx P w K mg a) {k m : Nat} (hk : 9 ≤ k) (F : FnG P w K mg base a k a.f_read_factor a.d_read_factor m (sumS .fact)) : FnG P w K mg base a (k + 1) a.f_read_product a.d_read_product m (sumS .prod) := by
  refine Fun.okx (k := k) T.read_product.fn sc_read_product spG_len (fun cdv A outer s H vs Q E hr h => ?_)
  obtain ⟨b, R, p, d, e, rfl, hR, hd, hm, hT, kk⟩ := spG_out h
  have C := T.co_Reader.cl
  refine ⟨_, pss_cons (ps_expr (callD T.read_factor F hr passes_def (pa_cons (pv 0) pa_nil)))
    (pss_one (ps_while own_def (pt_cmpR op_in_seq (pe_fld (pe_meth0 (pv 0) C T.Reader_peek.mt (oki_peek T) (hr.mono (by omega)) T.Reader_peek.bd .nil passes_def) rfl) (pe_tup (pa_cons pe_str (pa_cons pe_str pa_nil))) (by rfl)) (pss_cons (ps_expr (pe_meth0 (pv 0) C T.Reader_step.mt (oki_step T) (hr.mono (by omega)) T.Reader_step.bd .nil passes_def)) (pss_one (ps_expr (callD T.read_factor F hr passes_def (pa_cons (pv 0) pa_nil))))))), ?_⟩
  refine ⟨_, rfl, ?_⟩
  refine L_g hR hd hm hT (sumS_prod d _) (fun x s k pl hb => bad_ok' (hb_prest hb x d) hb) fun x p1 e1 hS h1 H1 hR1 kp1 => ?_
  let I : LsWale.Sum × Nat × WEnv → L2.St → Hp → Prop := fun i σ H' => σ = [some (.ref R.r)] ∧ RdrAt a K b R i.2.1 d (lst i.2.2) H' ∧ KeepR R H H' ∧ sumS .prod d (stAt b p e) = sumS (.prodRest i.1) d (stAt b i.2.1 i.2.2)
  let μ : LsWale.Sum × Nat × WEnv → Nat := fun i => (toks b i.2.1).length
  refine while_inv I μ (x, p1, e1) ⟨rfl, hR1, kp1, h1⟩ ?_
  rintro ⟨x, p1, e1⟩ σ H2 ⟨rfl, hR2, kp2, h2⟩
  dsimp only at hR2 h2
  refine L_in2 (e := e1) T rfl hR2 hT (fun k pl hb => by rw [h2]; exact bad_ok' (hb_prest hb x d) hb) fun nb H3 hR3 kp3 => ?_
  rw [star_eq (e := e1)]
  rw [sumS_prest] at h2
  refine ite2 (fun c => ?_) (fun c => ?_)
  · rw [if_pos c, next_at (or_isTok c)] at h2
    refine turn_mk (I := I) (μ := μ) (i := (x, p1, e1)) ?_
    refine ⟨_, rfl, R.r, _, _, rfl, hR3.ins, rfl, ?_⟩
    refine L_step hR3 nb fun H4 y hR4 kp4 tk4 => ⟨_, rfl, ?_⟩
    refine L_g hR4 hd hm hT h2 (fun x s k pl hb => bad_ok' (hb_prest hb _ d) hb) fun x' p2 e2 hS2 h3 H5 hR5 kp5 => ?_
    refine ⟨(_, p2, e2), ?_, rfl, hR5, ((kp2.trans kp3).trans kp4).trans kp5, h3⟩
    have l1 := toks_lt (fact_lt _ d _) hS2
    have l2 := end_lt (or_isTok c)
    show (toks b p2).length < (toks b p1).length
    omega
  · rw [if_neg c] at h2
    exact kk _ _ _ h2 H3 hR3 (kp2.trans kp3)
end Wale
end
section
set_option Elab.async false
set_option linter.all false
set_option maxRecDepth 100000
set_option maxHeartbeats 2000000
namespace Wale
open PySem PySem.Spec PyProof.Rows L2
open Wm
open LsWale (ascii Fault eatSign eatWord eatOpen anyName newName oldName markName holdName wanted isName)
variable {P : Program} {w : World} {K : PySem.W.Frag} {mg : Str → Option Value} {base : Heap} {a : Ad}
theorem sc_read_sum : FnScope ["reader"] ["reader"] (defScope s_read_sum) := ⟨rfl, rfl, rfl, by decide +kernel, rfl, by decide +kernel, by decide +kernel⟩
theorem ok_read_sum1 (T : Tx P w K mg a) {k m : Nat} (hk : 9 ≤ k) (F : FnG P w K mg base a k a.f_read_product a.d_read_product m (sumS .prod)) : FnG P w K mg base a (k + 1) a.f_read_sum a.d_read_sum m (sumS .sum) := by
  refine Fun.okx (k := k) T.read_sum.fn sc_read_sum spG_len (fun cdv A outer s H vs Q E hr h => ?_)
  obtain ⟨b, R, p, d, e, rfl, hR, hd, hm, hT, kk⟩ := spG_out h
  have C := T.co_Reader.cl
  refine ⟨_, pss_cons (ps_expr (callD T.read_product F hr passes_def (pa_cons (pv 0) pa_nil)))
    (pss_one (ps_while own_def (pt_cmpR op_in_seq (pe_fld (pe_meth0 (pv 0) C T.Reader_peek.mt (oki_peek T) (hr.mono (by omega)) T.Reader_peek.bd .nil passes_def) rfl) (pe_tup (pa_cons pe_str (pa_cons pe_str pa_nil))) (by rfl)) (pss_cons (ps_expr (pe_meth0 (pv 0) C T.Reader_step.mt (oki_step T) (hr.mono (by omega)) T.Reader_step.bd .nil passes_def)) (pss_one (ps_expr (callD T.read_product F hr passes_def (pa_cons (pv 0) pa_nil))))))), ?_⟩
  refine ⟨_, rfl, ?_⟩
  refine L_g hR hd hm hT (sumS_sum d _) (fun x s k pl hb => bad_ok' (hb_rest hb x d) hb) fun x p1 e1 hS h1 H1 hR1 kp1 => ?_
  let I : LsWale.Sum × Nat × WEnv → L2.St → Hp → Prop := fun i σ H' => σ = [some (.ref R.r)] ∧ RdrAt a K b R i.2.1 d (lst i.2.2) H' ∧ KeepR R H H' ∧ sumS .sum d (stAt b p e) = sumS (.sumRest i.1) d (stAt b i.2.1 i.2.2)
  let μ : LsWale.Sum × Nat × WEnv → Nat := fun i => (toks b i.2.1).length
  refine while_inv I μ (x, p1, e1) ⟨rfl, hR1, kp1, h1⟩ ?_
  rintro ⟨x, p1, e1⟩ σ H2 ⟨rfl, hR2, kp2, h2⟩
  dsimp only at hR2 h2
  refine L_in2 (e := e1) T rfl hR2 hT (fun k pl hb => by rw [h2]; exact bad_ok' (hb_rest hb x d) hb) fun nb H3 hR3 kp3 => ?_
  rw [plus_eq (e := e1)]
  rw [sumS_rest] at h2
  refine ite2 (fun c => ?_) (fun c => ?_)
  · rw [if_pos c, next_at (or_isTok c)] at h2
    refine turn_mk (I := I) (μ := μ) (i := (x, p1, e1)) ?_
    refine ⟨_, rfl, R.r, _, _, rfl, hR3.ins, rfl, ?_⟩
    refine L_step hR3 nb fun H4 y hR4 kp4 tk4 => ⟨_, rfl, ?_⟩
    refine L_g hR4 hd hm hT h2 (fun x s k pl hb => bad_ok' (hb_rest hb _ d) hb) fun x' p2 e2 hS2 h3 H5 hR5 kp5 => ?_
    refine ⟨(_, p2, e2), ?_, rfl, hR5, ((kp2.trans kp3).trans kp4).trans kp5, h3⟩
    have l1 := toks_lt (prod_lt _ d _) hS2
    have l2 := end_lt (or_isTok c)
    show (toks b p2).length < (toks b p1).length
    omega
  · rw [if_neg c] at h2
    exact kk _ _ _ h2 H3 hR3 (kp2.trans kp3)
theorem ok_read_sum (T : Tx P w K mg a) : ∀ m, FnG P w K mg base a (10 + 3 * m) a.f_read_sum a.d_read_sum m (sumS .sum)
  | 0 => spG_no
  | m + 1 => ok_read_sum1 T (k := 10 + 3 * m + 1 + 1) (by omega) (ok_read_product T (by omega) (ok_read_factor T (ok_read_sum T m)))
def spBegins (a : Ad) : Sp := fun vs H Q _ => ∃ (b : Bytes) (p : Nat) (x : Addr), vs = [.ref x] ∧ TokIs a b p H x ∧ notBad b p ∧ Q (.bl (stAt b p .none_).sums) H
theorem sc_begins_sum : FnScope ["token"] ["token"] (defScope s_begins_sum) := ⟨rfl, rfl, rfl, by decide +kernel, rfl, by decide +kernel, by decide +kernel⟩
theorem sums_env (b : Bytes) (p : Nat) (e e' : WEnv) : (stAt b p e).sums = (stAt b p e').sums := by rw [sums_at, sums_at]
theorem begins_eq {b : Bytes} {p : Nat} (nb : notBad b p) : (stAt b p .none_).sums = (decide (kdTok (tkOf b p) = ("number" : Str)) || (decide (kdTok (tkOf b p) = ("name" : Str)) || decide (txTok (tkOf b p) = ("(" : Str)))) := by
  have h1 : decide (txTok (tkOf b p) = ("(" : Str)) = (stAt b p .none_).isSign '(' := by
    rw [Bool.eq_iff_iff, decide_eq_true_eq]
    exact (tx_is (by decide +kernel)).trans (txS b p .none_ (c := '(') (by decide +kernel))
  rw [h1, sums_at]
  cases q : tkOf b p with
  | bad k => exact absurd q (nb k)
  | num n => rfl
  | word x =>
    rw [sign_at, q]
    show isName x = (decide (kdWord x = ("number" : Str)) || (decide (kdWord x = ("name" : Str)) || false))
    unfold kdWord
    by_cases h : isName x = true
    · rw [if_pos h, h]; decide +kernel
    · rw [if_neg h, Bool.eq_false_iff.mpr h]; decide +kernel
  | sign c =>
    rw [sign_at, q]
    show _ = (decide (("fixed" : Str) = "number") || (decide (("fixed" : Str) = "name") || _))
    rw [show decide (("fixed" : Str) = "number") = false by decide +kernel, show decide (("fixed" : Str) = "name") = false by decide +kernel]
    rfl
  | done =>
    rw [sign_at, q]
    show _ = (decide (("end" : Str) = "number") || (decide (("end" : Str) = "name") || _))
    rw [show decide (("end" : Str) = "number") = false by decide +kernel, show decide (("end" : Str) = "name") = false by decide +kernel]
    rfl
theorem ok_begins_sum (T : Tx P w K mg a) : FnOk P w K mg base CX0 1 a.f_begins_sum a.d_begins_sum ["token"] (spBegins a) := by
  refine T.begins_sum.fn.ok sc_begins_sum (fun vs H Q E h => ?_) (fun cdv A outer s H vs Q E hr h => ?_)
  · obtain ⟨_, _, _, rfl, _⟩ := h; rfl
  obtain ⟨b, p, x, rfl, tk, nb, q⟩ := h
  refine ⟨_, pss_one (ps_ret (pe_or (pe_cmpR op_eq (pe_fld (pv 0) rfl) (pk_str T.k_NUMBER) (nomark _)) (pe_or (pe_cmpR op_eq (pe_fld (pv 0) rfl) (pk_str T.k_NAME) (nomark _)) (pe_one (pe_cmpR op_eq (pe_fld (pv 0) rfl) pe_str (nomark _)))))), ?_⟩
  obtain ⟨dt, ft, et, lt1, lt2, lt3, lt4, lt5⟩ := tk
  rw [begins_eq nb] at q
  have cl := T.co_Token.cl
  refine ⟨_, rfl, x, _, dt, ft, _, rfl, et, cl, T.na_Token_kind, lt1, rfl, _, rfl, ?_⟩
  rw [dec_s]
  refine ite2 (fun c => ?_) (fun c => ?_)
  · rw [c] at q; exact q
  rw [Bool.eq_false_iff.mpr c, Bool.false_or] at q
  refine ⟨_, rfl, x, _, dt, ft, _, rfl, et, cl, T.na_Token_kind, lt1, rfl, _, rfl, ?_⟩
  rw [dec_s]
  refine ite2 (fun c => ?_) (fun c => ?_)
  · rw [c] at q; exact q
  rw [Bool.eq_false_iff.mpr c, Bool.false_or] at q
  refine ⟨_, rfl, x, _, dt, ft, _, rfl, et, cl, T.na_Token_text, lt2, rfl, ?_⟩
  rw [dec_s]
  exact q
section
variable {α β : Type} {b : Bytes} {R : RA} {p d m : Nat} {L : NL} {e : WEnv} {H : Hp} {Q : VK} {E : XK} {r : Except Fault (α × WSt)}
theorem wide_at (b : Bytes) (p : Nat) (e : WEnv) : LsWale.wideAt (stAt b p e) = match tkOf b p with
    | .num n => if 1 ≤ n ∧ n ≤ 16 then .ok (n, stAt b (tkEnd b p) e) else .error ⟨6, tkAt b p⟩
    | _ => wanted (stAt b p e) := by
  unfold LsWale.wideAt
  rw [ts_at]
  cases q : tkOf b p with
  | num n =>
    dsimp only
    rw [next_at (by rw [q]; rfl)]; rfl
  | _ => rfl
end
theorem sc_read_crossing_number : FnScope ["reader", "token"] ["reader"] (defScope s_read_crossing_number) := ⟨rfl, rfl, rfl, by decide +kernel, rfl, by decide +kernel, by decide +kernel⟩
theorem ok_read_crossing_number (T : Tx P w K mg a) : FnG P w K mg base a 10 a.f_read_crossing_number a.d_read_crossing_number 9 (fun _ => LsWale.wideAt) := by
  refine Fun.okx (k := 9) T.read_crossing_number.fn sc_read_crossing_number spG_len (fun cdv A outer s H vs Q E hr h => ?_)
  obtain ⟨b, R, p, d, e, rfl, hR, hd, hm, hT, kk⟩ := spG_out h
  have C := T.co_Reader.cl
  refine ⟨_, pss_cons (ps_set (i := 1) sc_read_crossing_number.nd rfl (Or.inl rfl) ((pe_meth (pv 0) C T.Reader_want_kind.mt (oki_want_kind T) (hr.mono (by omega)) T.Reader_want_kind.bd .nil passes_def (pa_cons (pk_str T.k_NUMBER) pa_nil))))
    (pss_one (ps_if (PW.pt (pw_or (pt_cmpR op_lt (pe_fld (pv 1) rfl) pe_int (nomark _)) (pw_or1 (pt_cmpR op_gt (pe_fld (pv 1) rfl) (pk_int T.k_LARGEST_CROSSING) (nomark _)))))
      (pss_one (ps_fault rfl raises_def T.cx_BoundFault (ok_BoundFault_init T) T.BoundFault_init.2 (hr.mono (by omega)) (pe_fld (pv 1) rfl))) pss_nil)), ?_⟩
  refine ⟨_, rfl, R.r, _, _, rfl, hR.ins, rfl, ?_⟩
  refine L_kind hR (hT.bt (e := e) fun k pl hb => .inl (hb_wide hb)) (fun nb hk H1 x hR1 kp1 tk1 => ?_) (fun nb hk => ?_)
  · obtain ⟨n, hn⟩ := kd_num.mp hk
    have hw := wide_at b p e
    rw [hn] at hw
    dsimp only at hw
    obtain ⟨dt, ft, et, lt1, lt2, lt3, lt4, lt5⟩ := tk1
    have cl := T.co_Token.cl
    have lt3' : ft.lookup ("number" : Str) = some (V.int (n : Int)) := by rw [lt3, hn]; rfl
    have bad : ∀ lo, ¬ (1 ≤ n ∧ n ≤ 16) → tFault lo K a.c_BoundFault E 6 (tFld K (tVar 1) "place") { nx := fun _ H' => Q .non H', rt := Q } [some (.ref R.r), some (.ref x)] H1 := fun lo hn2 => by
      rw [if_neg hn2] at hw
      exact ⟨_, rfl, x, _, dt, ft, _, rfl, et, cl, T.na_Token_place, lt4, flt_ok T.cx_BoundFault (hT.err hw)⟩
    refine ⟨_, rfl, x, _, dt, ft, _, rfl, et, cl, T.na_Token_number, lt3', _, _, rfl, rfl, _, rfl, ?_⟩
    refine ite2 (fun c => ?_) (fun c => ?_)
    · exact iteT (bad _ fun z => by have := of_decide_eq_true c; omega)
    · refine ⟨_, rfl, x, _, dt, ft, _, rfl, et, cl, T.na_Token_number, lt3', _, _, rfl, rfl, _, rfl, ?_⟩
      refine ite2 (fun c2 => ?_) (fun c2 => ?_)
      · exact bad _ fun z => by have := of_decide_eq_true c2; omega
      · rw [if_pos (by
          have h1 : ¬ ((n : Int) < 1) := fun z => c (decide_eq_true z)
          have h2 : ¬ ((16 : Int) < n) := fun z => c2 (decide_eq_true z)
          omega)] at hw
        exact kk _ _ _ hw H1 hR1 kp1
  · refine hT.err ?_
    rw [wide_at]
    cases q : tkOf b p with
    | num n => exact absurd (kd_num.mpr ⟨n, q⟩) hk
    | bad k => exact absurd q (nb k)
    | _ => exact wanted_tok nb
end Wale
end
section
set_option Elab.async false
set_option linter.all false
set_option maxRecDepth 100000
set_option maxHeartbeats 2000000
namespace Wale
open PySem PySem.Spec PyProof.Rows L2
open Wm
open LsWale (ascii Fault eatSign eatWord eatOpen anyName newName oldName markName holdName wanted isName)
variable {P : Program} {w : World} {K : PySem.W.Frag} {mg : Str → Option Value} {base : Heap} {a : Ad}
@[irreducible] def spO {α : Type} (K : PySem.W.Frag) (a : Ad) (m : Nat) (S : Nat → WSt → Option (Except Fault (α × WSt))) : Sp := fun vs H Q E => ∃ (b : Bytes) (R : RA) (p d : Nat) (e : WEnv) (g : Except Fault (α × WSt)), vs = [.ref R.r] ∧ RdrAt a K b R p d (lst e) H ∧ d ≤ 8 ∧ 8 < d + m ∧
  S d (stAt b p e) = some g ∧ Tl K a E g ∧ ∀ x p' e', g = .ok (x, stAt b p' e') → ∀ H' : Hp, RdrAt a K b R p' d (lst e') H' → KeepR R H H' → Q .non H'
theorem spO_len {α : Type} {m : Nat} {S : Nat → WSt → Option (Except Fault (α × WSt))} (vs : List V) (H : Hp) (Q : VK) (E : XK) (h : spO K a m S vs H Q E) : vs.length = 1 := by
  unfold spO at h
  obtain ⟨_, _, _, _, _, _, rfl, _⟩ := h; rfl
theorem spO_out {α : Type} {m : Nat} {S : Nat → WSt → Option (Except Fault (α × WSt))} {vs : List V} {H : Hp} {Q : VK} {E : XK} (h : spO K a m S vs H Q E) : ∃ (b : Bytes) (R : RA) (p d : Nat) (e : WEnv) (g : Except Fault (α × WSt)), vs = [.ref R.r] ∧ RdrAt a K b R p d (lst e) H ∧ d ≤ 8 ∧ 8 < d + m ∧
  S d (stAt b p e) = some g ∧ Tl K a E g ∧ ∀ x p' e', g = .ok (x, stAt b p' e') → ∀ H' : Hp, RdrAt a K b R p' d (lst e') H' → KeepR R H H' → Q .non H' := by unfold spO at h; exact h
abbrev FnO {α : Type} (P : Program) (w : World) (K : PySem.W.Frag) (mg : Str → Option Value) (base : Heap) (a : Ad) (k : Nat) (f : Addr) (fd : FuncData) (m : Nat) (S : Nat → WSt → Option (Except Fault (α × WSt))) : Prop := FnOk P w K mg base (CXF P w) k f fd ["reader"] (spO K a m S)
section
variable {α β : Type} {b : Bytes} {R : RA} {p d m : Nat} {L : NL} {e : WEnv} {H : Hp} {Q : VK} {E : XK} {r : Except Fault (α × WSt)}
theorem L_o {S : Nat → WSt → Option (Except Fault (β × WSt))} {g : Except Fault (β × WSt)} {f : β × WSt → Except Fault (α × WSt)} (hR : RdrAt a K b R p d (lst e) H) (hd : d ≤ 8) (hm : 8 < d + m) (hg : S d (stAt b p e) = some g) (hT : Tl K a E r) (hr : r = g >>= f) (hB : ∀ x s k pl, HB s k pl → Bad (f (x, s)) k pl)
    (kk : ∀ x p' e', g = .ok (x, stAt b p' e') → r = f (x, stAt b p' e') → ∀ H' : Hp, RdrAt a K b R p' d (lst e') H' → KeepR R H H' → Q .non H') : spO K a m S [.ref R.r] H Q E := by
  unfold spO
  exact ⟨b, R, p, d, e, g, rfl, hR, hd, hm, hg, fun k pl h => hT k pl (by rw [hr]; exact h.bind fun x s hb => hB x s k pl hb), fun x p' e' hS => kk x p' e' hS (by rw [hr, hS]; rfl)⟩
end
theorem dec_w {b : Bytes} {p : Nat} {z : Str} {c : String} (e : WEnv) (hz : z = strOf (ascii c) := by decide +kernel) (hc : wOk c = true := by decide +kernel) : decide (txTok (tkOf b p) = z) = (stAt b p e).isWord c := by
  rw [Bool.eq_iff_iff, decide_eq_true_eq]
  exact (tx_is hz).trans (txW b p e hc)
theorem word_excl {s : WSt} {x y : String} (h : s.isWord x = true) (n : ascii x ≠ ascii y) : s.isWord y = false := by
  unfold LsWale.St.isWord at h ⊢
  cases q : s.ts with
  | nil => rfl
  | cons t r =>
    rw [q] at h
    obtain ⟨pl, tk⟩ := t
    cases tk with
    | word z =>
      have h : (z == ascii x) = true := h
      rw [beq_iff_eq] at h
      show (z == ascii y) = false
      rw [h]
      exact beq_eq_false_iff_ne.mpr n
    | _ => rfl
theorem noTok_word {b : Bytes} {p : Nat} {e : WEnv} (h : ¬ isTok (tkOf b p) = true) (x : String) : (stAt b p e).isWord x = false := Bool.eq_false_iff.mpr fun z => h (word_isTok z)
theorem map_bind {α β : Type} (r : Except Fault α) (f : α → β) : r.map f = r >>= fun x => .ok (f x) := by cases r <;> rfl
def crossS (_ : Nat) (s : WSt) : Option (Except Fault ((Nat × Nat) × WSt)) := if (s.isWord "cl" || s.isWord "cr") = true then some (LsWale.wideAt s.next >>= fun n => eatSign '/' n.2 >>= fun t => LsWale.wideAt t >>= fun m => .ok ((n.1, m.1), m.2)) else none
theorem sc_read_crossing : FnScope ["reader"] ["reader"] (defScope s_read_crossing) := ⟨rfl, rfl, rfl, by decide +kernel, rfl, by decide +kernel, by decide +kernel⟩
theorem bad_wide {α : Type} {s : WSt} {k pl : Nat} {f : Nat × WSt → Except Fault (α × WSt)} (h : HB s k pl) : Bad (LsWale.wideAt s >>= f) k pl := by rw [hb_wide h]; exact .inl rfl
theorem bad_sign {α : Type} {s : WSt} {k pl : Nat} {c : Char} {f : WSt → Except Fault (α × WSt)} (h : HB s k pl) : Bad (eatSign c s >>= f) k pl := by rw [hb_eatSign h]; exact .inl rfl
theorem bad_sum {α : Type} {s : WSt} {k pl d : Nat} {f : LsWale.Sum × WSt → Except Fault (α × WSt)} (h : HB s k pl) : Bad (sumS .sum d s >>= f) k pl := by rw [hb_sum h]; exact .inl rfl
theorem or_word {b : Bytes} {p : Nat} {e : WEnv} {x y : String} (h : ((stAt b p e).isWord x || (stAt b p e).isWord y) = true) : isTok (tkOf b p) = true := by
  rcases (Bool.or_eq_true _ _).mp h with h | h
  · exact word_isTok h
  · exact word_isTok h
theorem ok_read_crossing (T : Tx P w K mg a) : FnO P w K mg base a 11 a.f_read_crossing a.d_read_crossing 9 crossS := by
  refine Fun.okx (k := 10) T.read_crossing.fn sc_read_crossing spO_len (fun cdv A outer s H vs Q E hr h => ?_)
  obtain ⟨b, R, p, d, e, g, rfl, hR, hd, hm, hg, hT, kk⟩ := spO_out h
  have C := T.co_Reader.cl
  refine ⟨_, pss_cons (ps_expr (pe_meth0 (pv 0) C T.Reader_step.mt (oki_step T) (hr.mono (by omega)) T.Reader_step.bd .nil passes_def)) (pss_cons (ps_expr (callD T.read_crossing_number (ok_read_crossing_number T) hr passes_def (pa_cons (pv 0) pa_nil)))
    (pss_cons (ps_expr (pe_meth (pv 0) C T.Reader_want.mt (oki_want T) (hr.mono (by omega)) T.Reader_want.bd .nil passes_def (pa_cons pe_str pa_nil))) (pss_one (ps_expr (callD T.read_crossing_number (ok_read_crossing_number T) hr passes_def (pa_cons (pv 0) pa_nil)))))), ?_⟩
  unfold crossS at hg
  by_cases c : ((stAt b p e).isWord "cl" || (stAt b p e).isWord "cr") = true
  · rw [if_pos c] at hg
    have e0 := (Option.some.inj hg).symm
    rw [next_at (or_word c)] at e0
    refine ⟨_, rfl, R.r, _, _, rfl, hR.ins, rfl, ?_⟩
    refine L_step hR (tok_notBad (or_word c)) fun H1 y hR1 kp1 tk1 => ⟨_, rfl, ?_⟩
    refine L_g (S := fun _ => LsWale.wideAt) hR1 hd hm hT e0 (fun x s k pl hb => bad_sign hb) fun n p2 e2 hS e3 H2 hR2 kp2 => ?_
    refine ⟨_, rfl, R.r, _, _, rfl, hR2.ins, rfl, ?_⟩
    refine L_want_sign hR2 hT e3 (k := fun e4 H3 y hR3 kp3 tk3 => ⟨_, rfl, ?_⟩)
    exact L_g (S := fun _ => LsWale.wideAt) hR3 hd hm hT e4 (fun x s k pl hb => bad_ok hb) fun n' p4 e5 hS' e6 H4 hR4 kp4 => kk _ _ _ e6 H4 hR4 (((kp1.trans kp2).trans kp3).trans kp4)
  · rw [if_neg c] at hg; cases hg
def loneS (_ : Nat) (s : WSt) : Option (Except Fault (LsWale.Lone × WSt)) := LsWale.loneAt s
theorem lone_tok {b : Bytes} {p : Nat} {e : WEnv} {g : Except Fault (LsWale.Lone × WSt)} (h : LsWale.loneAt (stAt b p e) = some g) : isTok (tkOf b p) = true := by
  by_cases c : isTok (tkOf b p) = true
  · exact c
  · unfold LsWale.loneAt at h
    simp only [noTok_word c] at h
    cases h
theorem sc_read_lone : FnScope ["reader", "word"] ["reader"] (defScope s_read_lone) := ⟨rfl, rfl, rfl, by decide +kernel, rfl, by decide +kernel, by decide +kernel⟩
theorem mpc_eq {b : Bytes} {p : Nat} (e : WEnv) : inV (.str (txTok (tkOf b p))) [.str "mark", .str "pass", .str "clear"] = ((stAt b p e).isWord "mark" || ((stAt b p e).isWord "pass" || ((stAt b p e).isWord "clear" || false))) :=
  in_words (b := b) (p := p) (e := e) ["mark", "pass", "clear"] (l := ["mark", "pass", "clear"]) (by decide +kernel) (by decide +kernel)
theorem ok_read_lone (T : Tx P w K mg a) : FnO P w K mg base a 11 a.f_read_lone a.d_read_lone 9 loneS := by
  refine Fun.okx (k := 10) T.read_lone.fn sc_read_lone spO_len (fun cdv A outer s H vs Q E hr h => ?_)
  obtain ⟨b, R, p, d, e, g, rfl, hR, hd, hm, hg, hT, kk⟩ := spO_out h
  have C := T.co_Reader.cl
  refine ⟨_, pss_cons (ps_set (i := 1) sc_read_lone.nd rfl (Or.inl rfl) (pe_fld (pe_meth0 (pv 0) C T.Reader_step.mt (oki_step T) (hr.mono (by omega)) T.Reader_step.bd .nil passes_def) rfl))
    (pss_one (ps_if (pt_cmpR op_eq (pv 1) pe_str (nomark _)) (pss_one (ps_expr ((pe_meth (pv 0) C T.Reader_want_standing_name.mt (oki_want_standing_name T) (hr.mono (by omega)) T.Reader_want_standing_name.bd .nil passes_def (pa_cons (pk_str T.k_HOLDERS) pa_nil)))))
      (pss_one (ps_if (pt_cmpR op_eq (pv 1) pe_str (nomark _)) (pss_one (ps_expr ((pe_meth (pv 0) C T.Reader_want_told_name.mt (oki_want_told_name T) (hr.mono (by omega)) T.Reader_want_told_name.bd .nil passes_def (pa_cons (pk_str T.k_YARNS) pa_nil)))))
        (pss_one (ps_if (pt_cmpR op_in_seq (pv 1) (pe_tup (pa_cons pe_str (pa_cons pe_str (pa_cons pe_str pa_nil)))) (by rfl)) (pss_one (ps_expr ((pe_meth (pv 0) C T.Reader_want_standing_name.mt (oki_want_standing_name T) (hr.mono (by omega)) T.Reader_want_standing_name.bd .nil passes_def (pa_cons (pk_str T.k_MARKERS) pa_nil))))) pss_nil)))))), ?_⟩
  have ht := lone_tok hg
  refine ⟨_, rfl, R.r, _, _, rfl, hR.ins, rfl, ?_⟩
  refine L_step hR (tok_notBad ht) fun H1 x hR1 kp1 tk1 => ?_
  obtain ⟨dt, ft, et, lt1, lt2, lt3, lt4, lt5⟩ := tk1
  refine ⟨x, _, dt, ft, _, rfl, et, T.co_Token.cl, T.na_Token_text, lt2, _, rfl, rfl, _, rfl, ?_⟩
  unfold loneS LsWale.loneAt at hg
  rw [dec_s, dec_w (c := "take") e]
  rw [next_at ht] at hg
  refine ite2 (fun c => ?_) (fun c => ?_)
  · rw [if_pos c, map_bind] at hg
    refine ⟨_, rfl, R.r, _, _, rfl, hR1.ins, rfl, ?_⟩
    exact L_hold hR1 hT (Option.some.inj hg).symm fun y hy H2 hR2 kp2 => kk _ _ _ hy H2 hR2 (kp1.trans kp2)
  rw [if_neg c] at hg
  refine ⟨_, rfl, rfl, _, rfl, ?_⟩
  rw [dec_s, dec_w (c := "yarn") e]
  refine ite2 (fun c => ?_) (fun c => ?_)
  · rw [if_pos c, map_bind] at hg
    refine ⟨_, rfl, R.r, _, _, rfl, hR1.ins, rfl, ?_⟩
    exact L_told (k := .yarns) hR1 rfl hT (Option.some.inj hg).symm rfl fun y hy H2 hR2 kp2 => kk _ _ _ hy H2 hR2 (kp1.trans kp2)
  rw [if_neg c] at hg
  refine ⟨_, rfl, (by show 3 ≤ sizeLine; decide), fun q hq => ?_⟩
  refine ⟨q, _, rfl, .inr (.inl (.inl upd_same)), rfl, rfl, _, rfl, ?_⟩
  have hR2 := hR1.same (same_upd (o := .tup [.str "mark", .str "pass", .str "clear"]) hq)
  have kp2 : KeepR R H (upd H1 q (.tup [.str "mark", .str "pass", .str "clear"])) := kp1.trans (same_keepR (same_upd hq))
  rw [if_neg Bool.false_ne_true, mpc_eq e]
  by_cases c1 : (stAt b p e).isWord "mark" = true
  · rw [if_pos c1, map_bind] at hg
    rw [c1]
    refine iteT ⟨_, rfl, R.r, _, _, rfl, hR2.ins, rfl, ?_⟩
    exact L_mark hR2 hT (Option.some.inj hg).symm fun y hy H3 hR3 kp3 => kk _ _ _ hy H3 hR3 (kp2.trans kp3)
  rw [if_neg c1] at hg
  rw [Bool.eq_false_iff.mpr c1]
  by_cases c2 : (stAt b p e).isWord "pass" = true
  · rw [if_pos c2, map_bind] at hg
    rw [c2]
    refine iteT ⟨_, rfl, R.r, _, _, rfl, hR2.ins, rfl, ?_⟩
    exact L_mark hR2 hT (Option.some.inj hg).symm fun y hy H3 hR3 kp3 => kk _ _ _ hy H3 hR3 (kp2.trans kp3)
  rw [if_neg c2] at hg
  rw [Bool.eq_false_iff.mpr c2]
  by_cases c3 : (stAt b p e).isWord "clear" = true
  · rw [if_pos c3, map_bind] at hg
    rw [c3]
    refine iteT ⟨_, rfl, R.r, _, _, rfl, hR2.ins, rfl, ?_⟩
    exact L_mark hR2 hT (Option.some.inj hg).symm fun y hy H3 hR3 kp3 => kk _ _ _ hy H3 hR3 (kp2.trans kp3)
  rw [if_neg c3] at hg
  rw [Bool.eq_false_iff.mpr c3]
  refine iteF ?_
  by_cases c4 : (stAt b p e).isWord "turn" = true
  · rw [if_pos c4] at hg
    exact kk _ _ _ (Option.some.inj hg).symm _ hR2 kp2
  rw [if_neg c4] at hg
  by_cases c5 : (stAt b p e).isWord "fasten" = true
  · rw [if_pos c5] at hg
    exact kk _ _ _ (Option.some.inj hg).symm _ hR2 kp2
  rw [if_neg c5] at hg
  cases hg
def goalS (d : Nat) (s : WSt) : Except Fault (LsWale.Reach × WSt) :=
  if s.isWord "end" = true then .ok (.to_ .row, s.next)
  else if s.isWord "last" = true then (sumS .sum d s.next >>= fun x => .ok (.to_ (.last x.1), x.2))
  else (eatWord "mark" s >>= fun t => markName t >>= fun x => .ok (.to_ (.mark x.1), x.2))
theorem hb_goal {s : WSt} {k pl : Nat} (h : HB s k pl) (d : Nat) : goalS d s = .error ⟨k, pl⟩ := by
  unfold goalS
  rw [if_neg (by rw [hb_word h]; decide), if_neg (by rw [hb_word h]; decide), hb_eatWord h]; rfl
theorem sc_read_goal : FnScope ["reader"] ["reader"] (defScope s_read_goal) := ⟨rfl, rfl, rfl, by decide +kernel, rfl, by decide +kernel, by decide +kernel⟩
theorem ok_read_goal (T : Tx P w K mg a) : FnG P w K mg base a 38 a.f_read_goal a.d_read_goal 9 goalS := by
  refine Fun.okx (k := 37) T.read_goal.fn sc_read_goal spG_len (fun cdv A outer s H vs Q E hr h => ?_)
  obtain ⟨b, R, p, d, e, rfl, hR, hd, hm, hT, kk⟩ := spG_out h
  have C := T.co_Reader.cl
  refine ⟨_, pss_one (ps_if (pt_val (pe_meth (pv 0) C T.Reader_skip.mt (oki_skip T) (hr.mono (by omega)) T.Reader_skip.bd .nil passes_def (pa_cons pe_str pa_nil))) (pss_one (ps_expr (callD T.read_sum (ok_read_sum T 9) hr passes_def (pa_cons (pv 0) pa_nil))))
    (pss_one (ps_if (pt_val (pe_meth (pv 0) C T.Reader_skip.mt (oki_skip T) (hr.mono (by omega)) T.Reader_skip.bd .nil passes_def (pa_cons pe_str pa_nil))) (pss_one (ps_expr ((pe_meth (pv 0) C T.Reader_want_standing_name.mt (oki_want_standing_name T) (hr.mono (by omega)) T.Reader_want_standing_name.bd .nil passes_def (pa_cons (pk_str T.k_MARKERS) pa_nil))))) (pss_one (ps_expr (pe_meth (pv 0) C T.Reader_want.mt (oki_want T) (hr.mono (by omega)) T.Reader_want.bd .nil passes_def (pa_cons pe_str pa_nil))))))), ?_⟩
  refine ⟨_, rfl, R.r, _, _, rfl, hR.ins, rfl, ?_⟩
  refine L_skip_word (c := "last") (e := e) hR hT (fun k pl hb => .inl (hb_goal hb d)) (fun c H1 hR1 kp1 => ?_) (fun c nb H1 hR1 kp1 => ?_)
  · have e1 : goalS d (stAt b p e) = (sumS .sum d (stAt b (tkEnd b p) e) >>= fun x => .ok (.to_ (.last x.1), x.2)) := by
      unfold goalS
      rw [if_neg (by rw [word_excl c (y := "end") (by decide +kernel)]; decide), if_pos c, next_at (word_isTok c)]
    refine ⟨_, rfl, iteT ⟨_, rfl, ?_⟩⟩
    exact L_g hR1 hd hm hT e1 (fun x s k pl hb => bad_ok hb) fun x p2 e2 hS e3 H2 hR2 kp2 => kk _ _ _ e3 H2 hR2 (kp1.trans kp2)
  refine ⟨_, rfl, iteF ⟨_, rfl, R.r, _, _, rfl, hR1.ins, rfl, ?_⟩⟩
  refine L_skip_word (c := "mark") (e := e) hR1 hT (fun k pl hb => .inl (hb_goal hb d)) (fun c2 H2 hR2 kp2 => ?_) (fun c2 nb H2 hR2 kp2 => ?_)
  · have e1 : goalS d (stAt b p e) = (markName (stAt b (tkEnd b p) e) >>= fun x => .ok (.to_ (.mark x.1), x.2)) := by
      unfold goalS eatWord
      rw [if_neg (by rw [word_excl c2 (y := "end") (by decide +kernel)]; decide), if_neg (by rw [c]; decide), if_pos c2, next_at (word_isTok c2)]
      rfl
    refine ⟨_, rfl, iteT ⟨_, rfl, R.r, _, _, rfl, hR2.ins, rfl, ?_⟩⟩
    exact L_mark hR2 hT e1 fun y hy H3 hR3 kp3 => kk _ _ _ hy H3 hR3 ((kp1.trans kp2).trans kp3)
  have e1 : goalS d (stAt b p e) = (eatWord "end" (stAt b p e) >>= fun t => .ok (.to_ .row, t)) := by
    unfold goalS eatWord
    have c2' : ¬ (stAt b p e).isWord "mark" = true := by rw [c2]; decide
    rw [if_neg c2']
    by_cases c3 : (stAt b p e).isWord "end" = true
    · rw [if_pos c3, if_pos c3]; rfl
    · rw [if_neg c3, if_neg c3, if_neg (by rw [c]; decide), wanted_tok nb]; rfl
  refine ⟨_, rfl, iteF ⟨_, rfl, R.r, _, _, rfl, hR2.ins, rfl, ?_⟩⟩
  exact L_want_word hR2 hT e1 (k := fun e3 H3 x hR3 kp3 tk3 => kk _ _ _ e3 H3 hR3 ((kp1.trans kp2).trans kp3))
end Wale
end
section
set_option Elab.async false
set_option linter.all false
set_option maxRecDepth 100000
set_option maxHeartbeats 2000000
namespace Wale
open PySem PySem.Spec PyProof.Rows L2
open Wm
open LsWale (ascii Fault eatSign eatWord eatOpen anyName newName oldName markName holdName wanted isName PLAINS)
variable {P : Program} {w : World} {K : PySem.W.Frag} {mg : Str → Option Value} {base : Heap} {a : Ad}
def unitS (d : Nat) (s : WSt) : Except Fault ((LsWale.Reach → LsWale.Items → LsWale.Items) × WSt) :=
  if s.isSign '(' = true then (eatOpen '(' d s >>= fun t => itemsS (d + 1) t >>= fun l => eatSign ')' l.2 >>= fun u => .ok (LsWale.Items.group s.place l.1, u))
  else (LsWale.unitAt s >>= fun u => .ok (LsWale.Items.one s.place u.1, u.2))
theorem item_none {d : Nat} {s : WSt} (h : LsWale.loneAt s = none) : itemS d s = unitS d s >>= fun u => reachS d u.2 >>= fun r => .ok (u.1 r.1, r.2) := by
  unfold itemS itemBy unitS
  rw [h]
  dsimp only
  by_cases c : s.isSign '(' = true
  · rw [if_pos c, if_pos c]; simp only [bind_assoc']; rfl
  · rw [if_neg c, if_neg c]; simp only [bind_assoc']; rfl
theorem hb_unitS {s : WSt} {k pl : Nat} (h : HB s k pl) (d : Nat) : unitS d s = .error ⟨k, pl⟩ := by
  unfold unitS
  rw [if_neg (by rw [hb_sign h]; decide), hb_unit h]; rfl
theorem plain_in (b : Bytes) (p : Nat) : inV (.str (txTok (tkOf b p))) ((["k", "p", "ktbl", "ptbl", "yo", "k2tog", "k3tog", "ssk", "sssk", "p2tog", "ssp", "cdd", "kfb", "pfb", "kp", "m1l", "m1r", "sl", "slf", "pso", "even", "co", "bo"] : List Str).map V.str) = PLAINS.contains (txB (tkOf b p)) := by
  rw [plain_eq, tx_eq, in_strs]
theorem plains_letter : ∀ x ∈ PLAINS, ∃ c r, x = c :: r ∧ LsWale.isLetter c = true := by
  intro x hx
  have h : PLAINS.all (fun x => match x with | c :: _ => LsWale.isLetter c | [] => false) = true := by decide +kernel
  have := List.all_eq_true.mp h x hx
  cases x with
  | nil => cases this
  | cons c r => exact ⟨c, r, rfl, this⟩
theorem plain_word {b : Bytes} {p : Nat} (h : PLAINS.contains (txB (tkOf b p)) = true) : tkOf b p = .word (txB (tkOf b p)) := by
  obtain ⟨c, r, e, l⟩ := plains_letter _ (by simpa using h)
  exact (tx_word e l (tk_wf b p)).mp rfl
theorem find_plain (x : Bytes) : (PLAINS.findIdx? fun z => z == x).isSome = PLAINS.contains x := by
  rw [List.findIdx?_isSome, Bool.eq_iff_iff]
  simp
theorem word_unit {b : Bytes} {p : Nat} {e : WEnv} {x : Bytes} (h : tkOf b p = .word x) : LsWale.unitAt (stAt b p e) = match PLAINS.findIdx? fun z => z == x with
    | some k => .ok (.plain k, stAt b (tkEnd b p) e)
    | none => if ((stAt b p e).isWord "cl" || (stAt b p e).isWord "cr") = true then (LsWale.wideAt (stAt b (tkEnd b p) e) >>= fun n => eatSign '/' n.2 >>= fun t => LsWale.wideAt t >>= fun m => .ok (.cable ((stAt b p e).isWord "cr") n.1 m.1, m.2))
      else if (stAt b p e).isWord "hold" = true then (holdName (stAt b (tkEnd b p) e) >>= fun x => .ok (.hold x.1, x.2))
      else (oldName e.words (stAt b p e) >>= fun x => .ok (.word x.1, x.2)) := by
  have hn := next_at (b := b) (p := p) (e := e) (by rw [h]; rfl)
  unfold LsWale.unitAt
  rw [ts_at, h, hn]
  rfl
theorem sc_read_unit : FnScope ["reader", "token"] ["reader"] (defScope s_read_unit) := ⟨rfl, rfl, rfl, by decide +kernel, rfl, by decide +kernel, by decide +kernel⟩
theorem ok_read_unit (T : Tx P w K mg a) {m : Nat} (F : FnG P w K mg base a (40 + 3 * m) a.f_read_row_items a.d_read_row_items m itemsS) : FnG P w K mg base a (40 + 3 * m + 1) a.f_read_unit a.d_read_unit (m + 1) unitS := by
  refine Fun.okx (k := 40 + 3 * m) T.read_unit.fn sc_read_unit spG_len (fun cdv A outer s H vs Q E hr h => ?_)
  obtain ⟨b, R, p, d, e, rfl, hR, hd, hm, hT, kk⟩ := spG_out h
  have C := T.co_Reader.cl
  refine ⟨_, pss_cons (ps_set (i := 1) sc_read_unit.nd rfl (Or.inl rfl) (pe_meth0 (pv 0) C T.Reader_peek.mt (oki_peek T) (hr.mono (by omega)) T.Reader_peek.bd .nil passes_def))
    (pss_one (ps_if (pt_inS T.k_PLAIN (pe_fld (pv 1) rfl)) (pss_one (ps_expr (pe_meth0 (pv 0) C T.Reader_step.mt (oki_step T) (hr.mono (by omega)) T.Reader_step.bd .nil passes_def)))
      (pss_one (ps_if (PW.pt (pw_or (pt_cmpR op_eq (pe_fld (pv 1) rfl) pe_str (nomark _)) (pw_or1 (pt_cmpR op_eq (pe_fld (pv 1) rfl) pe_str (nomark _)))))
        (pss_one (ps_expr (callD T.read_crossing (ok_read_crossing T) (hr.mono (by omega)) passes_def (pa_cons (pv 0) pa_nil))))
        (pss_one (ps_if (pt_val (pe_meth (pv 0) C T.Reader_skip.mt (oki_skip T) (hr.mono (by omega)) T.Reader_skip.bd .nil passes_def (pa_cons pe_str pa_nil))) (pss_one (ps_expr ((pe_meth (pv 0) C T.Reader_want_standing_name.mt (oki_want_standing_name T) (hr.mono (by omega)) T.Reader_want_standing_name.bd .nil passes_def (pa_cons (pk_str T.k_HOLDERS) pa_nil)))))
          (pss_one (ps_if (pt_cmpR op_eq (pe_fld (pv 1) rfl) (pk_str T.k_NAME) (nomark _)) (pss_one (ps_expr ((pe_meth (pv 0) C T.Reader_want_told_name.mt (oki_want_told_name T) (hr.mono (by omega)) T.Reader_want_told_name.bd .nil passes_def (pa_cons (pk_str T.k_WORDS) pa_nil)))))
            (pss_cons (ps_expr (pe_meth (pv 0) C T.Reader_enter.mt (oki_enter T) (hr.mono (by omega)) T.Reader_enter.bd .nil passes_def (pa_cons pe_str pa_nil))) (pss_cons (ps_expr (callD T.read_row_items F hr passes_def (pa_cons (pv 0) pa_nil))) (pss_one (ps_expr (pe_meth (pv 0) C T.Reader_leave.mt (oki_leave T) (hr.mono (by omega)) T.Reader_leave.bd .nil passes_def (pa_cons pe_str pa_nil)))))))))))))), ?_⟩
  refine ⟨_, rfl, R.r, _, _, rfl, hR.ins, rfl, ?_⟩
  refine L_peek (e := e) hR hT (fun k pl hb => .inl (hb_unitS hb d)) fun nb H1 x hR1 kp1 tk1 => ?_
  have tk1' := tk1
  obtain ⟨dt, ft, et, lt1, lt2, lt3, lt4, lt5⟩ := tk1
  have cl := T.co_Token.cl
  refine ⟨_, rfl, x, _, dt, ft, _, rfl, et, cl, T.na_Token_text, lt2, rfl, _, rfl, _, rfl, ?_⟩
  rw [plain_in]
  -- a word's unit
  have uw : ∀ y, tkOf b p = .word y → unitS d (stAt b p e) = (LsWale.unitAt (stAt b p e) >>= fun u => .ok (LsWale.Items.one (stAt b p e).place u.1, u.2)) := fun y hy => by
    unfold unitS
    rw [if_neg (by rw [sign_at, hy]; simp)]
  refine ite2 (fun c => ?_) (fun c => ?_)
  · have hy := plain_word c
    have e1 := uw _ hy
    rw [word_unit hy] at e1
    have hf := find_plain (txB (tkOf b p))
    rw [c] at hf
    obtain ⟨j, hj⟩ := Option.isSome_iff_exists.mp hf
    rw [hj] at e1
    refine ⟨_, rfl, R.r, _, _, rfl, hR1.ins, rfl, ?_⟩
    exact L_step hR1 nb fun H2 y hR2 kp2 tk2 => kk _ _ _ e1 H2 hR2 (kp1.trans kp2)
  have nf : ∀ y, tkOf b p = .word y → (PLAINS.findIdx? fun z => z == y) = none := fun y hy => by
    have hf := find_plain y
    rw [show PLAINS.contains y = false by rw [show y = txB (tkOf b p) by rw [hy]; rfl]; exact Bool.eq_false_iff.mpr c] at hf
    exact Option.not_isSome_iff_eq_none.mp (by rw [hf]; decide)
  have cross : ((stAt b p e).isWord "cl" || (stAt b p e).isWord "cr") = true → ∀ Q' : VK, (∀ H', Q' .non H' = Q .non H') → spO K a 9 crossS [.ref R.r] H1 Q' E := fun cc Q' hQ => by
    obtain ⟨y, hy⟩ : ∃ y, tkOf b p = .word y := by
      rcases (Bool.or_eq_true _ _).mp cc with z | z
      · rw [word_at, decide_eq_true_eq] at z; exact ⟨_, z⟩
      · rw [word_at, decide_eq_true_eq] at z; exact ⟨_, z⟩
    have e1 := uw _ hy
    rw [word_unit hy, nf y hy] at e1
    dsimp only at e1
    rw [if_pos cc] at e1
    have e2 : crossS d (stAt b p e) = some (LsWale.wideAt (stAt b (tkEnd b p) e) >>= fun n => eatSign '/' n.2 >>= fun t => LsWale.wideAt t >>= fun m => .ok ((n.1, m.1), m.2)) := by
      unfold crossS
      rw [if_pos cc, next_at (or_word cc)]
    refine L_o hR1 hd (by omega) e2 hT (f := fun x => .ok (LsWale.Items.one (stAt b p e).place (.cable ((stAt b p e).isWord "cr") x.1.1 x.1.2), x.2)) (by rw [e1]; simp only [bind_assoc']; rfl) (fun x s k pl hb => bad_ok hb) fun x p2 e3 hS e4 H2 hR2 kp2 => ?_
    rw [hQ]
    exact kk _ _ _ e4 H2 hR2 (kp1.trans kp2)
  refine ⟨_, rfl, x, _, dt, ft, _, rfl, et, cl, T.na_Token_text, lt2, rfl, _, rfl, ?_⟩
  rw [dec_s, dec_w (c := "cl") e]
  refine ite2 (fun c1 => iteT ⟨_, rfl, cross (by rw [c1]; rfl) _ fun _ => rfl⟩) (fun c1 => ?_)
  refine ⟨_, rfl, x, _, dt, ft, _, rfl, et, cl, T.na_Token_text, lt2, rfl, _, rfl, ?_⟩
  rw [dec_s, dec_w (c := "cr") e]
  refine ite2 (fun c2 => ⟨_, rfl, cross (by rw [c2, Bool.or_true]) _ fun _ => rfl⟩) (fun c2 => ?_)
  have ncc : ¬ ((stAt b p e).isWord "cl" || (stAt b p e).isWord "cr") = true := by rw [Bool.eq_false_iff.mpr c1, Bool.eq_false_iff.mpr c2]; decide
  refine ⟨_, rfl, R.r, _, _, rfl, hR1.ins, rfl, ?_⟩
  refine L_skip_word (c := "hold") (e := e) hR1 hT (fun k pl hb => .inl (hb_unitS hb d)) (fun c3 H2 hR2 kp2 => ?_) (fun c3 nb H2 hR2 kp2 => ?_)
  · have hy : tkOf b p = .word (ascii "hold") := by rw [word_at, decide_eq_true_eq] at c3; exact c3
    have e1 := uw _ hy
    rw [word_unit hy, nf _ hy] at e1
    dsimp only at e1
    rw [if_neg ncc, if_pos c3, bind_assoc'] at e1
    refine ⟨_, rfl, iteT ⟨_, rfl, R.r, _, _, rfl, hR2.ins, rfl, ?_⟩⟩
    exact L_hold hR2 hT e1 fun y hy H3 hR3 kp3 => kk _ _ _ hy H3 hR3 ((kp1.trans kp2).trans kp3)
  have tk2 := TokAt.keepR tk1' hR1 kp2
  obtain ⟨du, fu, eu, lu1, lu2, lu3, lu4, lu5⟩ := tk2
  refine ⟨_, rfl, iteF ⟨_, rfl, x, _, du, fu, _, rfl, eu, cl, T.na_Token_kind, lu1, rfl, _, rfl, ?_⟩⟩
  have c3' : ¬ (stAt b p e).isWord "hold" = true := by rw [c3]; decide
  rw [dec_s]
  refine ite2 (fun c4 => ?_) (fun c4 => ?_)
  · obtain ⟨y, hy⟩ := kd_name.mp (of_decide_eq_true c4)
    have hy' := (name_word hy).1
    have e1 := uw _ hy'
    rw [word_unit hy', nf _ hy'] at e1
    dsimp only at e1
    rw [if_neg ncc, if_neg c3', bind_assoc'] at e1
    refine ⟨_, rfl, R.r, _, _, rfl, hR2.ins, rfl, ?_⟩
    exact L_told (k := .words) hR2 rfl hT e1 rfl fun y hy H3 hR3 kp3 => kk _ _ _ hy H3 hR3 ((kp1.trans kp2).trans kp3)
  have nn : nameAt b p = none := by
    cases hx : nameAt b p with
    | none => rfl
    | some x => exact absurd (decide_eq_true (kd_name.mpr ⟨x, hx⟩)) c4
  have e1 : unitS d (stAt b p e) = (eatOpen '(' d (stAt b p e) >>= fun t => itemsS (d + 1) t >>= fun l => eatSign ')' l.2 >>= fun u => .ok (LsWale.Items.group (stAt b p e).place l.1, u)) := by
    unfold unitS
    by_cases c5 : (stAt b p e).isSign '(' = true
    · rw [if_pos c5]
    · rw [if_neg c5]
      have e3 : LsWale.unitAt (stAt b p e) = .error ⟨3, tkAt b p⟩ := by
        by_cases hw : ∃ y, tkOf b p = .word y
        · obtain ⟨y, hy⟩ := hw
          rw [word_unit hy, nf _ hy]
          dsimp only
          rw [if_neg ncc, if_neg c3']
          unfold oldName
          rw [any_none nn, wanted_tok nb]; rfl
        · unfold LsWale.unitAt
          rw [ts_at]
          cases q : tkOf b p with
          | word y => exact absurd ⟨y, q⟩ hw
          | _ =>
            dsimp only
            exact wanted_tok nb
      rw [e3]
      unfold eatOpen
      rw [if_pos (Bool.eq_false_iff.mpr c5), wanted_tok nb]; rfl
  refine ⟨_, rfl, R.r, _, _, rfl, hR2.ins, rfl, ?_⟩
  refine L_enter hR2 hd hT e1 fun e2 l8 hs H3 hR3 kp3 => ⟨_, rfl, ?_⟩
  refine L_g (m := m) hR3 (by omega) (by omega) hT e2 (fun x s k pl hb => bad_close hb) fun y p' e' hS e3 H4 hR4 kp4 => ?_
  refine ⟨_, rfl, R.r, _, _, rfl, hR4.ins, rfl, ?_⟩
  exact L_leave hR4 hT e3 fun e4 H5 hR5 kp5 => kk _ _ _ e4 H5 hR5 ((((kp1.trans kp2).trans kp3).trans kp4).trans kp5)
end Wale
end
section
set_option Elab.async false
set_option linter.all false
set_option maxRecDepth 100000
set_option maxHeartbeats 2000000
namespace Wale
open PySem PySem.Spec PyProof.Rows L2
open Wm
open LsWale (ascii Fault eatSign eatWord eatOpen anyName newName oldName markName holdName wanted isName PLAINS)
variable {P : Program} {w : World} {K : PySem.W.Frag} {mg : Str → Option Value} {base : Heap} {a : Ad}
theorem lones_in {b : Bytes} {p : Nat} (e : WEnv) : inV (.str (txTok (tkOf b p))) ((["take", "yarn", "mark", "pass", "clear", "turn", "fasten"] : List Str).map V.str) = (LsWale.loneAt (stAt b p e)).isSome := by
  rw [in_words (e := e) ["take", "yarn", "mark", "pass", "clear", "turn", "fasten"] (by decide +kernel) (by decide +kernel)]
  unfold LsWale.loneAt
  simp only [List.any_cons, List.any_nil, Bool.or_false]
  by_cases h1 : (stAt b p e).isWord "take" = true
  · simp [h1]
  by_cases h2 : (stAt b p e).isWord "yarn" = true
  · simp [h1, h2]
  by_cases h3 : (stAt b p e).isWord "mark" = true
  · simp [h1, h2, h3]
  by_cases h4 : (stAt b p e).isWord "pass" = true
  · simp [h1, h2, h3, h4]
  by_cases h5 : (stAt b p e).isWord "clear" = true
  · simp [h1, h2, h3, h4, h5]
  by_cases h6 : (stAt b p e).isWord "turn" = true
  · simp [h1, h2, h3, h4, h5, h6]
  by_cases h7 : (stAt b p e).isWord "fasten" = true
  · simp [h1, h2, h3, h4, h5, h6, h7]
  · simp [h1, h2, h3, h4, h5, h6, h7]
theorem reach_to {d : Nat} {b : Bytes} {p : Nat} {e : WEnv} (h : (stAt b p e).isWord "to" = true) : reachS d (stAt b p e) = goalS d (stAt b (tkEnd b p) e) := by
  rw [reachS_def, if_pos h, next_at (word_isTok h)]
  rfl
theorem to_sums {b : Bytes} {p : Nat} {e : WEnv} (h : (stAt b p e).isWord "to" = true) : (stAt b p e).sums = false := by
  rw [word_at, decide_eq_true_eq] at h
  rw [sums_at, h]
  show isName (ascii "to") = false
  decide +kernel
theorem item_some {d : Nat} {s : WSt} {g : Except Fault (LsWale.Lone × WSt)} (h : LsWale.loneAt s = some g) : itemS d s = g >>= fun y => .ok (LsWale.Items.lone s.place y.1, y.2) := by
  unfold itemS itemBy
  rw [h]
  exact map_bind _ _
theorem bad_reach {α : Type} {s : WSt} {k pl d : Nat} {f : LsWale.Reach × WSt → Except Fault (α × WSt)} (h : HB s k pl) (hf : ∀ x, Bad (f (x, s)) k pl) : Bad (reachS d s >>= f) k pl := by rw [hb_reach h]; exact hf _
theorem sc_read_row_item : FnScope ["reader"] ["reader"] (defScope s_read_row_item) := ⟨rfl, rfl, rfl, by decide +kernel, rfl, by decide +kernel, by decide +kernel⟩
theorem ok_read_row_item (T : Tx P w K mg a) {k m : Nat} (hk : 40 ≤ k) (F : FnG P w K mg base a k a.f_read_unit a.d_read_unit m unitS) : FnG P w K mg base a (k + 1) a.f_read_row_item a.d_read_row_item m itemS := by
  refine Fun.okx (k := k) T.read_row_item.fn sc_read_row_item spG_len (fun cdv A outer s H vs Q E hr h => ?_)
  obtain ⟨b, R, p, d, e, rfl, hR, hd, hm, hT, kk⟩ := spG_out h
  have C := T.co_Reader.cl
  refine ⟨_, pss_cons (ps_if (pt_inS T.k_LONES (pe_fld (pe_meth0 (pv 0) C T.Reader_peek.mt (oki_peek T) (hr.mono (by omega)) T.Reader_peek.bd .nil passes_def) rfl)) (pss_cons (ps_expr (callD T.read_lone (ok_read_lone T) (hr.mono (by omega)) passes_def (pa_cons (pv 0) pa_nil))) (pss_one ps_retN)) pss_nil)
    (pss_cons (ps_expr (callD T.read_unit F hr passes_def (pa_cons (pv 0) pa_nil)))
    (pss_one (ps_if (pt_val (callD T.begins_sum (ok_begins_sum T) (hr.mono (by omega)) pass0 (pa_cons (pe_meth0 (pv 0) C T.Reader_peek.mt (oki_peek T) (hr.mono (by omega)) T.Reader_peek.bd .nil passes_def) pa_nil))) (pss_one (ps_expr (callD T.read_sum (ok_read_sum T 9) (hr.mono (by omega)) passes_def (pa_cons (pv 0) pa_nil))))
      (pss_one (ps_if (pt_val (pe_meth (pv 0) C T.Reader_skip.mt (oki_skip T) (hr.mono (by omega)) T.Reader_skip.bd .nil passes_def (pa_cons pe_str pa_nil))) (pss_one (ps_expr (callD T.read_goal (ok_read_goal T) (hr.mono (by omega)) passes_def (pa_cons (pv 0) pa_nil)))) pss_nil))))), ?_⟩
  refine L_inT (e := e) T rfl hR hT (fun k pl hb => .inl (hb_item hb d)) fun nb H1 hR1 kp1 => ?_
  rw [lones_in e]
  cases hl : LsWale.loneAt (stAt b p e) with
  | some g =>
    refine iteT ⟨_, rfl, ?_⟩
    exact L_o (S := loneS) hR1 hd (by omega) hl hT (item_some hl) (fun x s k pl hb => bad_ok hb) fun x p2 e2 hS e3 H2 hR2 kp2 => kk _ _ _ e3 H2 hR2 (kp1.trans kp2)
  | none =>
    have e0 := item_none (d := d) hl
    refine iteF ⟨_, rfl, ?_⟩
    refine L_g hR1 hd hm hT e0 (fun x s k pl hb => bad_reach hb fun _ => bad_ok hb) fun u p2 e2 hS e3 H2 hR2 kp2 => ?_
    refine ⟨_, rfl, R.r, _, _, rfl, hR2.ins, rfl, ?_⟩
    have hb2 : ∀ k pl, HB (stAt b p2 e2) k pl → Bad (itemS d (stAt b p e)) k pl := fun k pl hb => by rw [e3]; exact bad_reach hb fun _ => bad_ok hb
    refine L_peek (e := e2) hR2 hT hb2 fun nb2 H3 x hR3 kp3 tk3 => ?_
    refine ⟨b, p2, x, rfl, tk3, nb2, _, rfl, ?_⟩
    rw [sums_env b p2 .none_ e2]
    by_cases cs : (stAt b p2 e2).sums = true
    · rw [cs]
      have nt : ¬ (stAt b p2 e2).isWord "to" = true := fun z => by rw [to_sums z] at cs; cases cs
      dsimp only at e3
      rw [reachS_def, if_neg nt, if_pos cs, bind_assoc'] at e3
      refine iteT ⟨_, rfl, ?_⟩
      exact L_g hR3 hd (by omega) hT e3 (fun x s k pl hb => bad_ok hb) fun x p3 e4 hS' e5 H4 hR4 kp4 => kk _ _ _ e5 H4 hR4 (((kp1.trans kp2).trans kp3).trans kp4)
    · rw [Bool.eq_false_iff.mpr cs]
      refine iteF ⟨_, rfl, R.r, _, _, rfl, hR3.ins, rfl, ?_⟩
      refine L_skip_word (c := "to") (e := e2) hR3 hT hb2 (fun c H4 hR4 kp4 => ?_) (fun c nb H4 hR4 kp4 => ?_)
      · dsimp only at e3
        rw [reach_to c] at e3
        refine ⟨_, rfl, iteT ⟨_, rfl, ?_⟩⟩
        exact L_g hR4 hd (by omega) hT e3 (fun x s k pl hb => bad_ok hb) fun x p3 e4 hS' e5 H5 hR5 kp5 => kk _ _ _ e5 H5 hR5 ((((kp1.trans kp2).trans kp3).trans kp4).trans kp5)
      · dsimp only at e3
        rw [reachS_def, if_neg (by rw [c]; decide), if_neg cs] at e3
        exact ⟨_, rfl, iteF (kk _ _ _ e3 H4 hR4 (((kp1.trans kp2).trans kp3).trans kp4))⟩
theorem sc_read_row_items : FnScope ["reader"] ["reader"] (defScope s_read_row_items) := ⟨rfl, rfl, rfl, by decide +kernel, rfl, by decide +kernel, by decide +kernel⟩
def moreI (d : Nat) (F : LsWale.Items → LsWale.Items) (s : WSt) : Except Fault (LsWale.Items × WSt) := if s.isSign ',' = true then (itemsS d s.next >>= fun l => .ok (F l.1, l.2)) else .ok (F .nil, s)
theorem hb_more {s : WSt} {k pl d : Nat} {F : LsWale.Items → LsWale.Items} (h : HB s k pl) : Bad (moreI d F s) k pl := by
  unfold moreI
  rw [if_neg (by rw [hb_sign h]; decide)]
  exact bad_ok h
theorem more_yes {b : Bytes} {p d : Nat} {e : WEnv} {F : LsWale.Items → LsWale.Items} (h : (stAt b p e).isSign ',' = true) : moreI d F (stAt b p e) = itemS d (stAt b (tkEnd b p) e) >>= fun x => moreI d (F ∘ x.1) x.2 := by
  unfold moreI
  rw [if_pos h, next_at (sign_isTok h), itemsS_def, bind_assoc']
  congr 1
  funext x
  by_cases c : x.2.isSign ',' = true
  · rw [if_pos c, if_pos c, bind_assoc']; rfl
  · rw [if_neg c, if_neg c]; rfl
theorem ok_read_row_items1 (T : Tx P w K mg a) {k m : Nat} (hk : 10 ≤ k) (F : FnG P w K mg base a k a.f_read_row_item a.d_read_row_item m itemS) : FnG P w K mg base a (k + 1) a.f_read_row_items a.d_read_row_items m itemsS := by
  refine Fun.okx (k := k) T.read_row_items.fn sc_read_row_items spG_len (fun cdv A outer s H vs Q E hr h => ?_)
  obtain ⟨b, R, p, d, e, rfl, hR, hd, hm, hT, kk⟩ := spG_out h
  have C := T.co_Reader.cl
  refine ⟨_, pss_cons (ps_expr (callD T.read_row_item F hr passes_def (pa_cons (pv 0) pa_nil)))
    (pss_one (ps_while own_def (pt_val (pe_meth (pv 0) C T.Reader_skip.mt (oki_skip T) (hr.mono (by omega)) T.Reader_skip.bd .nil passes_def (pa_cons pe_str pa_nil))) (pss_one (ps_expr (callD T.read_row_item F hr passes_def (pa_cons (pv 0) pa_nil)))))), ?_⟩
  refine ⟨_, rfl, ?_⟩
  have e0 : itemsS d (stAt b p e) = itemS d (stAt b p e) >>= fun x => moreI d x.1 x.2 := itemsS_def d _
  refine L_g hR hd hm hT e0 (fun x s k pl hb => hb_more hb) fun x p1 e1 hS h1 H1 hR1 kp1 => ?_
  let I : (LsWale.Items → LsWale.Items) × Nat × WEnv → L2.St → Hp → Prop := fun i σ H' => σ = [some (.ref R.r)] ∧ RdrAt a K b R i.2.1 d (lst i.2.2) H' ∧ KeepR R H H' ∧ itemsS d (stAt b p e) = moreI d i.1 (stAt b i.2.1 i.2.2)
  let μ : (LsWale.Items → LsWale.Items) × Nat × WEnv → Nat := fun i => (toks b i.2.1).length
  refine while_inv I μ (x, p1, e1) ⟨rfl, hR1, kp1, h1⟩ ?_
  rintro ⟨x, p1, e1⟩ σ H2 ⟨rfl, hR2, kp2, h2⟩
  dsimp only at hR2 h2
  refine ⟨_, rfl, R.r, _, _, rfl, hR2.ins, rfl, ?_⟩
  refine L_skip_sign (c := ',') (e := e1) hR2 hT (fun k pl hb => by rw [h2]; exact hb_more hb) (fun c H3 hR3 kp3 => ?_) (fun c nb H3 hR3 kp3 => ?_)
  · rw [more_yes c] at h2
    refine ⟨_, rfl, iteT ?_⟩
    refine turn_mk (I := I) (μ := μ) (i := (x, p1, e1)) ?_
    refine ⟨_, rfl, ?_⟩
    refine L_g hR3 hd hm hT h2 (fun x s k pl hb => hb_more hb) fun x' p2 e2 hS2 h3 H4 hR4 kp4 => ?_
    refine ⟨(x ∘ x', p2, e2), ?_, rfl, hR4, (kp2.trans kp3).trans kp4, h3⟩
    have l1 := toks_lt (itemS_lt d _) hS2
    have l2 := end_lt (sign_isTok c)
    show (toks b p2).length < (toks b p1).length
    omega
  · unfold moreI at h2
    rw [if_neg (by rw [c]; decide)] at h2
    exact ⟨_, rfl, iteF (kk _ _ _ h2 H3 hR3 (kp2.trans kp3))⟩
theorem ok_read_row_items (T : Tx P w K mg a) : ∀ m, FnG P w K mg base a (40 + 3 * m) a.f_read_row_items a.d_read_row_items m itemsS
  | 0 => spG_no
  | m + 1 => ok_read_row_items1 T (k := 40 + 3 * m + 1 + 1) (by omega) (ok_read_row_item T (by omega) (ok_read_unit T (ok_read_row_items T m)))
end Wale
end
section
set_option Elab.async false
set_option linter.all false
set_option maxRecDepth 100000
set_option maxHeartbeats 2000000
namespace Wale
open PySem PySem.Spec PyProof.Rows L2
open Wm
open LsWale (ascii Fault eatSign eatWord eatOpen anyName newName oldName markName holdName wanted isName PLAINS)
variable {P : Program} {w : World} {K : PySem.W.Frag} {mg : Str → Option Value} {base : Heap} {a : Ad}
def rowS (d : Nat) (s : WSt) : Except Fault (LsWale.Items × WSt) := itemsS d (if (s.isWord "rs" || s.isWord "ws") = true then s.next else s)
theorem hb_row {s : WSt} {k pl : Nat} (h : HB s k pl) (d : Nat) : rowS d s = .error ⟨k, pl⟩ := by
  unfold rowS
  rw [if_neg (by rw [hb_word h, hb_word h]; decide), hb_items h]
theorem row_eq (d : Nat) (s : WSt) : itemsS d (rowAt s) = rowS d s.next := by
  unfold rowAt sideOf rowS
  by_cases h1 : s.next.isWord "rs" = true
  · rw [if_pos h1, h1]; rfl
  · rw [if_neg h1, Bool.eq_false_iff.mpr h1, Bool.false_or]
    by_cases h2 : s.next.isWord "ws" = true
    · rw [if_pos h2, if_pos h2]; rfl
    · rw [if_neg h2, if_neg h2]; rfl
theorem sc_read_row : FnScope ["reader"] ["reader"] (defScope s_read_row) := ⟨rfl, rfl, rfl, by decide +kernel, rfl, by decide +kernel, by decide +kernel⟩
theorem rsws_eq {b : Bytes} {p : Nat} (e : WEnv) : inV (.str (txTok (tkOf b p))) [.str "rs", .str "ws"] = ((stAt b p e).isWord "rs" || (stAt b p e).isWord "ws") := by
  have h := in_words (b := b) (p := p) (e := e) ["rs", "ws"] (l := ["rs", "ws"]) (by decide +kernel) (by decide +kernel)
  rw [show (["rs", "ws"].any fun c => (stAt b p e).isWord c) = ((stAt b p e).isWord "rs" || ((stAt b p e).isWord "ws" || false)) from rfl, Bool.or_false] at h
  exact h
theorem bad_id {α : Type} {s : WSt} {x : α} {k pl : Nat} (h : HB s k pl) : Bad (.ok (x, s) : Except Fault (α × WSt)) k pl := bad_ok h
theorem bind_id {α : Type} (r : Except Fault α) : r = r >>= fun x => .ok x := by cases r <;> rfl
theorem ok_read_row (T : Tx P w K mg a) : FnG P w K mg base a 68 a.f_read_row a.d_read_row 9 rowS := by
  refine Fun.okx (k := 67) T.read_row.fn sc_read_row spG_len (fun cdv A outer s H vs Q E hr h => ?_)
  obtain ⟨b, R, p, d, e, rfl, hR, hd, hm, hT, kk⟩ := spG_out h
  have C := T.co_Reader.cl
  refine ⟨_, pss_cons (ps_if (pt_cmpR op_in_seq (pe_fld (pe_meth0 (pv 0) C T.Reader_peek.mt (oki_peek T) (hr.mono (by omega)) T.Reader_peek.bd .nil passes_def) rfl) (pe_tup (pa_cons pe_str (pa_cons pe_str pa_nil))) (by rfl)) (pss_one (ps_expr (pe_meth0 (pv 0) C T.Reader_step.mt (oki_step T) (hr.mono (by omega)) T.Reader_step.bd .nil passes_def))) pss_nil)
    (pss_one (ps_expr (callD T.read_row_items (ok_read_row_items T 9) hr passes_def (pa_cons (pv 0) pa_nil)))), ?_⟩
  refine L_in2 (e := e) T rfl hR hT (fun k pl hb => .inl (hb_row hb d)) fun nb H1 hR1 kp1 => ?_
  rw [rsws_eq e]
  have e0 : rowS d (stAt b p e) = _ := rfl
  unfold rowS at e0
  refine ite2 (fun c => ?_) (fun c => ?_)
  · have e1 : rowS d (stAt b p e) = itemsS d (stAt b (tkEnd b p) e) >>= fun x => .ok x := by
      unfold rowS
      rw [if_pos c, next_at (or_word c)]
      exact bind_id _
    refine ⟨_, rfl, R.r, _, _, rfl, hR1.ins, rfl, ?_⟩
    refine L_step hR1 nb fun H2 y hR2 kp2 tk2 => ⟨_, rfl, ?_⟩
    exact L_g hR2 hd hm hT e1 (fun x s k pl hb => bad_ok hb) fun x p3 e3 hS e4 H3 hR3 kp3 => kk _ _ _ e4 H3 hR3 ((kp1.trans kp2).trans kp3)
  · have e1 : rowS d (stAt b p e) = itemsS d (stAt b p e) >>= fun x => .ok x := by
      unfold rowS
      rw [if_neg c]
      exact bind_id _
    refine ⟨_, rfl, ?_⟩
    exact L_g hR1 hd hm hT e1 (fun x s k pl hb => bad_ok hb) fun x p3 e3 hS e4 H3 hR3 kp3 => kk _ _ _ e4 H3 hR3 (kp1.trans kp3)
def workS (d : Nat) (s : WSt) : Except Fault ((Bytes × Option LsWale.Sum) × WSt) := oldName s.env.blocks s >>= fun x => if x.2.sums = true then (sumS .sum d x.2 >>= fun y => .ok ((x.1, some y.1), y.2)) else .ok ((x.1, none), x.2)
theorem sc_read_work : FnScope ["reader"] ["reader"] (defScope s_read_work) := ⟨rfl, rfl, rfl, by decide +kernel, rfl, by decide +kernel, by decide +kernel⟩
theorem ok_read_work (T : Tx P w K mg a) : FnG P w K mg base a 38 a.f_read_work a.d_read_work 9 workS := by
  refine Fun.okx (k := 37) T.read_work.fn sc_read_work spG_len (fun cdv A outer s H vs Q E hr h => ?_)
  obtain ⟨b, R, p, d, e, rfl, hR, hd, hm, hT, kk⟩ := spG_out h
  have C := T.co_Reader.cl
  refine ⟨_, pss_cons (ps_expr ((pe_meth (pv 0) C T.Reader_want_told_name.mt (oki_want_told_name T) (hr.mono (by omega)) T.Reader_want_told_name.bd .nil passes_def (pa_cons (pk_str T.k_BLOCKS) pa_nil))))
    (pss_one (ps_if (pt_val (callD T.begins_sum (ok_begins_sum T) (hr.mono (by omega)) pass0 (pa_cons (pe_meth0 (pv 0) C T.Reader_peek.mt (oki_peek T) (hr.mono (by omega)) T.Reader_peek.bd .nil passes_def) pa_nil))) (pss_one (ps_expr (callD T.read_sum (ok_read_sum T 9) (hr.mono (by omega)) passes_def (pa_cons (pv 0) pa_nil)))) pss_nil)), ?_⟩
  refine ⟨_, rfl, R.r, _, _, rfl, hR.ins, rfl, ?_⟩
  refine L_told (k := .blocks) hR rfl hT rfl rfl fun y hy H1 hR1 kp1 => ?_
  dsimp only at hy
  refine ⟨_, rfl, R.r, _, _, rfl, hR1.ins, rfl, ?_⟩
  have hb1 : ∀ k pl, HB (stAt b (tkEnd b p) e) k pl → Bad (workS d (stAt b p e)) k pl := fun k pl hb => by
    rw [hy, if_neg (by rw [hb_sums hb]; decide)]
    exact bad_ok hb
  refine L_peek (e := e) hR1 hT hb1 fun nb2 H2 x hR2 kp2 tk2 => ?_
  refine ⟨b, _, x, rfl, tk2, nb2, _, rfl, ?_⟩
  rw [sums_env b _ .none_ e]
  refine ite2 (fun c => ?_) (fun c => ?_)
  · rw [if_pos c] at hy
    refine ⟨_, rfl, ?_⟩
    exact L_g hR2 hd hm hT hy (fun x s k pl hb => bad_ok hb) fun x p3 e3 hS e4 H3 hR3 kp3 => kk _ _ _ e4 H3 hR3 ((kp1.trans kp2).trans kp3)
  · rw [if_neg c] at hy
    exact kk _ _ _ hy H2 hR2 (kp1.trans kp2)
def braceS (d : Nat) (s : WSt) : Except Fault (LsWale.Stats × WSt) := eatOpen '{' d s >>= fun t => statsS (d + 1) t >>= fun i => eatSign '}' i.2 >>= fun u => .ok (i.1, u)
theorem hb_brace {s : WSt} {k pl : Nat} (h : HB s k pl) (d : Nat) : braceS d s = .error ⟨k, pl⟩ := by
  unfold braceS
  rw [hb_eatOpen h]; rfl
theorem sc_read_braces : FnScope ["reader"] ["reader"] (defScope s_read_braces) := ⟨rfl, rfl, rfl, by decide +kernel, rfl, by decide +kernel, by decide +kernel⟩
theorem ok_read_braces (T : Tx P w K mg a) {k m : Nat} (hk : 10 ≤ k) (F : FnG P w K mg base a k a.f_read_stats a.d_read_stats m statsS) : FnG P w K mg base a (k + 1) a.f_read_braces a.d_read_braces (m + 1) braceS := by
  refine Fun.okx (k := k) T.read_braces.fn sc_read_braces spG_len (fun cdv A outer s H vs Q E hr h => ?_)
  obtain ⟨b, R, p, d, e, rfl, hR, hd, hm, hT, kk⟩ := spG_out h
  have C := T.co_Reader.cl
  refine ⟨_, pss_cons (ps_expr (pe_meth (pv 0) C T.Reader_enter.mt (oki_enter T) (hr.mono (by omega)) T.Reader_enter.bd .nil passes_def (pa_cons pe_str pa_nil))) (pss_cons (ps_expr (callD T.read_stats F hr passes_def (pa_cons (pv 0) pa_nil))) (pss_one (ps_expr (pe_meth (pv 0) C T.Reader_leave.mt (oki_leave T) (hr.mono (by omega)) T.Reader_leave.bd .nil passes_def (pa_cons pe_str pa_nil))))), ?_⟩
  refine ⟨_, rfl, R.r, _, _, rfl, hR.ins, rfl, ?_⟩
  refine L_enter hR hd hT rfl fun e2 l8 hs H3 hR3 kp3 => ⟨_, rfl, ?_⟩
  refine L_g (m := m) hR3 (by omega) (by omega) hT e2 (fun x s k pl hb => bad_close hb) fun y p' e' hS e3 H4 hR4 kp4 => ?_
  refine ⟨_, rfl, R.r, _, _, rfl, hR4.ins, rfl, ?_⟩
  exact L_leave hR4 hT e3 fun e4 H5 hR5 kp5 => kk _ _ _ e4 H5 hR5 ((kp3.trans kp4).trans kp5)
theorem stat_tok {b : Bytes} {p d : Nat} {e : WEnv} {g : Except Fault ((LsWale.Stats → LsWale.Stats) × WSt)} (h : statS d (stAt b p e) = some g) : isTok (tkOf b p) = true := by
  by_cases c : isTok (tkOf b p) = true
  · exact c
  · unfold statS statBy at h
    simp only [noTok_word c] at h
    cases h
theorem sc_read_stat : FnScope ["reader", "word"] ["reader"] (defScope s_read_stat) := ⟨rfl, rfl, rfl, by decide +kernel, rfl, by decide +kernel, by decide +kernel⟩
theorem ok_read_stat (T : Tx P w K mg a) {k m : Nat} (hk : 68 ≤ k) (F : FnG P w K mg base a k a.f_read_braces a.d_read_braces m braceS) : FnO P w K mg base a (k + 1) a.f_read_stat a.d_read_stat m statS := by
  refine Fun.okx (k := k) T.read_stat.fn sc_read_stat spO_len (fun cdv A outer s H vs Q E hr h => ?_)
  obtain ⟨b, R, p, d, e, g, rfl, hR, hd, hm, hg, hT, kk⟩ := spO_out h
  have C := T.co_Reader.cl
  have hr37 : Room (10 + 3 * 9) _ := hr.mono (by omega)
  refine ⟨_, pss_cons (ps_set (i := 1) sc_read_stat.nd rfl (Or.inl rfl) (pe_fld (pe_meth0 (pv 0) C T.Reader_step.mt (oki_step T) (hr.mono (by omega)) T.Reader_step.bd .nil passes_def) rfl))
    (pss_cons (ps_if (PW.pt (pw_or (pt_cmpR op_eq (pv 1) pe_str (nomark _)) (pw_or1 (pt_cmpR op_eq (pv 1) pe_str (nomark _)))))
      (pss_cons (ps_expr (callD T.read_sum (ok_read_sum T 9) hr37 passes_def (pa_cons (pv 0) pa_nil))) (pss_cons (ps_expr (callD T.read_braces F hr passes_def (pa_cons (pv 0) pa_nil))) (pss_one ps_retN))) pss_nil)
    (pss_cons (ps_if (pt_cmpR op_eq (pv 1) pe_str (nomark _))
      (pss_cons (ps_expr (callD T.read_sum (ok_read_sum T 9) hr37 passes_def (pa_cons (pv 0) pa_nil))) (pss_one (ps_expr (pe_meth (pv 0) C T.Reader_skip.mt (oki_skip T) (hr.mono (by omega)) T.Reader_skip.bd .nil passes_def (pa_cons pe_str pa_nil)))))
      (pss_one (ps_if (pt_cmpR op_eq (pv 1) pe_str (nomark _)) (pss_one (ps_expr (callD T.read_row (ok_read_row T) (hr.mono (by omega)) passes_def (pa_cons (pv 0) pa_nil))))
        (pss_one (ps_if (pt_cmpR op_eq (pv 1) pe_str (nomark _)) (pss_one (ps_expr (callD T.read_work (ok_read_work T) (hr.mono (by omega)) passes_def (pa_cons (pv 0) pa_nil)))) pss_nil)))))
    (pss_one (ps_expr (pe_meth (pv 0) C T.Reader_want.mt (oki_want T) (hr.mono (by omega)) T.Reader_want.bd .nil passes_def (pa_cons pe_str pa_nil)))))), ?_⟩
  have ht := stat_tok hg
  refine ⟨_, rfl, R.r, _, _, rfl, hR.ins, rfl, ?_⟩
  refine L_step hR (tok_notBad ht) fun H1 x hR1 kp1 tk1 => ?_
  obtain ⟨dt, ft, et, lt1, lt2, lt3, lt4, lt5⟩ := tk1
  refine ⟨x, _, dt, ft, _, rfl, et, T.co_Token.cl, T.na_Token_text, lt2, _, rfl, rfl, _, rfl, ?_⟩
  unfold statS statBy at hg
  rw [row_eq, next_at ht] at hg
  -- repeat and until
  have again : ((stAt b p e).isWord "repeat" || (stAt b p e).isWord "until") = true → ∃ f : LsWale.Sum → LsWale.Stats → LsWale.Stats → LsWale.Stats, g = sumS .sum d (stAt b (tkEnd b p) e) >>= fun x => braceS d x.2 >>= fun i => .ok (f x.1 i.1, i.2) := fun c => by
    have n1 : ¬ (stAt b p e).isWord "on" = true := fun z => by
      rw [word_excl z (y := "repeat") (by decide +kernel), word_excl z (y := "until") (by decide +kernel)] at c; cases c
    have n2 : ¬ (stAt b p e).isWord "row" = true := fun z => by
      rw [word_excl z (y := "repeat") (by decide +kernel), word_excl z (y := "until") (by decide +kernel)] at c; cases c
    rw [if_neg n1, if_neg n2, if_pos c] at hg
    refine ⟨fun x i r => if (stAt b p e).isWord "repeat" = true then .again (stAt b p e).place x i r else .until_ (stAt b p e).place x i r, ?_⟩
    rw [← Option.some.inj hg]
    unfold braceS
    simp only [bind_assoc']
    rfl
  rw [dec_s, dec_w (c := "repeat") e]
  have run : ∀ (c : ((stAt b p e).isWord "repeat" || (stAt b p e).isWord "until") = true) (Q' : VK), (∀ H2 p2 e2 (f : LsWale.Stats → LsWale.Stats → LsWale.Stats), RdrAt a K b R p2 d (lst e2) H2 → KeepR R H H2 → (g = braceS d (stAt b p2 e2) >>= fun i => .ok (f i.1, i.2)) → Q' .non H2) → spG K a 9 (sumS .sum) [.ref R.r] H1 Q' E := fun c Q' hQ => by
    obtain ⟨f, e1⟩ := again c
    exact L_g hR1 hd (by omega) hT e1 (fun x s k pl hb => by rw [hb_brace hb]; exact .inl rfl) fun x p2 e2 hS e3 H2 hR2 kp2 => hQ H2 p2 e2 (f x) hR2 (kp1.trans kp2) e3
  have fin : ∀ H2 p2 e2 (f : LsWale.Stats → LsWale.Stats → LsWale.Stats), RdrAt a K b R p2 d (lst e2) H2 → KeepR R H H2 → (g = braceS d (stAt b p2 e2) >>= fun i => .ok (f i.1, i.2)) → ∀ Q' : VK, (∀ H', Q .non H' → Q' .non H') → spG K a m braceS [.ref R.r] H2 Q' E := fun H2 p2 e2 f hR2 kp2 e3 Q' hQ =>
    L_g hR2 hd hm hT e3 (fun x s k pl hb => bad_ok hb) fun x p3 e4 hS e5 H3 hR3 kp3 => hQ H3 (kk _ _ _ e5 H3 hR3 (kp2.trans kp3))
  refine ite2 (fun c => ?_) (fun c => ?_)
  · exact iteT ⟨_, rfl, run (by rw [c]; rfl) _ fun H2 p2 e2 f hR2 kp2 e3 => ⟨_, rfl, fin H2 p2 e2 f hR2 kp2 e3 _ fun H' q => q⟩⟩
  refine ⟨_, rfl, rfl, _, rfl, ?_⟩
  rw [dec_s, dec_w (c := "until") e]
  refine ite2 (fun c1 => ?_) (fun c1 => ?_)
  · exact ⟨_, rfl, run (by rw [c1, Bool.or_true]) _ fun H2 p2 e2 f hR2 kp2 e3 => ⟨_, rfl, fin H2 p2 e2 f hR2 kp2 e3 _ fun H' q => q⟩⟩
  have nru : ¬ ((stAt b p e).isWord "repeat" || (stAt b p e).isWord "until") = true := by rw [Bool.eq_false_iff.mpr c, Bool.eq_false_iff.mpr c1]; decide
  refine ⟨_, rfl, rfl, _, rfl, ?_⟩
  rw [dec_s, dec_w (c := "on") e]
  refine ite2 (fun c2 => ?_) (fun c2 => ?_)
  · rw [if_pos c2] at hg
    have e1 := (Option.some.inj hg).symm
    refine ⟨_, rfl, ?_⟩
    refine L_g hR1 hd (by omega) hT e1 (fun x s k pl hb => by dsimp only; rw [if_neg (by rw [hb_word hb]; decide)]; exact bad_sign hb) fun y p2 e2 hS e3 H2 hR2 kp2 => ?_
    dsimp only at e3
    refine ⟨_, rfl, R.r, _, _, rfl, hR2.ins, rfl, ?_⟩
    refine L_skip_word (c := "round") (e := e2) hR2 hT (fun k pl hb => by rw [e3, if_neg (by rw [hb_word hb]; decide)]; exact bad_sign hb) (fun c3 H3 hR3 kp3 => ?_) (fun c3 nb H3 hR3 kp3 => ?_)
    · rw [if_pos c3, next_at (word_isTok c3)] at e3
      refine ⟨_, rfl, R.r, _, _, rfl, hR3.ins, rfl, ?_⟩
      exact L_want_sign hR3 hT e3 (k := fun e4 H4 y hR4 kp4 tk4 => kk _ _ _ e4 H4 hR4 (((kp1.trans kp2).trans kp3).trans kp4))
    · rw [if_neg (by rw [c3]; decide)] at e3
      refine ⟨_, rfl, R.r, _, _, rfl, hR3.ins, rfl, ?_⟩
      exact L_want_sign hR3 hT e3 (k := fun e4 H4 y hR4 kp4 tk4 => kk _ _ _ e4 H4 hR4 (((kp1.trans kp2).trans kp3).trans kp4))
  rw [if_neg c2] at hg
  refine ⟨_, rfl, rfl, _, rfl, ?_⟩
  rw [dec_s, dec_w (c := "row") e]
  refine ite2 (fun c3 => ?_) (fun c3 => ?_)
  · rw [if_pos c3] at hg
    have e1 := (Option.some.inj hg).symm
    refine ⟨_, rfl, ?_⟩
    refine L_g hR1 hd (by omega) hT e1 (fun x s k pl hb => bad_sign hb) fun y p2 e2 hS e3 H2 hR2 kp2 => ?_
    refine ⟨_, rfl, R.r, _, _, rfl, hR2.ins, rfl, ?_⟩
    exact L_want_sign hR2 hT e3 (k := fun e4 H4 y hR4 kp4 tk4 => kk _ _ _ e4 H4 hR4 ((kp1.trans kp2).trans kp4))
  rw [if_neg c3, if_neg nru] at hg
  refine ⟨_, rfl, rfl, _, rfl, ?_⟩
  rw [dec_s, dec_w (c := "work") e]
  refine ite2 (fun c4 => ?_) (fun c4 => ?_)
  · rw [if_pos c4] at hg
    have e1 : g = workS d (stAt b (tkEnd b p) e) >>= fun x => eatSign ';' x.2 >>= fun t => .ok (.work (stAt b p e).place x.1.1 x.1.2, t) := by
      rw [← Option.some.inj hg]
      unfold workS
      rw [bind_assoc']
      refine bind_congr' rfl fun x s hx => ?_
      dsimp only
      by_cases c5 : s.sums = true
      · rw [if_pos c5, if_pos c5, bind_assoc']; rfl
      · rw [if_neg c5, if_neg c5]; rfl
    refine ⟨_, rfl, ?_⟩
    refine L_g hR1 hd (by omega) hT e1 (fun x s k pl hb => bad_sign hb) fun y p2 e2 hS e3 H2 hR2 kp2 => ?_
    refine ⟨_, rfl, R.r, _, _, rfl, hR2.ins, rfl, ?_⟩
    exact L_want_sign hR2 hT e3 (k := fun e4 H4 y hR4 kp4 tk4 => kk _ _ _ e4 H4 hR4 ((kp1.trans kp2).trans kp4))
  rw [if_neg c4] at hg
  by_cases c5 : (stAt b p e).isWord "off" = true
  · rw [if_pos c5] at hg
    have e1 := (Option.some.inj hg).symm
    refine ⟨_, rfl, R.r, _, _, rfl, hR1.ins, rfl, ?_⟩
    exact L_want_sign hR1 hT e1 (k := fun e4 H4 y hR4 kp4 tk4 => kk _ _ _ e4 H4 hR4 (kp1.trans kp4))
  · rw [if_neg c5] at hg
    cases hg
end Wale
end
section
set_option Elab.async false
set_option linter.all false
set_option maxRecDepth 100000
set_option maxHeartbeats 2000000
namespace Wale
open PySem PySem.Spec PyProof.Rows L2
open Wm
open LsWale (ascii Fault eatSign eatWord eatOpen anyName newName oldName markName holdName wanted isName PLAINS)
variable {P : Program} {w : World} {K : PySem.W.Frag} {mg : Str → Option Value} {base : Heap} {a : Ad}
theorem stats_in {b : Bytes} {p : Nat} (d : Nat) (e : WEnv) : inV (.str (txTok (tkOf b p))) ((["on", "row", "repeat", "until", "work", "off"] : List Str).map V.str) = (statS d (stAt b p e)).isSome := by
  rw [in_words (e := e) ["on", "row", "repeat", "until", "work", "off"] (by decide +kernel) (by decide +kernel)]
  unfold statS statBy
  simp only [List.any_cons, List.any_nil, Bool.or_false]
  by_cases h1 : (stAt b p e).isWord "on" = true
  · simp [h1]
  by_cases h2 : (stAt b p e).isWord "row" = true
  · simp [h1, h2]
  by_cases h3 : (stAt b p e).isWord "repeat" = true
  · simp [h1, h2, h3]
  by_cases h4 : (stAt b p e).isWord "until" = true
  · simp [h1, h2, h3, h4]
  by_cases h5 : (stAt b p e).isWord "work" = true
  · simp [h1, h2, h3, h4, h5]
  by_cases h6 : (stAt b p e).isWord "off" = true
  · simp [h1, h2, h3, h4, h5, h6]
  · simp [h1, h2, h3, h4, h5, h6]
theorem sc_read_stats : FnScope ["reader"] ["reader"] (defScope s_read_stats) := ⟨rfl, rfl, rfl, by decide +kernel, rfl, by decide +kernel, by decide +kernel⟩
def moreT (d : Nat) (F : LsWale.Stats → LsWale.Stats) (s : WSt) : Except Fault (LsWale.Stats × WSt) := statsS d s >>= fun r => .ok (F r.1, r.2)
theorem hb_moreT {s : WSt} {k pl d : Nat} {F : LsWale.Stats → LsWale.Stats} (h : HB s k pl) : Bad (moreT d F s) k pl := by
  unfold moreT
  rw [hb_stats h]
  exact bad_ok h
theorem moreT_some {d : Nat} {F : LsWale.Stats → LsWale.Stats} {s : WSt} {g : Except Fault ((LsWale.Stats → LsWale.Stats) × WSt)} (h : statS d s = some g) : moreT d F s = g >>= fun x => moreT d (F ∘ x.1) x.2 := by
  unfold moreT
  rw [statsS_def, h]
  dsimp only
  simp only [bind_assoc']
  rfl
theorem moreT_none {d : Nat} {F : LsWale.Stats → LsWale.Stats} {s : WSt} (h : statS d s = none) : moreT d F s = .ok (F .nil, s) := by
  unfold moreT
  rw [statsS_def, h]
  rfl
theorem ok_read_stats1 (T : Tx P w K mg a) {k m : Nat} (hk : 10 ≤ k) (F : FnO P w K mg base a k a.f_read_stat a.d_read_stat m statS) : FnG P w K mg base a (k + 1) a.f_read_stats a.d_read_stats m statsS := by
  refine Fun.okx (k := k) T.read_stats.fn sc_read_stats spG_len (fun cdv A outer s H vs Q E hr h => ?_)
  obtain ⟨b, R, p, d, e, rfl, hR, hd, hm, hT, kk⟩ := spG_out h
  have C := T.co_Reader.cl
  refine ⟨_, pss_one (ps_while own_def (pt_inS T.k_STATS (pe_fld (pe_meth0 (pv 0) C T.Reader_peek.mt (oki_peek T) (hr.mono (by omega)) T.Reader_peek.bd .nil passes_def) rfl)) (pss_one (ps_expr (callD T.read_stat F hr passes_def (pa_cons (pv 0) pa_nil))))), ?_⟩
  let I : (LsWale.Stats → LsWale.Stats) × Nat × WEnv → L2.St → Hp → Prop := fun i σ H' => σ = [some (.ref R.r)] ∧ RdrAt a K b R i.2.1 d (lst i.2.2) H' ∧ KeepR R H H' ∧ statsS d (stAt b p e) = moreT d i.1 (stAt b i.2.1 i.2.2)
  let μ : (LsWale.Stats → LsWale.Stats) × Nat × WEnv → Nat := fun i => (toks b i.2.1).length
  refine while_inv I μ (id, p, e) ⟨rfl, hR, KeepR.refl _ _, (by unfold moreT; exact bind_id _)⟩ ?_
  rintro ⟨x, p1, e1⟩ σ H2 ⟨rfl, hR2, kp2, h2⟩
  dsimp only at hR2 h2
  refine L_inT (e := e1) T rfl hR2 hT (fun k pl hb => by rw [h2]; exact hb_moreT hb) fun nb H3 hR3 kp3 => ?_
  rw [stats_in d e1]
  cases hs : statS d (stAt b p1 e1) with
  | some g =>
    rw [moreT_some hs] at h2
    refine iteT ?_
    refine turn_mk (I := I) (μ := μ) (i := (x, p1, e1)) ?_
    refine ⟨_, rfl, ?_⟩
    refine L_o hR3 hd hm hs hT h2 (fun x s k pl hb => hb_moreT hb) fun x' p2 e2 hS2 h3 H4 hR4 kp4 => ?_
    refine ⟨(x ∘ x', p2, e2), ?_, rfl, hR4, (kp2.trans kp3).trans kp4, h3⟩
    exact toks_lt (statS_lt hs) hS2
  | none =>
    rw [moreT_none hs] at h2
    exact iteF (kk _ _ _ h2 H3 hR3 (kp2.trans kp3))
theorem ok_read_stats (T : Tx P w K mg a) : ∀ m, FnG P w K mg base a (70 + 3 * m) a.f_read_stats a.d_read_stats m statsS
  | 0 => spG_no
  | m + 1 => ok_read_stats1 T (k := 70 + 3 * m + 1 + 1) (by omega) (ok_read_stat T (by omega) (ok_read_braces T (by omega) (ok_read_stats T m)))
def setL (L : NL) (k : Kd) (l : List Bytes) : NL := fun j => if j = k then l else L j
theorem add_set {L : NL} {k : Kd} {l : List Bytes} {x : Bytes} : addL (setL L k l) k x = setL L k (l ++ [x]) := by
  funext j
  unfold addL setL
  by_cases h : j = k
  · rw [if_pos h, if_pos h, if_pos h]
  · rw [if_neg h, if_neg h, if_neg h]
theorem set_at {L : NL} {k : Kd} {l : List Bytes} : setL L k l k = l := if_pos rfl
theorem set_self {L : NL} {k : Kd} : setL L k (L k) = L := by
  funext j
  unfold setL
  by_cases h : j = k
  · rw [if_pos h, h]
  · rw [if_neg h]
theorem told_iff (e : WEnv) (x : Bytes) : e.told x = true ↔ ∃ j, isT j = true ∧ x ∈ lst e j := by
  unfold LsWale.Env.told
  simp only [Bool.or_eq_true, List.contains_iff_mem]
  constructor
  · rintro (h | h | h | h | h)
    · exact ⟨.sizes, rfl, h⟩
    · exact ⟨.yarns, rfl, h⟩
    · exact ⟨.numbers, rfl, h⟩
    · exact ⟨.words, rfl, h⟩
    · exact ⟨.blocks, rfl, h⟩
  · rintro ⟨j, hj, h⟩
    cases j with
    | sizes => exact .inl h
    | yarns => exact .inr (.inl h)
    | numbers => exact .inr (.inr (.inl h))
    | words => exact .inr (.inr (.inr (.inl h)))
    | blocks => exact .inr (.inr (.inr (.inr h)))
    | markers => cases hj
    | holders => cases hj
theorem not_untold {L : NL} {x : Bytes} : ¬ untold L x ↔ ∃ j, isT j = true ∧ x ∈ L j := by
  unfold untold
  constructor
  · intro h
    apply Classical.byContradiction
    intro h2
    exact h fun j hj hx => h2 ⟨j, hj, hx⟩
  · rintro ⟨j, hj, hx⟩ h
    exact h j hj hx
theorem hu_nil (e : WEnv) (x : Bytes) : (e.told x = true ∨ ([] : List Bytes).contains x = true) ↔ ¬ untold (lst e) x := by
  rw [not_untold, told_iff]
  simp
theorem hu_set {e : WEnv} {k : Kd} {l : List Bytes} (hk : isT k = true) (h0 : lst e k = []) (x : Bytes) : (e.told x = true ∨ l.contains x = true) ↔ ¬ untold (setL (lst e) k l) x := by
  rw [not_untold, told_iff, List.contains_iff_mem]
  constructor
  · rintro (⟨j, hj, hx⟩ | h)
    · refine ⟨j, hj, ?_⟩
      unfold setL
      rw [if_neg (fun z => by rw [z, h0] at hx; cases hx)]
      exact hx
    · exact ⟨k, hk, by rw [set_at]; exact h⟩
  · rintro ⟨j, hj, hx⟩
    unfold setL at hx
    by_cases h : j = k
    · rw [if_pos h] at hx; exact .inr hx
    · rw [if_neg h] at hx; exact .inl ⟨j, hj, hx⟩
def moreN (m : Nat) (l : List Bytes) (s : WSt) : Except Fault (List Bytes × WSt) := (if s.isSign ',' = true then namesS m l s.next else .ok (l, s)) >>= fun x => eatSign ';' x.2 >>= fun t => .ok (x.1, t)
def newN (m : Nat) (s : WSt) : Except Fault (List Bytes × WSt) := namesS m [] s >>= fun x => eatSign ';' x.2 >>= fun t => .ok (x.1, t)
theorem hb_moreN {s : WSt} {k pl m : Nat} {l : List Bytes} (h : HB s k pl) : Bad (moreN m l s) k pl := by
  unfold moreN
  rw [if_neg (by rw [hb_sign h]; decide)]
  exact bad_sign h
theorem names_step (m : Nat) (l : List Bytes) (s : WSt) : (namesS m l s >>= fun x => eatSign ';' x.2 >>= fun t => (.ok (x.1, t) : Except Fault (List Bytes × WSt))) = newName l.length m s l >>= fun x => moreN m (l ++ [x.1]) x.2 := by
  rw [namesS_def, bind_assoc']
  rfl
theorem moreN_yes {b : Bytes} {p m : Nat} {e : WEnv} {l : List Bytes} (h : (stAt b p e).isSign ',' = true) : moreN m l (stAt b p e) = newName l.length m (stAt b (tkEnd b p) e) l >>= fun x => moreN m (l ++ [x.1]) x.2 := by
  rw [← names_step]
  unfold moreN
  rw [if_pos h, next_at (sign_isTok h)]
theorem moreN_no {s : WSt} {m : Nat} {l : List Bytes} (h : s.isSign ',' = false) : moreN m l s = eatSign ';' s >>= fun t => .ok (l, t) := by
  unfold moreN
  rw [if_neg (by rw [h]; decide)]
  rfl
@[irreducible] def spNames (K : PySem.W.Frag) (a : Ad) : Sp := fun vs H Q E => ∃ (b : Bytes) (R : RA) (p d : Nat) (e : WEnv) (k : Kd), vs = [.ref R.r, .str (kdS k)] ∧ RdrAt a K b R p d (lst e) H ∧ isT k = true ∧ lst e k = [] ∧ Tl K a E (newN (bnd k) (stAt b p e)) ∧
  ∀ l p', l ≠ [] → newN (bnd k) (stAt b p e) = .ok (l, stAt b p' e) → ∀ H' : Hp, RdrAt a K b R p' d (setL (lst e) k l) H' → KeepR R H H' → Q .non H'
theorem sc_read_new_names : FnScope ["reader", "kind"] ["reader", "kind"] (defScope s_read_new_names) := ⟨rfl, rfl, rfl, by decide +kernel, rfl, by decide +kernel, by decide +kernel⟩
theorem ok_read_new_names (T : Tx P w K mg a) : FnOk P w K mg base (CXF P w) 11 a.f_read_new_names a.d_read_new_names ["reader", "kind"] (spNames K a) := by
  refine Fun.okx (k := 10) T.read_new_names.fn sc_read_new_names (fun vs H Q E h => ?_) (fun cdv A outer s H vs Q E hr h => ?_)
  · unfold spNames at h; obtain ⟨_, _, _, _, _, _, rfl, _⟩ := h; rfl
  unfold spNames at h
  obtain ⟨b, R, p, d, e, k, rfl, hR, hk, h0, hT, kk⟩ := h
  have C := T.co_Reader.cl
  refine ⟨_, pss_cons (ps_expr (pe_meth (pe_fld (pv 0) rfl) T.co_Names.cl T.Names_tell.mt (ok_tell T) (hr.mono (by omega)) T.Names_tell.bd .nil pass0 (pa_cons ((pe_meth (pv 0) C T.Reader_want_new_name.mt (oki_want_new_name T) (hr.mono (by omega)) T.Reader_want_new_name.bd .nil passes_def (pa_cons (pv 1) pa_nil))) (pa_cons (pv 1) pa_nil))))
    (pss_cons (ps_while own_def (pt_val (pe_meth (pv 0) C T.Reader_skip.mt (oki_skip T) (hr.mono (by omega)) T.Reader_skip.bd .nil passes_def (pa_cons pe_str pa_nil))) (pss_one (ps_expr (pe_meth (pe_fld (pv 0) rfl) T.co_Names.cl T.Names_tell.mt (ok_tell T) (hr.mono (by omega)) T.Names_tell.bd .nil pass0 (pa_cons ((pe_meth (pv 0) C T.Reader_want_new_name.mt (oki_want_new_name T) (hr.mono (by omega)) T.Reader_want_new_name.bd .nil passes_def (pa_cons (pv 1) pa_nil))) (pa_cons (pv 1) pa_nil))))))
    (pss_one (ps_expr (pe_meth (pv 0) C T.Reader_want.mt (oki_want T) (hr.mono (by omega)) T.Reader_want.bd .nil passes_def (pa_cons pe_str pa_nil))))), ?_⟩
  have e0 : newN (bnd k) (stAt b p e) = newName ([] : List Bytes).length (bnd k) (stAt b p e) [] >>= fun x => moreN (bnd k) ([] ++ [x.1]) x.2 := names_step _ _ _
  have hR0 : RdrAt a K b R p d (setL (lst e) k []) H := by rw [← h0, set_self]; exact hR
  obtain ⟨dn, en⟩ := hR0.nm.obj
  refine ⟨_, rfl, R.r, _, _, _, _, rfl, hR0.ins, C, T.na_Reader_names, rfl, R.N.n, dn, _, rfl, en, rfl, ?_⟩
  refine ⟨_, rfl, R.r, _, _, rfl, hR0.ins, rfl, _, rfl, ?_⟩
  refine L_new (k := k) hR0 hT e0 (by rw [set_at]) rfl (hu_set hk h0) fun x hx un hl e1 H1 y hR1 kp1 tk1 => ?_
  unfold TokIs at tk1
  rw [name_tx hx] at tk1
  refine ⟨_, rfl, R.N, _, k, y, x, _, _, _, _, rfl, hR1.nm, tk1, hk, un, hl, fun H2 nm2 kn2 => ?_⟩
  rw [add_set] at nm2
  have hR2 := hR1.names kn2 nm2
  let I : List Bytes × Nat → L2.St → Hp → Prop := fun i σ H' => σ = [some (.ref R.r), some (.str (kdS k))] ∧ i.1 ≠ [] ∧ RdrAt a K b R i.2 d (setL (lst e) k i.1) H' ∧ KeepR R H H' ∧ newN (bnd k) (stAt b p e) = moreN (bnd k) i.1 (stAt b i.2 e)
  let μ : List Bytes × Nat → Nat := fun i => (toks b i.2).length
  refine while_inv I μ ([] ++ [x], tkEnd b p) ⟨rfl, (by simp), hR2, kp1.trans kn2.keepR, e1⟩ ?_
  rintro ⟨l, p1⟩ σ H3 ⟨rfl, hne, hR3, kp3, h3⟩
  dsimp only at hR3 h3 hne
  refine ⟨_, rfl, R.r, _, _, rfl, hR3.ins, rfl, ?_⟩
  refine L_skip_sign (c := ',') (e := e) hR3 hT (fun k pl hb => by rw [h3]; exact hb_moreN hb) (fun c H4 hR4 kp4 => ?_) (fun c nb H4 hR4 kp4 => ?_)
  · rw [moreN_yes c] at h3
    refine ⟨_, rfl, iteT ?_⟩
    refine turn_mk (I := I) (μ := μ) (i := (l, p1)) ?_
    obtain ⟨dn4, en4⟩ := hR4.nm.obj
    refine ⟨_, rfl, R.r, _, _, _, _, rfl, hR4.ins, C, T.na_Reader_names, rfl, R.N.n, dn4, _, rfl, en4, rfl, ?_⟩
    refine ⟨_, rfl, R.r, _, _, rfl, hR4.ins, rfl, _, rfl, ?_⟩
    refine L_new (k := k) hR4 hT h3 (by rw [set_at]) rfl (hu_set hk h0) fun x' hx' un' hl' e4 H5 y' hR5 kp5 tk5 => ?_
    unfold TokIs at tk5
    rw [name_tx hx'] at tk5
    refine ⟨_, rfl, R.N, _, k, y', x', _, _, _, _, rfl, hR5.nm, tk5, hk, un', hl', fun H6 nm6 kn6 => ?_⟩
    rw [add_set] at nm6
    refine ⟨(l ++ [x'], tkEnd b (tkEnd b p1)), ?_, rfl, (by simp), hR5.names kn6 nm6, ((kp3.trans kp4).trans kp5).trans kn6.keepR, e4⟩
    have l1 := end_lt (sign_isTok c)
    have l2 := end_lt (b := b) (p := tkEnd b p1) (by rw [(name_word hx').1]; rfl)
    show (toks b (tkEnd b (tkEnd b p1))).length < (toks b p1).length
    omega
  · rw [moreN_no c] at h3
    refine ⟨_, rfl, iteF ⟨_, rfl, R.r, _, _, rfl, hR4.ins, rfl, ?_⟩⟩
    exact L_want_sign hR4 hT h3 (k := fun e5 H5 y hR5 kp5 tk5 => kk l _ hne e5 H5 hR5 ((kp3.trans kp4).trans kp5))
end Wale
end
section
set_option Elab.async false
set_option linter.all false
set_option maxRecDepth 100000
set_option maxHeartbeats 2000000
namespace Wale
open PySem PySem.Spec PyProof.Rows L2
open Wm
open LsWale (ascii Fault eatSign eatWord eatOpen anyName newName oldName markName holdName wanted isName PLAINS)
variable {P : Program} {w : World} {K : PySem.W.Frag} {mg : Str → Option Value} {base : Heap} {a : Ad}
@[irreducible] def iAmount (a : Ad) : Sp := spAmount a
@[irreducible] def iTell (a : Ad) : Sp := spTell a
theorem oki_amount (T : Tx P w K mg a) : FnOk P w K mg base CX0 1 a.f_Names_amount a.d_Names_amount ["self", "kind"] (iAmount a) := by unfold iAmount; exact ok_amount T
theorem oki_tell (T : Tx P w K mg a) : FnOk P w K mg base CX0 2 a.f_Names_tell a.d_Names_tell ["self", "token", "kind"] (iTell a) := by unfold iTell; exact ok_tell T
theorem L_amt {b : Bytes} {R : RA} {p d : Nat} {L : NL} {H : Hp} {Q : VK} (hR : RdrAt a K b R p d L H) (k : Kd) (q : Q (.int (L k).length) H) : iAmount a [.ref R.N.n, .str (kdS k)] H Q E0 := by
  obtain ⟨dx, e0⟩ := hR.nm.obj
  obtain ⟨kvs, e1, h1, -⟩ := hR.nm.adk
  unfold iAmount
  exact ⟨R.N, dx, kvs, kdS k, _, rfl, e0, e1, h1 k, q⟩
theorem L_tell {b : Bytes} {R : RA} {p d : Nat} {L : NL} {H : Hp} {Q : VK} {y : Addr} {x : Bytes} {kd : Str} {n pl af : Int} (hR : RdrAt a K b R p d L H) (k : Kd) (tk : TokAt a.c_Token H y kd (strOf x) n pl af) (hk : isT k = true) (un : untold L x) (hl : (L k).length ≠ bnd k)
    (kk : ∀ H' : Hp, RdrAt a K b R p d (addL L k x) H' → KeepR R H H' → Q .non H') : iTell a [.ref R.N.n, .ref y, .str (kdS k)] H Q E0 := by
  unfold iTell
  exact ⟨R.N, L, k, y, x, kd, n, pl, af, rfl, hR.nm, tk, hk, un, hl, fun H' nm kn => kk H' (hR.names kn nm) kn.keepR⟩
theorem L_names {α : Type} {b : Bytes} {R : RA} {p d : Nat} {e : WEnv} {H : Hp} {Q : VK} {E : XK} {r : Except Fault (α × WSt)} {f : List Bytes × WSt → Except Fault (α × WSt)} (hR : RdrAt a K b R p d (lst e) H) (k : Kd) (hk : isT k = true) (h0 : lst e k = []) (hT : Tl K a E r) (hr : r = newN (bnd k) (stAt b p e) >>= f) (hB : ∀ x s k pl, HB s k pl → Bad (f (x, s)) k pl)
    (kk : ∀ l p', l ≠ [] → r = f (l, stAt b p' e) → ∀ H' : Hp, RdrAt a K b R p' d (setL (lst e) k l) H' → KeepR R H H' → Q .non H') : spNames K a [.ref R.r, .str (kdS k)] H Q E := by
  unfold spNames
  exact ⟨b, R, p, d, e, k, rfl, hR, hk, h0, fun k pl h => hT k pl (by rw [hr]; exact h.bind fun x s hb => hB x s k pl hb), fun l p' hl hS => kk l p' hl (by rw [hr, hS]; rfl)⟩
def Ev (e : WEnv) : Prop := e.sizes ≠ some [] ∧ e.yarns ≠ some []
theorem hb_env {s : WSt} {k pl : Nat} {e : WEnv} (h : HB s k pl) : HB ({ s with env := e } : WSt) k pl := h
theorem lst_sizes (e : WEnv) (l : List Bytes) : setL (lst e) .sizes l = lst { e with sizes := some l } := by funext j; cases j <;> rfl
theorem lst_yarns (e : WEnv) (l : List Bytes) : setL (lst e) .yarns l = lst { e with yarns := some l } := by funext j; cases j <;> rfl
theorem ev_len {o : Option (List Bytes)} (h : o ≠ some []) : (0 < (o.getD []).length) ↔ o.isSome = true := by
  cases o with
  | none => simp
  | some l =>
    cases l with
    | nil => exact absurd rfl h
    | cons c r => simp
def sizesS (pl : Nat) (s : WSt) : Except Fault (LsWale.Head × WSt) := if s.env.sizes.isSome = true ∨ s.env.lets ≠ [] then .error ⟨5, pl⟩ else newN 16 s >>= fun x => .ok (.sizes x.1, { x.2 with env := { x.2.env with sizes := some x.1 } })
def yarnsS (pl : Nat) (s : WSt) : Except Fault (LsWale.Head × WSt) := if s.env.yarns.isSome = true then .error ⟨5, pl⟩ else newN 16 s >>= fun x => .ok (.yarns x.1, { x.2 with env := { x.2.env with yarns := some x.1 } })
@[irreducible] def spHT (K : PySem.W.Frag) (a : Ad) (S : Nat → WSt → Except Fault (LsWale.Head × WSt)) : Sp := fun vs H Q E => ∃ (b : Bytes) (R : RA) (p : Nat) (e : WEnv) (x : Addr), vs = [.ref R.r, .ref x] ∧ RdrAt a K b R (tkEnd b p) 0 (lst e) H ∧ TokIs a b p H x ∧ Ev e ∧
  Tl K a E (S (tkAt b p) (stAt b (tkEnd b p) e)) ∧ ∀ x p' e', Ev e' → S (tkAt b p) (stAt b (tkEnd b p) e) = .ok (x, stAt b p' e') → ∀ H' : Hp, RdrAt a K b R p' 0 (lst e') H' → KeepR R H H' → Q .non H'
theorem spHT_len {S : Nat → WSt → Except Fault (LsWale.Head × WSt)} (vs : List V) (H : Hp) (Q : VK) (E : XK) (h : spHT K a S vs H Q E) : vs.length = 2 := by
  unfold spHT at h
  obtain ⟨_, _, _, _, _, rfl, _⟩ := h; rfl
theorem sc_read_sizes : FnScope ["reader", "token"] ["reader", "token"] (defScope s_read_sizes) := ⟨rfl, rfl, rfl, by decide +kernel, rfl, by decide +kernel, by decide +kernel⟩
theorem sc_read_yarns : FnScope ["reader", "token"] ["reader", "token"] (defScope s_read_yarns) := ⟨rfl, rfl, rfl, by decide +kernel, rfl, by decide +kernel, by decide +kernel⟩
theorem ok_read_sizes (T : Tx P w K mg a) : FnOk P w K mg base (CXF P w) 12 a.f_read_sizes a.d_read_sizes ["reader", "token"] (spHT K a sizesS) := by
  refine Fun.okx (k := 11) T.read_sizes.fn sc_read_sizes spHT_len (fun cdv A outer s H vs Q E hr h => ?_)
  unfold spHT at h
  obtain ⟨b, R, p, e, x, rfl, hR, tk, ev, hT, kk⟩ := h
  have C := T.co_Reader.cl
  refine ⟨_, pss_cons (ps_if (PW.pt (pw_or (pt_cmpR op_gt ((pe_meth (pe_fld (pv 0) rfl) T.co_Names.cl T.Names_amount.mt (oki_amount T) (hr.mono (by omega)) T.Names_amount.bd .nil pass0 (pa_cons (pk_str T.k_SIZES) pa_nil))) pe_int (nomark _)) (pw_or1 (pt_cmpR op_gt ((pe_meth (pe_fld (pv 0) rfl) T.co_Names.cl T.Names_amount.mt (oki_amount T) (hr.mono (by omega)) T.Names_amount.bd .nil pass0 (pa_cons (pk_str T.k_NUMBERS) pa_nil))) pe_int (nomark _)))))
      (pss_one (ps_fault rfl raises_def T.cx_AgainFault (ok_AgainFault_init T) T.AgainFault_init.2 (hr.mono (by omega)) (pe_fld (pv 1) rfl))) pss_nil)
    (pss_one (ps_expr (callD T.read_new_names (ok_read_new_names T) hr passes_def (pa_cons (pv 0) (pa_cons (pk_str T.k_SIZES) pa_nil))))), ?_⟩
  obtain ⟨dn, en⟩ := hR.nm.obj
  obtain ⟨dt, ft, et, lt1, lt2, lt3, lt4, lt5⟩ := tk
  have bad : ∀ lo, (e.sizes.isSome = true ∨ e.lets ≠ []) → tFault lo K a.c_AgainFault E 5 (tFld K (tVar 1) "place") { nx := fun _ H' => Q .non H', rt := Q } [some (.ref R.r), some (.ref x)] H := fun lo hc =>
    ⟨_, rfl, x, _, dt, ft, _, rfl, et, T.co_Token.cl, T.na_Token_place, lt4, flt_ok T.cx_AgainFault (hT.err (by unfold sizesS; rw [if_pos hc]))⟩
  refine ⟨_, rfl, R.r, _, _, _, _, rfl, hR.ins, C, T.na_Reader_names, rfl, R.N.n, dn, _, rfl, en, rfl, ?_⟩
  refine L_amt hR .sizes ⟨_, _, rfl, rfl, _, rfl, ?_⟩
  refine ite2 (fun c => ?_) (fun c => ?_)
  · have c' : 0 < (e.sizes.getD []).length := by have := of_decide_eq_true c; have h : (0 : Int) < ((e.sizes.getD []).length : Int) := this; omega
    exact iteT (bad _ (.inl ((ev_len ev.1).mp c')))
  have n1 : ¬ e.sizes.isSome = true := fun z => c (decide_eq_true (by
    have := (ev_len ev.1).mpr z
    show (0 : Int) < ((e.sizes.getD []).length : Int)
    omega))
  refine ⟨_, rfl, R.r, _, _, _, _, rfl, hR.ins, C, T.na_Reader_names, rfl, R.N.n, dn, _, rfl, en, rfl, ?_⟩
  refine L_amt hR .numbers ⟨_, _, rfl, rfl, _, rfl, ?_⟩
  refine ite2 (fun c => ?_) (fun c => ?_)
  · refine bad _ (.inr fun z => ?_)
    have := of_decide_eq_true c
    have h : (0 : Int) < ((e.lets).length : Int) := this
    rw [z] at h
    simp at h
  have n2 : e.lets = [] := by
    have h : ¬ (0 : Int) < ((e.lets).length : Int) := fun z => c (decide_eq_true z)
    exact List.length_eq_zero_iff.mp (by omega)
  have e1 : sizesS (tkAt b p) (stAt b (tkEnd b p) e) = newN (bnd .sizes) (stAt b (tkEnd b p) e) >>= fun x => .ok (.sizes x.1, { x.2 with env := { x.2.env with sizes := some x.1 } }) := by
    unfold sizesS
    rw [if_neg (fun z => z.elim n1 fun z => z n2)]
    rfl
  refine ⟨_, rfl, ?_⟩
  refine L_names hR .sizes rfl ?_ hT e1 (fun x s k pl hb => bad_ok (hb_env hb)) fun l p' hl e2 H' hR' kp => ?_
  · show e.sizes.getD [] = []
    cases q : e.sizes with
    | none => rfl
    | some l => rw [q] at n1; exact absurd rfl n1
  · rw [lst_sizes] at hR'
    exact kk _ _ { e with sizes := some l } ⟨fun z => hl (Option.some.inj z), ev.2⟩ e2 H' hR' kp
theorem ok_read_yarns (T : Tx P w K mg a) : FnOk P w K mg base (CXF P w) 12 a.f_read_yarns a.d_read_yarns ["reader", "token"] (spHT K a yarnsS) := by
  refine Fun.okx (k := 11) T.read_yarns.fn sc_read_yarns spHT_len (fun cdv A outer s H vs Q E hr h => ?_)
  unfold spHT at h
  obtain ⟨b, R, p, e, x, rfl, hR, tk, ev, hT, kk⟩ := h
  have C := T.co_Reader.cl
  refine ⟨_, pss_cons (ps_if (pt_cmpR op_gt ((pe_meth (pe_fld (pv 0) rfl) T.co_Names.cl T.Names_amount.mt (oki_amount T) (hr.mono (by omega)) T.Names_amount.bd .nil pass0 (pa_cons (pk_str T.k_YARNS) pa_nil))) pe_int (nomark _))
      (pss_one (ps_fault rfl raises_def T.cx_AgainFault (ok_AgainFault_init T) T.AgainFault_init.2 (hr.mono (by omega)) (pe_fld (pv 1) rfl))) pss_nil)
    (pss_one (ps_expr (callD T.read_new_names (ok_read_new_names T) hr passes_def (pa_cons (pv 0) (pa_cons (pk_str T.k_YARNS) pa_nil))))), ?_⟩
  obtain ⟨dn, en⟩ := hR.nm.obj
  obtain ⟨dt, ft, et, lt1, lt2, lt3, lt4, lt5⟩ := tk
  refine ⟨_, rfl, R.r, _, _, _, _, rfl, hR.ins, C, T.na_Reader_names, rfl, R.N.n, dn, _, rfl, en, rfl, ?_⟩
  refine L_amt hR .yarns ⟨_, _, rfl, rfl, _, rfl, ?_⟩
  refine ite2 (fun c => ?_) (fun c => ?_)
  · have c' : 0 < (e.yarns.getD []).length := by have := of_decide_eq_true c; have h : (0 : Int) < ((e.yarns.getD []).length : Int) := this; omega
    exact ⟨_, rfl, x, _, dt, ft, _, rfl, et, T.co_Token.cl, T.na_Token_place, lt4, flt_ok T.cx_AgainFault (hT.err (by unfold yarnsS; rw [if_pos ((ev_len ev.2).mp c')]))⟩
  have n1 : ¬ e.yarns.isSome = true := fun z => c (decide_eq_true (by
    have := (ev_len ev.2).mpr z
    show (0 : Int) < ((e.yarns.getD []).length : Int)
    omega))
  have e1 : yarnsS (tkAt b p) (stAt b (tkEnd b p) e) = newN (bnd .yarns) (stAt b (tkEnd b p) e) >>= fun x => .ok (.yarns x.1, { x.2 with env := { x.2.env with yarns := some x.1 } }) := by
    unfold yarnsS
    rw [if_neg n1]
    rfl
  refine ⟨_, rfl, ?_⟩
  refine L_names hR .yarns rfl ?_ hT e1 (fun x s k pl hb => bad_ok (hb_env hb)) fun l p' hl e2 H' hR' kp => ?_
  · show e.yarns.getD [] = []
    cases q : e.yarns with
    | none => rfl
    | some l => rw [q] at n1; exact absurd rfl n1
  · rw [lst_yarns] at hR'
    exact kk _ _ { e with yarns := some l } ⟨ev.1, fun z => hl (Option.some.inj z)⟩ e2 H' hR' kp
@[irreducible] def spH (K : PySem.W.Frag) (a : Ad) (S : WSt → Except Fault (LsWale.Head × WSt)) : Sp := fun vs H Q E => ∃ (b : Bytes) (R : RA) (p : Nat) (e : WEnv), vs = [.ref R.r] ∧ RdrAt a K b R p 0 (lst e) H ∧ Ev e ∧
  Tl K a E (S (stAt b p e)) ∧ ∀ x p' e', Ev e' → S (stAt b p e) = .ok (x, stAt b p' e') → ∀ H' : Hp, RdrAt a K b R p' 0 (lst e') H' → KeepR R H H' → Q .non H'
theorem spH_len {S : WSt → Except Fault (LsWale.Head × WSt)} (vs : List V) (H : Hp) (Q : VK) (E : XK) (h : spH K a S vs H Q E) : vs.length = 1 := by
  unfold spH at h
  obtain ⟨_, _, _, _, rfl, _⟩ := h; rfl
theorem same_lst {e e' : WEnv} (h : SameT e e') {j : Kd} (hj : isT j = true) : lst e' j = lst e j := by
  obtain ⟨h1, h2, h3, h4, h5⟩ := h
  cases j with
  | sizes => show e'.sizes.getD [] = e.sizes.getD []; rw [h1]
  | yarns => show e'.yarns.getD [] = e.yarns.getD []; rw [h2]
  | numbers => exact h3
  | words => exact h4
  | blocks => exact h5
  | markers => cases hj
  | holders => cases hj
theorem ev_same {e e' : WEnv} (h : SameT e e') (ev : Ev e) : Ev e' := ⟨by rw [h.1]; exact ev.1, by rw [h.2.1]; exact ev.2⟩
theorem same_untold {e e' : WEnv} (h : SameT e e') {x : Bytes} (u : untold (lst e) x) : untold (lst e') x := fun j hj => by rw [same_lst h hj]; exact u j hj
def blockS (s : WSt) : Except Fault (LsWale.Head × WSt) := newName s.env.blocks.length 64 s [] >>= fun n => braceS 0 n.2 >>= fun x => .ok (.block n.1 x.1, { x.2 with env := { x.2.env with blocks := x.2.env.blocks ++ [n.1] } })
def wordS (s : WSt) : Except Fault (LsWale.Head × WSt) := newName s.env.words.length 64 s [] >>= fun n => eatSign '=' n.2 >>= fun t => itemsS 0 t >>= fun x => eatSign ';' x.2 >>= fun u => .ok (.word n.1 x.1, { u with env := { u.env with words := u.env.words ++ [n.1] } })
def letS (s : WSt) : Except Fault (LsWale.Head × WSt) := newName s.env.lets.length 256 s [] >>= fun n => eatSign '=' n.2 >>= fun t => sumsS t >>= fun x => eatSign ';' x.2 >>= fun u =>
  if x.1.length ≠ 1 ∧ x.1.length ≠ s.env.many then .error ⟨7, s.place⟩ else .ok (.let_ n.1 x.1, { u with env := { u.env with lets := u.env.lets ++ [n.1] } })
theorem add_blocks (e : WEnv) (x : Bytes) : addL (lst e) .blocks x = lst { e with blocks := e.blocks ++ [x] } := by funext j; cases j <;> rfl
theorem add_words (e : WEnv) (x : Bytes) : addL (lst e) .words x = lst { e with words := e.words ++ [x] } := by funext j; cases j <;> rfl
theorem add_lets (e : WEnv) (x : Bytes) : addL (lst e) .numbers x = lst { e with lets := e.lets ++ [x] } := by funext j; cases j <;> rfl
theorem brace_ke (d : Nat) (s : WSt) : Ke s.env (braceS d s) := by
  unfold braceS
  exact KeS.bind fun t h1 => Ke.bind fun i u h2 => KeS.bind fun v h3 => ke_ok (((eatOpen_ke t h1).trans (statsS_ke _ _ i u h2)).trans (eatSign_ke v h3))
theorem sc_read_block : FnScope ["reader", "name"] ["reader"] (defScope s_read_block) := ⟨rfl, rfl, rfl, by decide +kernel, rfl, by decide +kernel, by decide +kernel⟩
theorem ok_read_block (T : Tx P w K mg a) : FnOk P w K mg base (CXF P w) 96 a.f_read_block a.d_read_block ["reader"] (spH K a blockS) := by
  refine Fun.okx (k := 95) T.read_block.fn sc_read_block spH_len (fun cdv A outer s H vs Q E hr h => ?_)
  unfold spH at h
  obtain ⟨b, R, p, e, rfl, hR, ev, hT, kk⟩ := h
  have C := T.co_Reader.cl
  refine ⟨_, pss_cons (ps_set (i := 1) sc_read_block.nd rfl (Or.inl rfl) ((pe_meth (pv 0) C T.Reader_want_new_name.mt (oki_want_new_name T) (hr.mono (by omega)) T.Reader_want_new_name.bd .nil passes_def (pa_cons (pk_str T.k_BLOCKS) pa_nil))))
    (pss_cons (ps_expr (callD T.read_braces (ok_read_braces T (by omega) (ok_read_stats T 8)) hr passes_def (pa_cons (pv 0) pa_nil))) (pss_one (ps_expr ((pe_meth (pe_fld (pv 0) rfl) T.co_Names.cl T.Names_tell.mt (oki_tell T) (hr.mono (by omega)) T.Names_tell.bd .nil pass0 (pa_cons (pv 1) (pa_cons (pk_str T.k_BLOCKS) pa_nil))))))), ?_⟩
  refine ⟨_, rfl, R.r, _, _, rfl, hR.ins, rfl, ?_⟩
  refine L_new (k := .blocks) hR hT rfl rfl rfl (hu_nil e) fun x hx un hl e1 H1 y hR1 kp1 tk1 => ?_
  unfold TokIs at tk1
  rw [name_tx hx] at tk1
  refine ⟨_, rfl, ?_⟩
  refine L_g (m := 9) hR1 (by omega) (by omega) hT e1 (fun x s k pl hb => bad_ok (hb_env hb)) fun x2 p2 e2 hS e3 H2 hR2 kp2 => ?_
  have sm : SameT e e2 := brace_ke 0 _ _ _ hS
  have tk2 := TokAt.keepR tk1 hR1 kp2
  obtain ⟨dn, en⟩ := hR2.nm.obj
  refine ⟨_, rfl, R.r, _, _, _, _, rfl, hR2.ins, C, T.na_Reader_names, rfl, R.N.n, dn, _, rfl, en, rfl, _, rfl, ?_⟩
  refine L_tell hR2 .blocks tk2 rfl (same_untold sm un) (by rw [same_lst sm rfl]; exact hl) fun H3 hR3 kp3 => ?_
  rw [add_blocks] at hR3
  exact kk _ _ { e2 with blocks := e2.blocks ++ [x] } (show Ev e2 from ev_same sm ev) e3 H3 hR3 ((kp1.trans kp2).trans kp3)
theorem sc_read_word : FnScope ["reader", "name"] ["reader"] (defScope s_read_word) := ⟨rfl, rfl, rfl, by decide +kernel, rfl, by decide +kernel, by decide +kernel⟩
theorem ok_read_word (T : Tx P w K mg a) : FnOk P w K mg base (CXF P w) 68 a.f_read_word a.d_read_word ["reader"] (spH K a wordS) := by
  refine Fun.okx (k := 67) T.read_word.fn sc_read_word spH_len (fun cdv A outer s H vs Q E hr h => ?_)
  unfold spH at h
  obtain ⟨b, R, p, e, rfl, hR, ev, hT, kk⟩ := h
  have C := T.co_Reader.cl
  refine ⟨_, pss_cons (ps_set (i := 1) sc_read_word.nd rfl (Or.inl rfl) ((pe_meth (pv 0) C T.Reader_want_new_name.mt (oki_want_new_name T) (hr.mono (by omega)) T.Reader_want_new_name.bd .nil passes_def (pa_cons (pk_str T.k_WORDS) pa_nil))))
    (pss_cons (ps_expr (pe_meth (pv 0) C T.Reader_want.mt (oki_want T) (hr.mono (by omega)) T.Reader_want.bd .nil passes_def (pa_cons pe_str pa_nil))) (pss_cons (ps_expr (callD T.read_row_items (ok_read_row_items T 9) hr passes_def (pa_cons (pv 0) pa_nil))) (pss_cons (ps_expr (pe_meth (pv 0) C T.Reader_want.mt (oki_want T) (hr.mono (by omega)) T.Reader_want.bd .nil passes_def (pa_cons pe_str pa_nil))) (pss_one (ps_expr ((pe_meth (pe_fld (pv 0) rfl) T.co_Names.cl T.Names_tell.mt (oki_tell T) (hr.mono (by omega)) T.Names_tell.bd .nil pass0 (pa_cons (pv 1) (pa_cons (pk_str T.k_WORDS) pa_nil))))))))), ?_⟩
  refine ⟨_, rfl, R.r, _, _, rfl, hR.ins, rfl, ?_⟩
  refine L_new (k := .words) hR hT rfl rfl rfl (hu_nil e) fun x hx un hl e1 H1 y hR1 kp1 tk1 => ?_
  unfold TokIs at tk1
  rw [name_tx hx] at tk1
  refine ⟨_, rfl, R.r, _, _, rfl, hR1.ins, rfl, ?_⟩
  refine L_want_sign hR1 hT e1 (k := fun e2 H2 z hR2 kp2 _ => ⟨_, rfl, ?_⟩)
  refine L_g (m := 9) hR2 (by omega) (by omega) hT e2 (fun x s k pl hb => bad_sign hb) fun x2 p2 e3 hS e4 H3 hR3 kp3 => ?_
  have sm : SameT e e3 := itemsS_ke 0 _ _ _ hS
  refine ⟨_, rfl, R.r, _, _, rfl, hR3.ins, rfl, ?_⟩
  refine L_want_sign hR3 hT e4 (k := fun e5 H4 z hR4 kp4 _ => ?_)
  have tk4 := TokAt.keepR tk1 hR1 ((kp2.trans kp3).trans kp4)
  obtain ⟨dn, en⟩ := hR4.nm.obj
  refine ⟨_, rfl, R.r, _, _, _, _, rfl, hR4.ins, C, T.na_Reader_names, rfl, R.N.n, dn, _, rfl, en, rfl, _, rfl, ?_⟩
  refine L_tell hR4 .words tk4 rfl (same_untold sm un) (by rw [same_lst sm rfl]; exact hl) fun H5 hR5 kp5 => ?_
  rw [add_words] at hR5
  exact kk _ _ { e3 with words := e3.words ++ [x] } (show Ev e3 from ev_same sm ev) e5 H5 hR5 ((((kp1.trans kp2).trans kp3).trans kp4).trans kp5)
end Wale
end
section
set_option Elab.async false
set_option linter.all false
set_option maxRecDepth 100000
set_option maxHeartbeats 2000000
namespace Wale
open PySem PySem.Spec PyProof.Rows L2
open Wm
open LsWale (ascii Fault eatSign eatWord eatOpen anyName newName oldName markName holdName wanted isName PLAINS)
variable {P : Program} {w : World} {K : PySem.W.Frag} {mg : Str → Option Value} {base : Heap} {a : Ad}
def moreS (acc : List LsWale.Sum) (s : WSt) : Except Fault (List LsWale.Sum × WSt) := if s.isSign ',' = true then (sumsS s.next >>= fun l => .ok (acc ++ l.1, l.2)) else .ok (acc, s)
theorem moreS_yes {b : Bytes} {p : Nat} {e : WEnv} {acc : List LsWale.Sum} (h : (stAt b p e).isSign ',' = true) : moreS acc (stAt b p e) = sumS .sum 0 (stAt b (tkEnd b p) e) >>= fun x => moreS (acc ++ [x.1]) x.2 := by
  unfold moreS
  rw [if_pos h, next_at (sign_isTok h), sumsS_def, bind_assoc']
  refine bind_congr' rfl fun x s hx => ?_
  dsimp only
  by_cases c : s.isSign ',' = true
  · rw [if_pos c, if_pos c, bind_assoc']
    refine bind_congr' rfl fun y t hy => ?_
    show Except.ok (acc ++ x :: y, t) = Except.ok (acc ++ [x] ++ y, t)
    rw [List.append_assoc]; rfl
  · rw [if_neg c, if_neg c]; rfl
theorem sums_first (s : WSt) : sumsS s = sumS .sum 0 s >>= fun x => moreS [x.1] x.2 := by
  rw [sumsS_def]
  rfl
theorem hb_moreS {α : Type} {s : WSt} {k pl : Nat} {acc : List LsWale.Sum} {f : List LsWale.Sum × WSt → Except Fault (α × WSt)} (h : HB s k pl) (hf : ∀ x, Bad (f (x, s)) k pl) : Bad (moreS acc s >>= f) k pl := by
  unfold moreS
  rw [if_neg (by rw [hb_sign h]; decide)]
  exact hf _
theorem many_iff {e : WEnv} {n : Nat} (h : 1 ≤ n) (ev : Ev e) : (n ≠ 1 ∧ n ≠ e.many) ↔ (n ≠ 1 ∧ n ≠ (e.sizes.getD []).length) := by
  unfold LsWale.Env.many
  cases e.sizes with
  | none => simp; omega
  | some l => rfl
theorem sc_read_let : FnScope ["reader", "name", "sums"] ["reader"] (defScope s_read_let) := ⟨rfl, rfl, rfl, by decide +kernel, rfl, by decide +kernel, by decide +kernel⟩
theorem ok_read_let (T : Tx P w K mg a) : FnOk P w K mg base (CXF P w) 38 a.f_read_let a.d_read_let ["reader"] (spH K a letS) := by
  refine Fun.okx (k := 37) T.read_let.fn sc_read_let spH_len (fun cdv A outer s H vs Q E hr h => ?_)
  unfold spH at h
  obtain ⟨b, R, p, e, rfl, hR, ev, hT, kk⟩ := h
  have C := T.co_Reader.cl
  refine ⟨_, pss_cons (ps_set (i := 1) sc_read_let.nd rfl (Or.inl rfl) ((pe_meth (pv 0) C T.Reader_want_new_name.mt (oki_want_new_name T) (hr.mono (by omega)) T.Reader_want_new_name.bd .nil passes_def (pa_cons (pk_str T.k_NUMBERS) pa_nil))))
    (pss_cons (ps_expr (pe_meth (pv 0) C T.Reader_want.mt (oki_want T) (hr.mono (by omega)) T.Reader_want.bd .nil passes_def (pa_cons pe_str pa_nil))) (pss_cons (ps_expr (callD T.read_sum (ok_read_sum T 9) hr passes_def (pa_cons (pv 0) pa_nil)))
    (pss_cons (ps_set (i := 2) sc_read_let.nd rfl (Or.inl rfl) pe_int)
    (pss_cons (ps_while own_def (pt_val (pe_meth (pv 0) C T.Reader_skip.mt (oki_skip T) (hr.mono (by omega)) T.Reader_skip.bd .nil passes_def (pa_cons pe_str pa_nil))) (pss_cons (ps_expr (callD T.read_sum (ok_read_sum T 9) hr passes_def (pa_cons (pv 0) pa_nil))) (pss_one (ps_aug (i := 2) sc_read_let.nd rfl (Or.inl rfl) pe_int ip_add))))
    (pss_cons (ps_expr (pe_meth (pv 0) C T.Reader_want.mt (oki_want T) (hr.mono (by omega)) T.Reader_want.bd .nil passes_def (pa_cons pe_str pa_nil)))
    (pss_cons (ps_if (PW.pt (pw_and (pt_cmpR op_ne (pv 2) pe_int (nomark _)) (pw_and1 (pt_cmpR op_ne (pv 2) ((pe_meth (pe_fld (pv 0) rfl) T.co_Names.cl T.Names_amount.mt (oki_amount T) (hr.mono (by omega)) T.Names_amount.bd .nil pass0 (pa_cons (pk_str T.k_SIZES) pa_nil))) (nomark _)))))
      (pss_one (ps_fault rfl raises_def T.cx_SumsFault (ok_SumsFault_init T) T.SumsFault_init.2 (hr.mono (by omega)) (pe_fld (pv 1) rfl))) pss_nil)
    (pss_one (ps_expr ((pe_meth (pe_fld (pv 0) rfl) T.co_Names.cl T.Names_tell.mt (oki_tell T) (hr.mono (by omega)) T.Names_tell.bd .nil pass0 (pa_cons (pv 1) (pa_cons (pk_str T.k_NUMBERS) pa_nil)))))))))))), ?_⟩
  refine ⟨_, rfl, R.r, _, _, rfl, hR.ins, rfl, ?_⟩
  refine L_new (k := .numbers) hR hT rfl rfl rfl (hu_nil e) fun x hx un hl e1 H1 y hR1 kp1 tk1 => ?_
  unfold TokIs at tk1
  rw [name_tx hx] at tk1
  refine ⟨_, rfl, R.r, _, _, rfl, hR1.ins, rfl, ?_⟩
  refine L_want_sign hR1 hT e1 (k := fun e2 H2 z hR2 kp2 _ => ⟨_, rfl, ?_⟩)
  rw [sums_first, bind_assoc'] at e2
  have hbf : ∀ (x1 : List LsWale.Sum) (s : WSt) (k pl : Nat), HB s k pl → Bad (eatSign ';' s >>= fun u => (if x1.length ≠ 1 ∧ x1.length ≠ e.many then .error ⟨7, (stAt b p e).place⟩ else .ok (.let_ x x1, { u with env := { u.env with lets := u.env.lets ++ [x] } }) : Except Fault (LsWale.Head × WSt))) k pl := fun x1 s k pl hb => bad_sign hb
  refine L_g (m := 9) hR2 (by omega) (by omega) hT e2 (fun x s k pl hb => hb_moreS hb fun x1 => hbf x1 s k pl hb) fun x2 p2 e3 hS e4 H3 hR3 kp3 => ?_
  have sm3 : SameT e e3 := sumS_ke .sum 0 _ _ _ hS
  let I : List LsWale.Sum × Nat × WEnv → L2.St → Hp → Prop := fun i σ H' => σ = [some (.ref R.r), some (.ref y), some (.int (i.1.length : Int))] ∧ 1 ≤ i.1.length ∧ RdrAt a K b R i.2.1 0 (lst i.2.2) H' ∧ KeepR R H1 H' ∧ SameT e i.2.2 ∧
    letS (stAt b p e) = moreS i.1 (stAt b i.2.1 i.2.2) >>= fun x1 => eatSign ';' x1.2 >>= fun u => if x1.1.length ≠ 1 ∧ x1.1.length ≠ e.many then .error ⟨7, (stAt b p e).place⟩ else .ok (.let_ x x1.1, { u with env := { u.env with lets := u.env.lets ++ [x] } })
  let μ : List LsWale.Sum × Nat × WEnv → Nat := fun i => (toks b i.2.1).length
  refine while_inv I μ ([x2], p2, e3) ⟨rfl, Nat.le_refl _, hR3, kp2.trans kp3, sm3, e4⟩ ?_
  rintro ⟨acc, p4, e5⟩ σ H4 ⟨rfl, hn, hR4, kp4, sm4, h4⟩
  dsimp only at hn hR4 h4 sm4
  refine ⟨_, rfl, R.r, _, _, rfl, hR4.ins, rfl, ?_⟩
  refine L_skip_sign (c := ',') (e := e5) hR4 hT (fun k pl hb => by rw [h4]; exact hb_moreS hb fun x1 => hbf x1 _ k pl hb) (fun c H5 hR5 kp5 => ?_) (fun c nb H5 hR5 kp5 => ?_)
  · rw [moreS_yes c, bind_assoc'] at h4
    refine ⟨_, rfl, iteT ?_⟩
    refine turn_mk (I := I) (μ := μ) (i := (acc, p4, e5)) ?_
    refine ⟨_, rfl, ?_⟩
    refine L_g (m := 9) hR5 (by omega) (by omega) hT h4 (fun x s k pl hb => hb_moreS hb fun x1 => hbf x1 s k pl hb) fun x6 p6 e6 hS6 h6 H6 hR6 kp6 => ?_
    refine ⟨_, rfl, _, _, rfl, rfl, (acc ++ [x6], p6, e6), ?_, ?_, ?_, hR6, (kp4.trans kp5).trans kp6, sm4.trans (sumS_ke .sum 0 _ _ _ hS6), h6⟩
    · have l1 := toks_lt (sum_lt _ 0 _) hS6
      have l2 := end_lt (sign_isTok c)
      show (toks b p6).length < (toks b p4).length
      omega
    · show [some (V.ref R.r), some (V.ref y), some (V.int ((acc.length : Int) + 1))] = [some (V.ref R.r), some (V.ref y), some (V.int ((acc ++ [x6]).length : Int))]
      rw [List.length_append]; rfl
    · show 1 ≤ (acc ++ [x6]).length
      rw [List.length_append]; omega
  have e6 : letS (stAt b p e) = eatSign ';' (stAt b p4 e5) >>= fun u => if acc.length ≠ 1 ∧ acc.length ≠ e.many then .error ⟨7, (stAt b p e).place⟩ else .ok (.let_ x acc, { u with env := { u.env with lets := u.env.lets ++ [x] } }) := by
    rw [h4]
    unfold moreS
    rw [if_neg (by rw [c]; decide)]
    rfl
  refine ⟨_, rfl, iteF ⟨_, rfl, R.r, _, _, rfl, hR5.ins, rfl, ?_⟩⟩
  refine L_want_sign hR5 hT e6 (k := fun e7 H6 z hR6 kp6 _ => ?_)
  have tk6 := TokAt.keepR tk1 hR1 ((kp4.trans kp5).trans kp6)
  have hz : lst e5 .sizes = lst e .sizes := same_lst sm4 rfl
  have mi := many_iff (e := e) hn ev
  have fin : ¬ (acc.length ≠ 1 ∧ acc.length ≠ e.many) → iTell a [.ref R.N.n, .ref y, .str (kdS .numbers)] H6 (fun v H' => Q .non H') E0 := fun hc => by
    rw [if_neg hc] at e7
    refine L_tell hR6 .numbers tk6 rfl (same_untold sm4 un) (by rw [same_lst sm4 rfl]; exact hl) fun H7 hR7 kp7 => ?_
    rw [add_lets] at hR7
    exact kk _ _ { e5 with lets := e5.lets ++ [x] } (show Ev e5 from ev_same sm4 ev) e7 H7 hR7 ((kp1.trans ((kp4.trans kp5).trans kp6)).trans kp7)
  obtain ⟨dn, en⟩ := hR6.nm.obj
  have tail : ¬ (acc.length ≠ 1 ∧ acc.length ≠ e.many) → tDrop (tMeth a.c_Names "tell" (iTell a) [] E0 (tFld K (tVar 0) "names") (tCons (tVar 1) (tCons (tC (.str "numbers")) tNil))) { nx := fun _ H' => Q .non H', rt := Q } [some (.ref R.r), some (.ref y), some (.int (acc.length : Int))] H6 := fun hc =>
    ⟨_, rfl, R.r, _, _, _, _, rfl, hR6.ins, C, T.na_Reader_names, rfl, R.N.n, dn, _, rfl, en, rfl, _, rfl, fin hc⟩
  refine ⟨_, rfl, rfl, _, rfl, ?_⟩
  rw [dec_v]
  by_cases c1 : acc.length = 1
  · refine iteNS (by rw [c1]; rfl) ?_
    exact iteF (tail fun z => z.1 c1)
  · rw [decide_eq_false (fun z => c1 (by have z : ((acc.length : Nat) : Int) = 1 := z; omega))]
    refine iteT ⟨_, rfl, _, rfl, R.r, _, _, _, _, rfl, hR6.ins, C, T.na_Reader_names, rfl, R.N.n, dn, _, rfl, en, rfl, ?_⟩
    refine L_amt hR6 .sizes ⟨rfl, _, rfl, ?_⟩
    rw [dec_v, hz]
    by_cases c2 : acc.length = (lst e .sizes).length
    · refine iteNS (by rw [c2]) ?_
      exact tail fun z => (mi.mp z).2 c2
    · rw [decide_eq_false (fun (z : ((acc.length : Nat) : Int) = ((lst e .sizes).length : Nat)) => c2 (by omega))]
      rw [if_pos (mi.mpr ⟨c1, c2⟩)] at e7
      obtain ⟨dt, ft, et, lt1, lt2, lt3, lt4, lt5⟩ := tk6
      refine iteT ⟨_, rfl, y, _, dt, ft, _, rfl, et, T.co_Token.cl, T.na_Token_place, lt4, flt_ok T.cx_SumsFault (hT.err ?_)⟩
      rw [e7, place_at]
end Wale
end
section
set_option Elab.async false
set_option linter.all false
set_option maxRecDepth 100000
set_option maxHeartbeats 2000000
namespace Wale
open PySem PySem.Spec PyProof.Rows L2
open Wm
open LsWale (ascii Fault eatSign eatWord eatOpen anyName newName oldName markName holdName wanted isName PLAINS)
variable {P : Program} {w : World} {K : PySem.W.Frag} {mg : Str → Option Value} {base : Heap} {a : Ad}
section
variable {α : Type} {b : Bytes} {R : RA} {p : Nat} {e : WEnv} {H : Hp} {Q : VK} {E : XK} {g : Except Fault (LsWale.Head × WSt)}
theorem L_ht {S : Nat → WSt → Except Fault (LsWale.Head × WSt)} {x : Addr} (hR : RdrAt a K b R (tkEnd b p) 0 (lst e) H) (tk : TokIs a b p H x) (ev : Ev e) (hT : Tl K a E g) (hg : g = S (tkAt b p) (stAt b (tkEnd b p) e))
    (kk : ∀ x p' e', Ev e' → g = .ok (x, stAt b p' e') → ∀ H' : Hp, RdrAt a K b R p' 0 (lst e') H' → KeepR R H H' → Q .non H') : spHT K a S [.ref R.r, .ref x] H Q E := by
  subst hg
  unfold spHT
  exact ⟨b, R, p, e, x, rfl, hR, tk, ev, hT, kk⟩
theorem L_h {S : WSt → Except Fault (LsWale.Head × WSt)} (hR : RdrAt a K b R p 0 (lst e) H) (ev : Ev e) (hT : Tl K a E g) (hg : g = S (stAt b p e))
    (kk : ∀ x p' e', Ev e' → g = .ok (x, stAt b p' e') → ∀ H' : Hp, RdrAt a K b R p' 0 (lst e') H' → KeepR R H H' → Q .non H') : spH K a S [.ref R.r] H Q E := by
  subst hg
  unfold spH
  exact ⟨b, R, p, e, rfl, hR, ev, hT, kk⟩
end
@[irreducible] def spHead (K : PySem.W.Frag) (a : Ad) : Sp := fun vs H Q E => ∃ (b : Bytes) (R : RA) (p : Nat) (e : WEnv) (g : Except Fault (LsWale.Head × WSt)), vs = [.ref R.r] ∧ RdrAt a K b R p 0 (lst e) H ∧ Ev e ∧ headS (stAt b p e) = some g ∧
  Tl K a E g ∧ ∀ x p' e', Ev e' → g = .ok (x, stAt b p' e') → ∀ H' : Hp, RdrAt a K b R p' 0 (lst e') H' → KeepR R H H' → Q .non H'
theorem L_head {α : Type} {b : Bytes} {R : RA} {p : Nat} {e : WEnv} {H : Hp} {Q : VK} {E : XK} {g : Except Fault (LsWale.Head × WSt)} {r : Except Fault (α × WSt)} {f : LsWale.Head × WSt → Except Fault (α × WSt)} (hR : RdrAt a K b R p 0 (lst e) H) (ev : Ev e) (hg : headS (stAt b p e) = some g) (hT : Tl K a E r) (hr : r = g >>= f) (hB : ∀ x s k pl, HB s k pl → Bad (f (x, s)) k pl)
    (kk : ∀ x p' e', Ev e' → g = .ok (x, stAt b p' e') → r = f (x, stAt b p' e') → ∀ H' : Hp, RdrAt a K b R p' 0 (lst e') H' → KeepR R H H' → Q .non H') : spHead K a [.ref R.r] H Q E := by
  unfold spHead
  exact ⟨b, R, p, e, g, rfl, hR, ev, hg, fun k pl h => hT k pl (by rw [hr]; exact h.bind fun x s hb => hB x s k pl hb), fun x p' e' ev' hS => kk x p' e' ev' hS (by rw [hr, hS]; rfl)⟩
theorem spHead_len (vs : List V) (H : Hp) (Q : VK) (E : XK) (h : spHead K a vs H Q E) : vs.length = 1 := by
  unfold spHead at h
  obtain ⟨_, _, _, _, _, rfl, _⟩ := h; rfl
theorem spHead_out {vs : List V} {H : Hp} {Q : VK} {E : XK} (h : spHead K a vs H Q E) : ∃ (b : Bytes) (R : RA) (p : Nat) (e : WEnv) (g : Except Fault (LsWale.Head × WSt)), vs = [.ref R.r] ∧ RdrAt a K b R p 0 (lst e) H ∧ Ev e ∧ headS (stAt b p e) = some g ∧
  Tl K a E g ∧ ∀ x p' e', Ev e' → g = .ok (x, stAt b p' e') → ∀ H' : Hp, RdrAt a K b R p' 0 (lst e') H' → KeepR R H H' → Q .non H' := by unfold spHead at h; exact h
theorem head_tok {b : Bytes} {p : Nat} {e : WEnv} {g : Except Fault (LsWale.Head × WSt)} (h : headS (stAt b p e) = some g) : isTok (tkOf b p) = true := by
  by_cases c : isTok (tkOf b p) = true
  · exact c
  · unfold headS headBy at h
    simp only [noTok_word c] at h
    cases h
theorem sc_read_head : FnScope ["reader", "token"] ["reader"] (defScope s_read_head) := ⟨rfl, rfl, rfl, by decide +kernel, rfl, by decide +kernel, by decide +kernel⟩
theorem ok_read_head (T : Tx P w K mg a) : FnOk P w K mg base (CXF P w) 97 a.f_read_head a.d_read_head ["reader"] (spHead K a) := by
  refine Fun.okx (k := 96) T.read_head.fn sc_read_head spHead_len (fun cdv A outer s H vs Q E hr h => ?_)
  obtain ⟨b, R, p, e, g, rfl, hR, ev, hg, hT, kk⟩ := spHead_out h
  have C := T.co_Reader.cl
  refine ⟨_, pss_cons (ps_set (i := 1) sc_read_head.nd rfl (Or.inl rfl) (pe_meth0 (pv 0) C T.Reader_step.mt (oki_step T) (hr.mono (by omega)) T.Reader_step.bd .nil passes_def))
    (pss_one (ps_if (pt_cmpR op_eq (pe_fld (pv 1) rfl) pe_str (nomark _)) (pss_one (ps_expr (callD T.read_sizes (ok_read_sizes T) (hr.mono (by omega)) passes_def (pa_cons (pv 0) (pa_cons (pv 1) pa_nil)))))
      (pss_one (ps_if (pt_cmpR op_eq (pe_fld (pv 1) rfl) pe_str (nomark _)) (pss_one (ps_expr (callD T.read_yarns (ok_read_yarns T) (hr.mono (by omega)) passes_def (pa_cons (pv 0) (pa_cons (pv 1) pa_nil)))))
        (pss_one (ps_if (pt_cmpR op_eq (pe_fld (pv 1) rfl) pe_str (nomark _)) (pss_one (ps_expr (callD T.read_let (ok_read_let T) (hr.mono (by omega)) passes_def (pa_cons (pv 0) pa_nil))))
          (pss_one (ps_if (pt_cmpR op_eq (pe_fld (pv 1) rfl) pe_str (nomark _)) (pss_one (ps_expr (callD T.read_word (ok_read_word T) (hr.mono (by omega)) passes_def (pa_cons (pv 0) pa_nil))))
            (pss_one (ps_expr (callD T.read_block (ok_read_block T) hr passes_def (pa_cons (pv 0) pa_nil)))))))))))), ?_⟩
  have ht := head_tok hg
  have nx := next_at (e := e) ht
  refine ⟨_, rfl, R.r, _, _, rfl, hR.ins, rfl, ?_⟩
  refine L_step hR (tok_notBad ht) fun H1 x hR1 kp1 tk1 => ?_
  have tk1' := tk1
  obtain ⟨dt, ft, et, lt1, lt2, lt3, lt4, lt5⟩ := tk1
  have cl := T.co_Token.cl
  have kk' : ∀ x p' e', Ev e' → g = .ok (x, stAt b p' e') → ∀ H' : Hp, RdrAt a K b R p' 0 (lst e') H' → KeepR R H1 H' → Q .non H' := fun x p' e' ev' hS H' hR' kp' => kk x p' e' ev' hS H' hR' (kp1.trans kp')
  unfold headS headBy at hg
  rw [nx, place_at] at hg
  refine ⟨_, rfl, x, _, dt, ft, _, rfl, et, cl, T.na_Token_text, lt2, rfl, _, rfl, ?_⟩
  rw [dec_s, dec_w (c := "sizes") e]
  refine ite2 (fun c => ?_) (fun c => ?_)
  · rw [if_pos c] at hg
    refine ⟨_, rfl, _, rfl, ?_⟩
    refine L_ht hR1 tk1' ev hT ?_ kk'
    rw [← Option.some.inj hg]
    unfold sizesS newN
    dsimp only
    by_cases c2 : e.sizes.isSome = true ∨ e.lets ≠ []
    · rw [if_pos c2, if_pos c2]
    · rw [if_neg c2, if_neg c2]; simp only [bind_assoc']; rfl
  rw [if_neg c] at hg
  refine ⟨_, rfl, x, _, dt, ft, _, rfl, et, cl, T.na_Token_text, lt2, rfl, _, rfl, ?_⟩
  rw [dec_s, dec_w (c := "yarns") e]
  refine ite2 (fun c => ?_) (fun c => ?_)
  · rw [if_pos c] at hg
    refine ⟨_, rfl, _, rfl, ?_⟩
    refine L_ht hR1 tk1' ev hT ?_ kk'
    rw [← Option.some.inj hg]
    unfold yarnsS newN
    dsimp only
    by_cases c2 : e.yarns.isSome = true
    · rw [if_pos c2, if_pos c2]
    · rw [if_neg c2, if_neg c2]; simp only [bind_assoc']; rfl
  rw [if_neg c] at hg
  refine ⟨_, rfl, x, _, dt, ft, _, rfl, et, cl, T.na_Token_text, lt2, rfl, _, rfl, ?_⟩
  rw [dec_s, dec_w (c := "let") e]
  refine ite2 (fun c => ?_) (fun c => ?_)
  · rw [if_pos c] at hg
    refine ⟨_, rfl, ?_⟩
    refine L_h hR1 ev hT ?_ kk'
    rw [← Option.some.inj hg]
    rfl
  rw [if_neg c] at hg
  refine ⟨_, rfl, x, _, dt, ft, _, rfl, et, cl, T.na_Token_text, lt2, rfl, _, rfl, ?_⟩
  rw [dec_s, dec_w (c := "word") e]
  refine ite2 (fun c => ?_) (fun c => ?_)
  · rw [if_pos c] at hg
    refine ⟨_, rfl, ?_⟩
    refine L_h hR1 ev hT ?_ kk'
    rw [← Option.some.inj hg]
    rfl
  rw [if_neg c] at hg
  by_cases c2 : (stAt b p e).isWord "block" = true
  · rw [if_pos c2] at hg
    refine ⟨_, rfl, ?_⟩
    refine L_h hR1 ev hT ?_ kk'
    rw [← Option.some.inj hg]
    unfold blockS braceS
    simp only [bind_assoc']
    rfl
  · rw [if_neg c2] at hg
    cases hg
theorem heads_in {b : Bytes} {p : Nat} (e : WEnv) : inV (.str (txTok (tkOf b p))) ((["sizes", "yarns", "let", "word", "block"] : List Str).map V.str) = (headS (stAt b p e)).isSome := by
  rw [in_words (e := e) ["sizes", "yarns", "let", "word", "block"] (by decide +kernel) (by decide +kernel)]
  unfold headS headBy
  simp only [List.any_cons, List.any_nil, Bool.or_false]
  by_cases h1 : (stAt b p e).isWord "sizes" = true
  · simp [h1]
  by_cases h2 : (stAt b p e).isWord "yarns" = true
  · simp [h1, h2]
  by_cases h3 : (stAt b p e).isWord "let" = true
  · simp [h1, h2, h3]
  by_cases h4 : (stAt b p e).isWord "word" = true
  · simp [h1, h2, h3, h4]
  by_cases h5 : (stAt b p e).isWord "block" = true
  · simp [h1, h2, h3, h4, h5]
  · simp [h1, h2, h3, h4, h5]
def endS (n : Bytes) (hs : List LsWale.Head) (x : LsWale.Stats × WSt) : Except Fault (LsWale.Pattern × WSt) := match x.2.ts with
  | ⟨_, .done⟩ :: _ => .ok (⟨n, hs, x.1⟩, x.2)
  | _ => wanted x.2
def readP (s : WSt) : Except Fault (LsWale.Pattern × WSt) := eatWord "pattern" s >>= fun s => anyName s >>= fun n => eatSign ';' n.2 >>= fun t => headsS t >>= fun h => statsS 0 h.2 >>= fun x => endS n.1 h.1 x
theorem readP_eq (s : WSt) : readS s = (readP s).map fun x => (x.1, x.2.env) := by
  unfold readS readP
  cases eatWord "pattern" s with
  | error f => rfl
  | ok s1 =>
    simp only [bind_ok]
    cases anyName s1 with
    | error f => rfl
    | ok n =>
      simp only [bind_ok]
      cases eatSign ';' n.2 with
      | error f => rfl
      | ok t =>
        simp only [bind_ok]
        cases headsS t with
        | error f => rfl
        | ok h =>
          simp only [bind_ok]
          cases statsS 0 h.2 with
          | error f => rfl
          | ok x =>
            simp only [bind_ok]
            obtain ⟨xs, ⟨ts, env⟩⟩ := x
            cases ts with
            | nil => rfl
            | cons t r =>
              obtain ⟨q, tk⟩ := t
              cases tk <;> rfl
theorem end_at (n : Bytes) (hs : List LsWale.Head) (x : LsWale.Stats) (b : Bytes) (p : Nat) (e : WEnv) : endS n hs (x, stAt b p e) = match tkOf b p with
    | .done => .ok (⟨n, hs, x⟩, stAt b p e)
    | _ => wanted (stAt b p e) := by
  unfold endS
  dsimp only
  rw [toks_cons]
  cases tkOf b p <;> rfl
theorem hb_endS {n : Bytes} {hs : List LsWale.Head} {x : LsWale.Stats} {s : WSt} {k pl : Nat} (h : HB s k pl) : endS n hs (x, s) = .error ⟨k, pl⟩ := by
  unfold endS
  have q := hb_wanted (α := LsWale.Pattern × WSt) h
  obtain ⟨r, h⟩ := h
  dsimp only
  rw [h]
  exact q
def moreH (n : Bytes) (hs : List LsWale.Head) (s : WSt) : Except Fault (LsWale.Pattern × WSt) := headsS s >>= fun h => statsS 0 h.2 >>= fun x => endS n (hs ++ h.1) x
theorem hb_moreH {n : Bytes} {hs : List LsWale.Head} {s : WSt} {k pl : Nat} (h : HB s k pl) : Bad (moreH n hs s) k pl := by
  unfold moreH
  rw [hb_heads h]
  show Bad (statsS 0 s >>= _) k pl
  rw [hb_stats h]
  exact .inl (hb_endS h)
theorem moreH_some {n : Bytes} {hs : List LsWale.Head} {s : WSt} {g : Except Fault (LsWale.Head × WSt)} (h : headS s = some g) : moreH n hs s = g >>= fun x => moreH n (hs ++ [x.1]) x.2 := by
  unfold moreH
  rw [headsS_def, h]
  dsimp only
  simp only [bind_assoc']
  refine bind_congr' rfl fun x t hx => ?_
  refine bind_congr' rfl fun y u hy => ?_
  show (statsS 0 u >>= fun x_1 => endS n (hs ++ x :: y) x_1) = (statsS 0 u >>= fun x_1 => endS n (hs ++ [x] ++ y) x_1)
  rw [List.append_assoc]; rfl
theorem moreH_none {n : Bytes} {hs : List LsWale.Head} {s : WSt} (h : headS s = none) : moreH n hs s = statsS 0 s >>= fun x => endS n hs x := by
  unfold moreH
  rw [headsS_def, h]
  show (statsS 0 s >>= fun x => endS n (hs ++ []) x) = _
  rw [List.append_nil]
def spPattern (K : PySem.W.Frag) (a : Ad) : Sp := fun vs H Q E => ∃ (b : Bytes) (R : RA), vs = [.ref R.r] ∧ RdrAt a K b R 0 0 (lst .none_) H ∧ Tl K a E (readP (stAt b 0 .none_)) ∧ ((∃ x, readP (stAt b 0 .none_) = .ok x) → ∀ H' : Hp, KeepR R H H' → Q .non H')
theorem sc_read_pattern : FnScope ["reader"] ["reader"] (defScope s_read_pattern) := ⟨rfl, rfl, rfl, by decide +kernel, rfl, by decide +kernel, by decide +kernel⟩
theorem kd_end {b : Bytes} {p : Nat} : kdTok (tkOf b p) = ("end" : Str) ↔ tkOf b p = .done := by
  cases tkOf b p with
  | word x =>
    refine ⟨fun z => ?_, fun z => by cases z⟩
    have z : kdWord x = "end" := z
    unfold kdWord at z
    split at z <;> exact absurd z (by decide +kernel)
  | num n => exact ⟨fun z => absurd z (by show ¬ (("number" : Str) = "end"); decide +kernel), fun z => by cases z⟩
  | sign c => exact ⟨fun z => absurd z (by show ¬ (("fixed" : Str) = "end"); decide +kernel), fun z => by cases z⟩
  | bad k => exact ⟨fun z => absurd z (by show ¬ (("" : Str) = "end"); decide +kernel), fun z => by cases z⟩
  | done => exact ⟨fun _ => rfl, fun _ => rfl⟩
theorem ok_read_pattern (T : Tx P w K mg a) : FnOk P w K mg base (CXF P w) 98 a.f_read_pattern a.d_read_pattern ["reader"] (spPattern K a) := by
  refine Fun.okx (k := 97) T.read_pattern.fn sc_read_pattern (fun vs H Q E h => ?_) (fun cdv A outer s H vs Q E hr h => ?_)
  · obtain ⟨_, _, rfl, _⟩ := h; rfl
  obtain ⟨b, R, rfl, hR, hT, kk⟩ := h
  have C := T.co_Reader.cl
  refine ⟨_, pss_cons (ps_expr (pe_meth (pv 0) C T.Reader_want.mt (oki_want T) (hr.mono (by omega)) T.Reader_want.bd .nil passes_def (pa_cons pe_str pa_nil))) (pss_cons (ps_expr ((pe_meth (pv 0) C T.Reader_want_kind.mt (oki_want_kind T) (hr.mono (by omega)) T.Reader_want_kind.bd .nil passes_def (pa_cons (pk_str T.k_NAME) pa_nil)))) (pss_cons (ps_expr (pe_meth (pv 0) C T.Reader_want.mt (oki_want T) (hr.mono (by omega)) T.Reader_want.bd .nil passes_def (pa_cons pe_str pa_nil)))
    (pss_cons (ps_while own_def (pt_inS T.k_HEADS (pe_fld (pe_meth0 (pv 0) C T.Reader_peek.mt (oki_peek T) (hr.mono (by omega)) T.Reader_peek.bd .nil passes_def) rfl)) (pss_one (ps_expr (callD T.read_head (ok_read_head T) hr passes_def (pa_cons (pv 0) pa_nil)))))
    (pss_cons (ps_expr (callD T.read_stats (ok_read_stats T 9) hr passes_def (pa_cons (pv 0) pa_nil))) (pss_one (ps_expr ((pe_meth (pv 0) C T.Reader_want_kind.mt (oki_want_kind T) (hr.mono (by omega)) T.Reader_want_kind.bd .nil passes_def (pa_cons (pk_str T.k_END) pa_nil))))))))), ?_⟩
  refine ⟨_, rfl, R.r, _, _, rfl, hR.ins, rfl, ?_⟩
  refine L_want_word hR hT rfl (k := fun e1 H1 x1 hR1 kp1 _ => ?_)
  refine ⟨_, rfl, R.r, _, _, rfl, hR1.ins, rfl, ?_⟩
  refine L_any hR1 hT e1 fun n e2 H2 x2 hR2 kp2 _ => ?_
  refine ⟨_, rfl, R.r, _, _, rfl, hR2.ins, rfl, ?_⟩
  refine L_want_sign hR2 hT e2 (k := fun e3 H3 x3 hR3 kp3 _ => ?_)
  let I : List LsWale.Head × Nat × WEnv → L2.St → Hp → Prop := fun i σ H' => σ = [some (.ref R.r)] ∧ RdrAt a K b R i.2.1 0 (lst i.2.2) H' ∧ KeepR R H H' ∧ Ev i.2.2 ∧ readP (stAt b 0 .none_) = moreH n i.1 (stAt b i.2.1 i.2.2)
  let μ : List LsWale.Head × Nat × WEnv → Nat := fun i => (toks b i.2.1).length
  refine while_inv I μ ([], _, _) ⟨rfl, hR3, (kp1.trans kp2).trans kp3, ⟨(fun z => by cases z), (fun z => by cases z)⟩, e3⟩ ?_
  rintro ⟨hs, p4, e4⟩ σ H4 ⟨rfl, hR4, kp4, ev4, h4⟩
  dsimp only at hR4 h4 ev4
  refine L_inT (e := e4) T rfl hR4 hT (fun k pl hb => by rw [h4]; exact hb_moreH hb) fun nb H5 hR5 kp5 => ?_
  rw [heads_in e4]
  cases hh : headS (stAt b p4 e4) with
  | some g =>
    rw [moreH_some hh] at h4
    refine iteT ?_
    refine turn_mk (I := I) (μ := μ) (i := (hs, p4, e4)) ?_
    refine ⟨_, rfl, ?_⟩
    refine L_head hR5 ev4 hh hT h4 (fun x s k pl hb => hb_moreH hb) fun x' p6 e6 ev6 hS6 h6 H6 hR6 kp6 => ?_
    refine ⟨(hs ++ [x'], p6, e6), ?_, rfl, hR6, (kp4.trans kp5).trans kp6, ev6, h6⟩
    exact toks_lt (headS_lt hh) hS6
  | none =>
    rw [moreH_none hh] at h4
    refine iteF ⟨_, rfl, ?_⟩
    refine L_g (m := 9) hR5 (by omega) (by omega) hT h4 (fun x s k pl hb => .inl (hb_endS hb)) fun x7 p7 e7 hS7 h7 H7 hR7 kp7 => ?_
    refine ⟨_, rfl, R.r, _, _, rfl, hR7.ins, rfl, ?_⟩
    refine L_kind hR7 (hT.bt (e := e7) fun k pl hb => .inl (by rw [h7]; exact hb_endS hb)) (fun nb hk H8 y hR8 kp8 _ => ?_) (fun nb hk => ?_)
    · have hd := kd_end.mp hk
      refine kk ⟨(⟨n, hs, x7⟩, stAt b p7 e7), ?_⟩ H8 (((kp4.trans kp5).trans kp7).trans kp8)
      rw [h7, end_at, hd]
    · refine hT.err ?_
      rw [h7, end_at]
      have hnd : tkOf b p7 ≠ .done := fun z => hk (kd_end.mpr z)
      cases q : tkOf b p7 with
      | done => exact absurd q hnd
      | bad k => exact absurd q (nb k)
      | _ => exact wanted_tok nb
end Wale
end
section
set_option Elab.async false
set_option linter.all false
set_option maxRecDepth 100000
set_option maxHeartbeats 2000000
namespace Wale
open PySem PySem.Spec PyProof.Rows L2
open Wm
open LsWale (Fault)
variable {P : Program} {w : World} {K : PySem.W.Frag} {mg : Str → Option Value} {base : Heap} {a : Ad}
theorem lst_none : lst .none_ = noneL := by funext j; cases j <;> rfl
theorem sq_keep {K : PySem.W.Frag} {H H' : Hp} {t x C dx : Addr} {fs : List (Str × V)} {xs : List V} (h : SqL K H t xs) (e : H x = some (.ins C dx fs)) (k : ∀ b o, H b = some o → b ≠ x → H' b = some o) : SqL K H' t xs := by
  rcases h with (h | ⟨o, h⟩) | h
  · exact .inl (.inl (k _ _ h (ne_of h e (fun z => nomatch z))))
  · exact .inl (.inr ⟨o, k _ _ h (ne_of h e (fun z => nomatch z))⟩)
  · exact .inr h
def spRdrInit (K : PySem.W.Frag) (a : Ad) : Sp := fun vs H Q _ => ∃ (x dx t : Addr) (b : Bytes), vs = [.ref x, .ref t] ∧ H x = some (.ins a.c_Reader dx []) ∧ SqL K H t (nums b) ∧ b.length ≤ 20000 ∧
  ∀ (H' : Hp) (R : RA), R.r = x → RdrAt a K b R 0 0 (lst .none_) H' → (∀ b o, H b = some o → b ≠ x → H' b = some o) → Q .non H'
theorem sc_Reader_init : FnScope ["self", "t"] ["self", "t"] (defScope s_Reader_init) := ⟨rfl, rfl, rfl, by decide +kernel, rfl, by decide +kernel, by decide +kernel⟩
theorem ok_Reader_init (T : Tx P w K mg a) : FnOk P w K mg base CX0 3 a.f_Reader_init a.d_Reader_init ["self", "t"] (spRdrInit K a) := by
  refine T.Reader_init.1.ok sc_Reader_init (fun vs H Q E h => ?_) (fun cdv A outer s H vs Q E hr h => ?_)
  · obtain ⟨_, _, _, _, rfl, _⟩ := h; rfl
  obtain ⟨x, dx, t, b, rfl, hx, hS, hl, q⟩ := h
  refine ⟨_, pss_cons (ps_fld (pv 0) (pv 1) rfl) (pss_cons (ps_fld (pv 0) pe_non rfl) (pss_cons (ps_fld (pv 0) pe_int rfl) (pss_cons (ps_fld (pv 0) pe_int rfl)
    (pss_one (ps_fld (pv 0) (pe_make0 T.co_Names.mk_ (ok_Names_init T) hr rfl T.co_Names.at_ T.Names_init.2 .nil pass0) rfl))))), ?_⟩
  have C := T.co_Reader.cl
  refine ⟨_, rfl, _, rfl, x, _, dx, _, rfl, hx, C, T.na_Reader_source, (by show 0 < 1000; decide), ?_⟩
  refine ⟨_, rfl, x, _, dx, _, rfl, upd_same, C, T.na_Reader_ahead, (by show 1 < 1000; decide), ?_⟩
  refine ⟨_, rfl, x, _, dx, _, rfl, upd_same, C, T.na_Reader_after, (by show 2 < 1000; decide), ?_⟩
  refine ⟨_, rfl, x, _, dx, _, rfl, upd_same, C, T.na_Reader_depth, (by show 3 < 1000; decide), ?_⟩
  generalize hH4 : upd (upd (upd (upd H x _) x _) x _) x _ = H4
  have e4 : H4 x = some (.ins a.c_Reader dx [("source", .ref t), ("ahead", .non), ("after", .int 0), ("depth", .int 0)]) := by rw [← hH4]; exact upd_same
  have k4 : ∀ b o, H b = some o → b ≠ x → H4 b = some o := fun b o e hb => by rw [← hH4, upd_ne hb, upd_ne hb, upd_ne hb, upd_ne hb]; exact e
  intro n dn nn nd ne
  refine ⟨n, dn, rfl, upd_same, fun H5 N en nm k5 => ⟨rfl, ?_⟩⟩
  have s5 : Same H4 H5 := Same.made nn nd k5
  refine ⟨_, rfl, x, _, dx, _, rfl, s5 _ _ e4, C, T.na_Reader_names, (by show 4 < 1000; decide), ?_⟩
  obtain ⟨k1, e1, t1⟩ := nm.tdk
  obtain ⟨k2, e2, t2⟩ := nm.sdk
  obtain ⟨k3, e3, t3⟩ := nm.adk
  obtain ⟨d0, e0⟩ := nm.obj
  have ex := s5 _ _ e4
  have nx : N.n ≠ x := by
    rw [en]
    exact fun z => by rw [z, e4] at nn; cases nn
  subst en
  refine q _ ⟨x, t, N⟩ rfl ⟨⟨dx, .non, upd_same, .inl rfl⟩, ?_, ?_, hl, Nat.zero_le _⟩ fun c o ec hc => ?_
  · exact sq_keep hS hx fun c o ec hc => by rw [upd_ne hc]; exact s5 _ _ (k4 c o ec hc)
  · rw [lst_none]
    refine ⟨⟨d0, ?_⟩, ⟨k1, ?_, t1⟩, ⟨k2, ?_, t2⟩, ⟨k3, ?_, t3⟩, nm.ne, nm.bd⟩
    · rw [upd_ne nx]; exact e0
    · rw [upd_ne (ne_of e1 ex (fun z => nomatch z))]; exact e1
    · rw [upd_ne (ne_of e2 ex (fun z => nomatch z))]; exact e2
    · rw [upd_ne (ne_of e3 ex (fun z => nomatch z))]; exact e3
  · rw [upd_ne hc]; exact s5 _ _ (k4 c o ec hc)
def spText (K : PySem.W.Frag) (a : Ad) : Sp := fun vs H Q E => ∃ (t : Addr) (b : Bytes), vs = [.ref t] ∧ SqL K H t (nums b) ∧ b.length ≤ 20000 ∧ (∀ k pl : Nat, LsWale.readAll b = .error ⟨k, pl⟩ → Told K a E k pl) ∧ ((∃ x, LsWale.readAll b = .ok x) → ∀ H' : Hp, Q .non H')
theorem sc_read_text : FnScope ["t"] ["t"] (defScope s_read_text) := ⟨rfl, rfl, rfl, by decide +kernel, rfl, by decide +kernel, by decide +kernel⟩
theorem bad_readP {b : Bytes} {k pl : Nat} (h : Bad (readP (stAt b 0 .none_)) k pl) : readP (stAt b 0 .none_) = .error ⟨k, pl⟩ := by
  rcases h with h | ⟨x, s, h, hb⟩
  · exact h
  · exfalso
    unfold readP at h
    have step : ∀ {α β : Type} {r : Except Fault α} {f : α → Except Fault β} {y : β}, (r >>= f) = .ok y → ∃ z, r = .ok z ∧ f z = .ok y := fun {α β r f y} q => by
      cases r with
      | error f => cases q
      | ok z => exact ⟨z, rfl, q⟩
    obtain ⟨s1, _, h⟩ := step h
    obtain ⟨n, _, h⟩ := step h
    obtain ⟨t, _, h⟩ := step h
    obtain ⟨hs, _, h⟩ := step h
    obtain ⟨⟨x2, ⟨ts, en⟩⟩, _, h⟩ := step h
    obtain ⟨rr, hb⟩ := hb
    unfold endS at h
    cases ts with
    | nil => cases h
    | cons tk r =>
      obtain ⟨q, tt⟩ := tk
      cases tt with
      | done => cases h; cases hb
      | _ => cases h
theorem ok_read_text (T : Tx P w K mg a) : FnOk P w K mg base (CXF P w) 99 a.f_read_text a.d_read_text ["t"] (spText K a) := by
  refine Fun.okx (k := 98) T.read_text.fn sc_read_text (fun vs H Q E h => ?_) (fun cdv A outer s H vs Q E hr h => ?_)
  · obtain ⟨_, _, rfl, _⟩ := h; rfl
  obtain ⟨t, b, rfl, hS, hl, k1, k2⟩ := h
  refine ⟨_, pss_cons (ps_if (pt_cmpR op_gt (len_call T.b_len (pv 0)) (pk_int T.k_LONGEST_TEXT) (nomark _)) (pss_one (ps_fault rfl raises_def T.cx_BoundFault (ok_BoundFault_init T) T.BoundFault_init.2 (hr.mono (by omega)) (pk_int T.k_LONGEST_TEXT))) pss_nil)
    (pss_one (ps_expr (callD T.read_pattern (ok_read_pattern T) hr passes_def (pa_cons (pe_make T.co_Reader.mk_ (ok_Reader_init T) (hr.mono (by omega)) rfl T.co_Reader.at_ T.Reader_init.2 .nil pass0 (pa_cons (pv 0) pa_nil)) pa_nil)))), ?_⟩
  refine ⟨_, rfl, t, _, rfl, .inl hS, _, _, rfl, rfl, _, rfl, ?_⟩
  rw [nums_len]
  refine ite2 (fun c => ?_) (fun c => ?_)
  · have c' : LsWale.MOST < b.length := by have := of_decide_eq_true c; show 16384 < b.length; omega
    exact flt_ok T.cx_BoundFault (k1 6 16384 (by unfold LsWale.readAll; rw [if_pos c']; rfl))
  have c' : b.length ≤ LsWale.MOST := by
    have : ¬ ((16384 : Int) < b.length) := fun z => c (decide_eq_true z)
    show b.length ≤ 16384
    omega
  refine ⟨_, rfl, fun x dx nx nd ne => ?_⟩
  refine ⟨x, dx, t, b, rfl, upd_same, ?_, hl, fun H' R er hR kp => ⟨rfl, b, R, (by rw [er]; rfl), hR, fun k pl hb => k1 k pl ?_, fun ⟨x, hx⟩ H2 _ => k2 ⟨(x.1, x.2.env), ?_⟩ H2⟩⟩
  · have s1 : Same H (upd (upd H dx (.own x)) x (.ins a.c_Reader dx [])) := fun c o ec => by rw [upd_ne (ne_of_none ec nx), upd_ne (ne_of_none ec nd)]; exact ec
    exact s1.seq hS
  · rw [readAll_eq c', readP_eq, bad_readP hb]; rfl
  · rw [readAll_eq c', readP_eq, hx]; rfl
end Wale
end
section
set_option Elab.async false
set_option linter.all false
set_option maxRecDepth 100000
set_option maxHeartbeats 2000000
namespace Wale
open PySem PySem.Spec PyProof.Rows L2
open Wm
open LsWale (Fault)
variable {P : Program} {w : World} {K : PySem.W.Frag} {mg : Str → Option Value} {base : Heap} {a : Ad}
def ans (b : Bytes) : List Int := match LsWale.readAll b with
  | .error f => [-(f.kind : Int), (f.place : Int)]
  | .ok _ => [0]
def spJudge (K : PySem.W.Frag) : Sp := fun vs H Q _ => ∃ (t : Addr) (b : Bytes), vs = [.ref t] ∧ SqL K H t (nums b) ∧ b.length ≤ 20000 ∧ ∀ (H' : Hp) (p : Addr), H' p = some (.lst ((ans b).map V.int)) → Q (.ref p) H'
theorem sc_judge : FnScope ["t", "fault"] ["t"] (defScope s_judge) := ⟨rfl, rfl, rfl, by decide +kernel, rfl, by decide +kernel, by decide +kernel⟩
theorem ok_judge (T : Tx P w K mg a) : FnOk P w K mg base CX0 100 a.f_judge a.d_judge ["t"] (spJudge K) := by
  refine Fun.ok (k := 99) T.judge.fn sc_judge (fun vs H Q E h => ?_) (fun cdv A outer s H vs Q E hr h => ?_)
  · obtain ⟨_, _, rfl, _⟩ := h; rfl
  obtain ⟨t, b, rfl, hS, hl, q⟩ := h
  refine ⟨_, pss_cons (ps_try (i := 1) (n := "fault") sc_judge.nd rfl rfl rfl T.cF_Fault.1 T.cF_Fault.2.2 rfl rfl rfl (fun E pn Ec hp => pss_one (ps_expr (callD T.read_text (ok_read_text T) hr hp (pa_cons (pv 0) pa_nil))))
      (fun ea pn => pss_one (ps_ret (pe_lst (pa_cons (pe_un un_neg (pe_xget (pv 1) rfl)) (pa_cons (pe_xget (pv 1) rfl) pa_nil))))))
    (pss_one (ps_ret (pe_lst (pa_cons pe_int pa_nil)))), ?_⟩
  refine ⟨_, rfl, t, b, rfl, hS, hl, fun k pl hk => ?_, fun ⟨x, hx⟩ H' => ?_⟩
  · intro C d H' hE hd
    obtain ⟨xc, xg, sub, nk, np⟩ := hE
    refine ⟨C, d, rfl, rfl, xc, sub, fun ea oe vs pn hp hc hdd hv => ?_⟩
    refine ⟨_, rfl, ea, oe, C, d, _, _, vs, rfl, hp, hc, hdd, hv, hd, xg, nk, rfl, _, rfl, _, rfl, ea, oe, C, d, _, _, vs, rfl, hp, hc, hdd, hv, hd, xg, np, rfl, (by show 2 ≤ sizeLine; decide), fun p hp => q _ p ?_⟩
    unfold ans
    rw [hk]
    exact upd_same
  · refine ⟨(by show 1 ≤ sizeLine; decide), fun p hp => q _ p ?_⟩
    unfold ans
    rw [hx]
    exact upd_same
end Wale
end
section
set_option Elab.async false
set_option linter.all false
set_option maxRecDepth 100000
set_option maxHeartbeats 2000000
namespace Wale
open PySem PySem.Spec PyProof.Rows L2
open LsWale (Fault)
def toB (t : List Int) : Bytes := t.map fun (n : Int) => UInt8.ofNat n.toNat
theorem toB_len (t : List Int) : (toB t).length = t.length := by simp [toB]
theorem nums_toB : ∀ (t : List Int), NeutralIO.bytes t = true → nums (toB t) = t.map V.int
  | [], _ => rfl
  | n :: r, h => by
    unfold NeutralIO.bytes at h
    rw [List.all_cons, Bool.and_eq_true, Bool.and_eq_true, decide_eq_true_eq, decide_eq_true_eq] at h
    have hr := nums_toB r (by unfold NeutralIO.bytes; exact h.2)
    have e : (((UInt8.ofNat n.toNat).toNat : Nat) : Int) = n := by
      rw [UInt8.toNat_ofNat']
      have := h.1.1; have := h.1.2
      omega
    unfold nums toB at hr ⊢
    rw [List.map_cons, List.map_cons, List.map_cons, hr, e]
theorem callOf_judge (t : List Int) (h : NeutralIO.bytes t = true) : WaleNeutral.callOf [[1], t] = some (.judge (toB t)) := by
  show (WaleNeutral.text? t >>= fun x => some (LsWaleCalls.Call.judge x)) = _
  unfold WaleNeutral.text?
  rw [if_pos h]
  rfl
theorem judge_ans (t : List Int) (h : NeutralIO.bytes t = true) : PyWqbabh.judge t = ans (toB t) := by
  unfold PyWqbabh.judge WaleNeutral.f
  rw [callOf_judge t h]
  have e : LsWaleCalls.answer (.judge (toB t)) = match LsWale.readAll (toB t) with
      | .error e => LsWaleCalls.told e
      | .ok _ => LsWaleCalls.says 0 := by
    show (match LsWale.read (toB t) with
      | .error e => LsWaleCalls.told e
      | .ok _ => LsWaleCalls.says 0) = _
    unfold LsWale.read
    cases LsWale.readAll (toB t) <;> rfl
  dsimp only
  rw [e]
  unfold ans
  cases LsWale.readAll (toB t) <;> rfl
theorem within_bytes (t : List Int) (h : PySem.W.Codec.inList 0 20000 (PySem.W.Codec.inInt 0 255) t = true) : NeutralIO.bytes t = true ∧ t.length ≤ 20000 := by
  unfold PySem.W.Codec.inList PySem.W.Codec.inLen PySem.W.Codec.inNat at h
  rw [Bool.and_eq_true, Bool.and_eq_true, decide_eq_true_eq] at h
  exact ⟨h.2, of_decide_eq_true h.1.2⟩
theorem judge_S : ∀ (K : PySem.W.Frag) (H : Hp) (xs : List V) (a : PySem.W.Codec.denoteAll PySem.Challenge.rw_waletexts_s01_judge.args), OnlyF H → PySem.W.Codec.withinAll PySem.Challenge.rw_waletexts_s01_judge.args a = true → PySem.W.Codec.app PySem.Challenge.rw_waletexts_s01_judge.args PySem.Challenge.rw_waletexts_s01_judge.asked a = true → DwAll K H xs (PySem.W.Codec.encAll PySem.Challenge.rw_waletexts_s01_judge.args a) →
      spJudge K xs H (fun v H' => Dw K H' v (PySem.Challenge.rw_waletexts_s01_judge.ret.enc (PySem.W.Codec.app PySem.Challenge.rw_waletexts_s01_judge.args PySem.Challenge.rw_waletexts_s01_judge.f a))) fun _ _ _ => False := by
  intro K H xs a _ hw _ hx
  obtain ⟨t, u⟩ := a
  change List Int at t
  have hw1 : PySem.W.Codec.inList 0 20000 (PySem.W.Codec.inInt 0 255) t = true := by
    have : (PySem.W.Codec.inList 0 20000 (PySem.W.Codec.inInt 0 255) t && _) = true := hw
    exact (Bool.and_eq_true_iff.mp this).1
  have hb := within_bytes t hw1
  have hx' : DwAll K H xs [.list (t.map PySem.W.WData.int)] := hx
  cases hx' with
  | cons h1 h2 =>
    cases h2
    cases h1 with
    | lst hs hd =>
      rename_i ad ys
      have ey := ints_dw t ys hd
      refine ⟨ad, toB t, rfl, ?_, by rw [toB_len]; exact hb.2, fun H' p hp => ?_⟩
      · rw [nums_toB t hb.1, ← ey]; exact hs
      · show Dw K H' (.ref p) (.list ((PyWqbabh.judge t).map PySem.W.WData.int))
        rw [judge_ans t hb.1]
        exact .lst (SqL.of hp) (dw_ints _)
end Wale
end
section
set_option Elab.async false
set_option linter.all false
set_option maxRecDepth 100000
set_option maxHeartbeats 4000000
namespace Wale
open PySem PySem.Spec PyProof.Rows L2
theorem _root_.L2.xc_mk {K : PySem.W.Frag} {C : Addr} {nm q : Str} {N : Addr} {bs bm : List Value} {sn sub ab col dd k0 k1 k2 k3 k5} (e : K.lookup C = some (excClassObj nm q C N bs bm true sn sub ab col dd k0 k1 k2 k3 k5 "Exception.__new__")) (h : excTail bm = true) : xcIn K C = true := by
  unfold xcIn
  rw [e]
  unfold excClassObj
  simp [h]
theorem all_mk {P : Program} {w : World} {K : PySem.W.Frag} {h : Heap} {mg : Str → Option Value} {fa : Addr} {c_Fault : Addr} {c_ByteFault : Addr} {c_NumberFault : Addr} {c_WantFault : Addr} {c_UntoldFault : Addr} {c_AgainFault : Addr} {c_BoundFault : Addr} {c_SumsFault : Addr} {c_Names : Addr} {c_Token : Addr} {c_Reader : Addr} {t_BOUNDS : Addr} {t_DIGIT_WORDS : Addr} {t_PLAIN : Addr} {t_OTHER_WORDS : Addr} {t_SIGNS : Addr} {t_HEADS : Addr} {t_STATS : Addr} {t_LONES : Addr} {f_token_at : Addr} {oc_token_at kV_token_at dc_token_at pm_token_at cd_token_at ct_token_at : Value} {od_token_at an_token_at : Option Addr} {sl_token_at : Array (Option Value)} {f_skip_blanks : Addr} {oc_skip_blanks kV_skip_blanks dc_skip_blanks pm_skip_blanks cd_skip_blanks ct_skip_blanks : Value} {od_skip_blanks an_skip_blanks : Option Addr} {sl_skip_blanks : Array (Option Value)} {f_skip_comment : Addr} {oc_skip_comment kV_skip_comment dc_skip_comment pm_skip_comment cd_skip_comment ct_skip_comment : Value} {od_skip_comment an_skip_comment : Option Addr} {sl_skip_comment : Array (Option Value)} {f_word_token : Addr} {oc_word_token kV_word_token dc_word_token pm_word_token cd_word_token ct_word_token : Value} {od_word_token an_word_token : Option Addr} {sl_word_token : Array (Option Value)} {f_digit_word_at : Addr} {oc_digit_word_at kV_digit_word_at dc_digit_word_at pm_digit_word_at cd_digit_word_at ct_digit_word_at : Value} {od_digit_word_at an_digit_word_at : Option Addr} {sl_digit_word_at : Array (Option Value)} {f_number_token : Addr} {oc_number_token kV_number_token dc_number_token pm_number_token cd_number_token ct_number_token : Value} {od_number_token an_number_token : Option Addr} {sl_number_token : Array (Option Value)} {f_spelled : Addr} {oc_spelled kV_spelled dc_spelled pm_spelled cd_spelled ct_spelled : Value} {od_spelled an_spelled : Option Addr} {sl_spelled : Array (Option Value)} {f_sign_of : Addr} {oc_sign_of kV_sign_of dc_sign_of pm_sign_of cd_sign_of ct_sign_of : Value} {od_sign_of an_sign_of : Option Addr} {sl_sign_of : Array (Option Value)} {f_is_letter : Addr} {oc_is_letter kV_is_letter dc_is_letter pm_is_letter cd_is_letter ct_is_letter : Value} {od_is_letter an_is_letter : Option Addr} {sl_is_letter : Array (Option Value)} {f_is_digit : Addr} {oc_is_digit kV_is_digit dc_is_digit pm_is_digit cd_is_digit ct_is_digit : Value} {od_is_digit an_is_digit : Option Addr} {sl_is_digit : Array (Option Value)} {f_is_letter_digit_or_underscore : Addr} {oc_is_letter_digit_or_underscore kV_is_letter_digit_or_underscore dc_is_letter_digit_or_underscore pm_is_letter_digit_or_underscore cd_is_letter_digit_or_underscore ct_is_letter_digit_or_underscore : Value} {od_is_letter_digit_or_underscore an_is_letter_digit_or_underscore : Option Addr} {sl_is_letter_digit_or_underscore : Array (Option Value)} {f_read_pattern : Addr} {oc_read_pattern kV_read_pattern dc_read_pattern pm_read_pattern cd_read_pattern ct_read_pattern : Value} {od_read_pattern an_read_pattern : Option Addr} {sl_read_pattern : Array (Option Value)} {f_read_head : Addr} {oc_read_head kV_read_head dc_read_head pm_read_head cd_read_head ct_read_head : Value} {od_read_head an_read_head : Option Addr} {sl_read_head : Array (Option Value)} {f_read_sizes : Addr} {oc_read_sizes kV_read_sizes dc_read_sizes pm_read_sizes cd_read_sizes ct_read_sizes : Value} {od_read_sizes an_read_sizes : Option Addr} {sl_read_sizes : Array (Option Value)} {f_read_yarns : Addr} {oc_read_yarns kV_read_yarns dc_read_yarns pm_read_yarns cd_read_yarns ct_read_yarns : Value} {od_read_yarns an_read_yarns : Option Addr} {sl_read_yarns : Array (Option Value)} {f_read_new_names : Addr} {oc_read_new_names kV_read_new_names dc_read_new_names pm_read_new_names cd_read_new_names ct_read_new_names : Value} {od_read_new_names an_read_new_names : Option Addr} {sl_read_new_names : Array (Option Value)} {f_read_let : Addr} {oc_read_let kV_read_let dc_read_let pm_read_let cd_read_let ct_read_let : Value} {od_read_let an_read_let : Option Addr} {sl_read_let : Array (Option Value)} {f_read_word : Addr} {oc_read_word kV_read_word dc_read_word pm_read_word cd_read_word ct_read_word : Value} {od_read_word an_read_word : Option Addr} {sl_read_word : Array (Option Value)} {f_read_block : Addr} {oc_read_block kV_read_block dc_read_block pm_read_block cd_read_block ct_read_block : Value} {od_read_block an_read_block : Option Addr} {sl_read_block : Array (Option Value)} {f_read_braces : Addr} {oc_read_braces kV_read_braces dc_read_braces pm_read_braces cd_read_braces ct_read_braces : Value} {od_read_braces an_read_braces : Option Addr} {sl_read_braces : Array (Option Value)} {f_read_stats : Addr} {oc_read_stats kV_read_stats dc_read_stats pm_read_stats cd_read_stats ct_read_stats : Value} {od_read_stats an_read_stats : Option Addr} {sl_read_stats : Array (Option Value)} {f_read_stat : Addr} {oc_read_stat kV_read_stat dc_read_stat pm_read_stat cd_read_stat ct_read_stat : Value} {od_read_stat an_read_stat : Option Addr} {sl_read_stat : Array (Option Value)} {f_read_row : Addr} {oc_read_row kV_read_row dc_read_row pm_read_row cd_read_row ct_read_row : Value} {od_read_row an_read_row : Option Addr} {sl_read_row : Array (Option Value)} {f_read_work : Addr} {oc_read_work kV_read_work dc_read_work pm_read_work cd_read_work ct_read_work : Value} {od_read_work an_read_work : Option Addr} {sl_read_work : Array (Option Value)} {f_read_row_items : Addr} {oc_read_row_items kV_read_row_items dc_read_row_items pm_read_row_items cd_read_row_items ct_read_row_items : Value} {od_read_row_items an_read_row_items : Option Addr} {sl_read_row_items : Array (Option Value)} {f_read_row_item : Addr} {oc_read_row_item kV_read_row_item dc_read_row_item pm_read_row_item cd_read_row_item ct_read_row_item : Value} {od_read_row_item an_read_row_item : Option Addr} {sl_read_row_item : Array (Option Value)} {f_read_goal : Addr} {oc_read_goal kV_read_goal dc_read_goal pm_read_goal cd_read_goal ct_read_goal : Value} {od_read_goal an_read_goal : Option Addr} {sl_read_goal : Array (Option Value)} {f_read_unit : Addr} {oc_read_unit kV_read_unit dc_read_unit pm_read_unit cd_read_unit ct_read_unit : Value} {od_read_unit an_read_unit : Option Addr} {sl_read_unit : Array (Option Value)} {f_read_crossing : Addr} {oc_read_crossing kV_read_crossing dc_read_crossing pm_read_crossing cd_read_crossing ct_read_crossing : Value} {od_read_crossing an_read_crossing : Option Addr} {sl_read_crossing : Array (Option Value)} {f_read_crossing_number : Addr} {oc_read_crossing_number kV_read_crossing_number dc_read_crossing_number pm_read_crossing_number cd_read_crossing_number ct_read_crossing_number : Value} {od_read_crossing_number an_read_crossing_number : Option Addr} {sl_read_crossing_number : Array (Option Value)} {f_read_lone : Addr} {oc_read_lone kV_read_lone dc_read_lone pm_read_lone cd_read_lone ct_read_lone : Value} {od_read_lone an_read_lone : Option Addr} {sl_read_lone : Array (Option Value)} {f_begins_sum : Addr} {oc_begins_sum kV_begins_sum dc_begins_sum pm_begins_sum cd_begins_sum ct_begins_sum : Value} {od_begins_sum an_begins_sum : Option Addr} {sl_begins_sum : Array (Option Value)} {f_read_sum : Addr} {oc_read_sum kV_read_sum dc_read_sum pm_read_sum cd_read_sum ct_read_sum : Value} {od_read_sum an_read_sum : Option Addr} {sl_read_sum : Array (Option Value)} {f_read_product : Addr} {oc_read_product kV_read_product dc_read_product pm_read_product cd_read_product ct_read_product : Value} {od_read_product an_read_product : Option Addr} {sl_read_product : Array (Option Value)} {f_read_factor : Addr} {oc_read_factor kV_read_factor dc_read_factor pm_read_factor cd_read_factor ct_read_factor : Value} {od_read_factor an_read_factor : Option Addr} {sl_read_factor : Array (Option Value)} {f_judge : Addr} {oc_judge kV_judge dc_judge pm_judge cd_judge ct_judge : Value} {od_judge an_judge : Option Addr} {sl_judge : Array (Option Value)} {f_read_text : Addr} {oc_read_text kV_read_text dc_read_text pm_read_text cd_read_text ct_read_text : Value} {od_read_text an_read_text : Option Addr} {sl_read_text : Array (Option Value)} {f_Fault_init : Addr} {oc_Fault_init kV_Fault_init dc_Fault_init pm_Fault_init cd_Fault_init ct_Fault_init : Value} {od_Fault_init an_Fault_init : Option Addr} {sl_Fault_init : Array (Option Value)} {f_ByteFault_init : Addr} {oc_ByteFault_init kV_ByteFault_init dc_ByteFault_init pm_ByteFault_init cd_ByteFault_init ct_ByteFault_init : Value} {od_ByteFault_init an_ByteFault_init : Option Addr} {sl_ByteFault_init : Array (Option Value)} {f_NumberFault_init : Addr} {oc_NumberFault_init kV_NumberFault_init dc_NumberFault_init pm_NumberFault_init cd_NumberFault_init ct_NumberFault_init : Value} {od_NumberFault_init an_NumberFault_init : Option Addr} {sl_NumberFault_init : Array (Option Value)} {f_WantFault_init : Addr} {oc_WantFault_init kV_WantFault_init dc_WantFault_init pm_WantFault_init cd_WantFault_init ct_WantFault_init : Value} {od_WantFault_init an_WantFault_init : Option Addr} {sl_WantFault_init : Array (Option Value)} {f_UntoldFault_init : Addr} {oc_UntoldFault_init kV_UntoldFault_init dc_UntoldFault_init pm_UntoldFault_init cd_UntoldFault_init ct_UntoldFault_init : Value} {od_UntoldFault_init an_UntoldFault_init : Option Addr} {sl_UntoldFault_init : Array (Option Value)} {f_AgainFault_init : Addr} {oc_AgainFault_init kV_AgainFault_init dc_AgainFault_init pm_AgainFault_init cd_AgainFault_init ct_AgainFault_init : Value} {od_AgainFault_init an_AgainFault_init : Option Addr} {sl_AgainFault_init : Array (Option Value)} {f_BoundFault_init : Addr} {oc_BoundFault_init kV_BoundFault_init dc_BoundFault_init pm_BoundFault_init cd_BoundFault_init ct_BoundFault_init : Value} {od_BoundFault_init an_BoundFault_init : Option Addr} {sl_BoundFault_init : Array (Option Value)} {f_SumsFault_init : Addr} {oc_SumsFault_init kV_SumsFault_init dc_SumsFault_init pm_SumsFault_init cd_SumsFault_init ct_SumsFault_init : Value} {od_SumsFault_init an_SumsFault_init : Option Addr} {sl_SumsFault_init : Array (Option Value)} {f_Names_init : Addr} {oc_Names_init kV_Names_init dc_Names_init pm_Names_init cd_Names_init ct_Names_init : Value} {od_Names_init an_Names_init : Option Addr} {sl_Names_init : Array (Option Value)} {f_Names_amount : Addr} {oc_Names_amount kV_Names_amount dc_Names_amount pm_Names_amount cd_Names_amount ct_Names_amount : Value} {od_Names_amount an_Names_amount : Option Addr} {sl_Names_amount : Array (Option Value)} {f_Names_check_new : Addr} {oc_Names_check_new kV_Names_check_new dc_Names_check_new pm_Names_check_new cd_Names_check_new ct_Names_check_new : Value} {od_Names_check_new an_Names_check_new : Option Addr} {sl_Names_check_new : Array (Option Value)} {f_Names_check_room : Addr} {oc_Names_check_room kV_Names_check_room dc_Names_check_room pm_Names_check_room cd_Names_check_room ct_Names_check_room : Value} {od_Names_check_room an_Names_check_room : Option Addr} {sl_Names_check_room : Array (Option Value)} {f_Names_tell : Addr} {oc_Names_tell kV_Names_tell dc_Names_tell pm_Names_tell cd_Names_tell ct_Names_tell : Value} {od_Names_tell an_Names_tell : Option Addr} {sl_Names_tell : Array (Option Value)} {f_Names_check_told : Addr} {oc_Names_check_told kV_Names_check_told dc_Names_check_told pm_Names_check_told cd_Names_check_told ct_Names_check_told : Value} {od_Names_check_told an_Names_check_told : Option Addr} {sl_Names_check_told : Array (Option Value)} {f_Names_stand : Addr} {oc_Names_stand kV_Names_stand dc_Names_stand pm_Names_stand cd_Names_stand ct_Names_stand : Value} {od_Names_stand an_Names_stand : Option Addr} {sl_Names_stand : Array (Option Value)} {f_Token_init : Addr} {oc_Token_init kV_Token_init dc_Token_init pm_Token_init cd_Token_init ct_Token_init : Value} {od_Token_init an_Token_init : Option Addr} {sl_Token_init : Array (Option Value)} {f_Reader_init : Addr} {oc_Reader_init kV_Reader_init dc_Reader_init pm_Reader_init cd_Reader_init ct_Reader_init : Value} {od_Reader_init an_Reader_init : Option Addr} {sl_Reader_init : Array (Option Value)} {f_Reader_peek : Addr} {oc_Reader_peek kV_Reader_peek dc_Reader_peek pm_Reader_peek cd_Reader_peek ct_Reader_peek : Value} {od_Reader_peek an_Reader_peek : Option Addr} {sl_Reader_peek : Array (Option Value)} {f_Reader_step : Addr} {oc_Reader_step kV_Reader_step dc_Reader_step pm_Reader_step cd_Reader_step ct_Reader_step : Value} {od_Reader_step an_Reader_step : Option Addr} {sl_Reader_step : Array (Option Value)} {f_Reader_skip : Addr} {oc_Reader_skip kV_Reader_skip dc_Reader_skip pm_Reader_skip cd_Reader_skip ct_Reader_skip : Value} {od_Reader_skip an_Reader_skip : Option Addr} {sl_Reader_skip : Array (Option Value)} {f_Reader_want : Addr} {oc_Reader_want kV_Reader_want dc_Reader_want pm_Reader_want cd_Reader_want ct_Reader_want : Value} {od_Reader_want an_Reader_want : Option Addr} {sl_Reader_want : Array (Option Value)} {f_Reader_want_kind : Addr} {oc_Reader_want_kind kV_Reader_want_kind dc_Reader_want_kind pm_Reader_want_kind cd_Reader_want_kind ct_Reader_want_kind : Value} {od_Reader_want_kind an_Reader_want_kind : Option Addr} {sl_Reader_want_kind : Array (Option Value)} {f_Reader_enter : Addr} {oc_Reader_enter kV_Reader_enter dc_Reader_enter pm_Reader_enter cd_Reader_enter ct_Reader_enter : Value} {od_Reader_enter an_Reader_enter : Option Addr} {sl_Reader_enter : Array (Option Value)} {f_Reader_leave : Addr} {oc_Reader_leave kV_Reader_leave dc_Reader_leave pm_Reader_leave cd_Reader_leave ct_Reader_leave : Value} {od_Reader_leave an_Reader_leave : Option Addr} {sl_Reader_leave : Array (Option Value)} {f_Reader_want_new_name : Addr} {oc_Reader_want_new_name kV_Reader_want_new_name dc_Reader_want_new_name pm_Reader_want_new_name cd_Reader_want_new_name ct_Reader_want_new_name : Value} {od_Reader_want_new_name an_Reader_want_new_name : Option Addr} {sl_Reader_want_new_name : Array (Option Value)} {f_Reader_want_told_name : Addr} {oc_Reader_want_told_name kV_Reader_want_told_name dc_Reader_want_told_name pm_Reader_want_told_name cd_Reader_want_told_name ct_Reader_want_told_name : Value} {od_Reader_want_told_name an_Reader_want_told_name : Option Addr} {sl_Reader_want_told_name : Array (Option Value)} {f_Reader_want_standing_name : Addr} {oc_Reader_want_standing_name kV_Reader_want_standing_name dc_Reader_want_standing_name pm_Reader_want_standing_name cd_Reader_want_standing_name ct_Reader_want_standing_name : Value} {od_Reader_want_standing_name an_Reader_want_standing_name : Option Addr} {sl_Reader_want_standing_name : Array (Option Value)} {nm_Fault q_Fault : Str} {N_Fault : Addr} {bs_Fault bm_Fault sub_Fault : List Value} {sn_Fault : List Str} {ab_Fault : Bool} {col_Fault : Option Bool} {dd_Fault : Option Addr} {y0_Fault y1_Fault y2_Fault y3_Fault y5_Fault : Option Value} {nm_ByteFault q_ByteFault : Str} {N_ByteFault : Addr} {bs_ByteFault bm_ByteFault sub_ByteFault : List Value} {sn_ByteFault : List Str} {ab_ByteFault : Bool} {col_ByteFault : Option Bool} {dd_ByteFault : Option Addr} {y0_ByteFault y1_ByteFault y2_ByteFault y3_ByteFault y5_ByteFault : Option Value} {nm_NumberFault q_NumberFault : Str} {N_NumberFault : Addr} {bs_NumberFault bm_NumberFault sub_NumberFault : List Value} {sn_NumberFault : List Str} {ab_NumberFault : Bool} {col_NumberFault : Option Bool} {dd_NumberFault : Option Addr} {y0_NumberFault y1_NumberFault y2_NumberFault y3_NumberFault y5_NumberFault : Option Value} {nm_WantFault q_WantFault : Str} {N_WantFault : Addr} {bs_WantFault bm_WantFault sub_WantFault : List Value} {sn_WantFault : List Str} {ab_WantFault : Bool} {col_WantFault : Option Bool} {dd_WantFault : Option Addr} {y0_WantFault y1_WantFault y2_WantFault y3_WantFault y5_WantFault : Option Value} {nm_UntoldFault q_UntoldFault : Str} {N_UntoldFault : Addr} {bs_UntoldFault bm_UntoldFault sub_UntoldFault : List Value} {sn_UntoldFault : List Str} {ab_UntoldFault : Bool} {col_UntoldFault : Option Bool} {dd_UntoldFault : Option Addr} {y0_UntoldFault y1_UntoldFault y2_UntoldFault y3_UntoldFault y5_UntoldFault : Option Value} {nm_AgainFault q_AgainFault : Str} {N_AgainFault : Addr} {bs_AgainFault bm_AgainFault sub_AgainFault : List Value} {sn_AgainFault : List Str} {ab_AgainFault : Bool} {col_AgainFault : Option Bool} {dd_AgainFault : Option Addr} {y0_AgainFault y1_AgainFault y2_AgainFault y3_AgainFault y5_AgainFault : Option Value} {nm_BoundFault q_BoundFault : Str} {N_BoundFault : Addr} {bs_BoundFault bm_BoundFault sub_BoundFault : List Value} {sn_BoundFault : List Str} {ab_BoundFault : Bool} {col_BoundFault : Option Bool} {dd_BoundFault : Option Addr} {y0_BoundFault y1_BoundFault y2_BoundFault y3_BoundFault y5_BoundFault : Option Value} {nm_SumsFault q_SumsFault : Str} {N_SumsFault : Addr} {bs_SumsFault bm_SumsFault sub_SumsFault : List Value} {sn_SumsFault : List Str} {ab_SumsFault : Bool} {col_SumsFault : Option Bool} {dd_SumsFault : Option Addr} {y0_SumsFault y1_SumsFault y2_SumsFault y3_SumsFault y5_SumsFault : Option Value} {k_SIZES : Tok} {k_YARNS : Tok} {k_NUMBERS : Tok} {k_WORDS : Tok} {k_BLOCKS : Tok} {k_MARKERS : Tok} {k_HOLDERS : Tok} {k_BOUNDS0 v_BOUNDS0 k_BOUNDS1 v_BOUNDS1 k_BOUNDS2 v_BOUNDS2 k_BOUNDS3 v_BOUNDS3 k_BOUNDS4 v_BOUNDS4 k_BOUNDS5 v_BOUNDS5 k_BOUNDS6 v_BOUNDS6 : Tok} {x_BOUNDS0 x_BOUNDS1 x_BOUNDS2 x_BOUNDS3 x_BOUNDS4 x_BOUNDS5 x_BOUNDS6 : Int} {ep_BOUNDS : Nat} {k_END : Tok} {k_NAME : Tok} {k_NUMBER : Tok} {k_FIXED : Tok} {k_DIGIT_WORDS0 k_DIGIT_WORDS1 k_DIGIT_WORDS2 k_DIGIT_WORDS3 k_DIGIT_WORDS4 : Tok} {oc_DIGIT_WORDS : Option Addr} {n_DIGIT_WORDS : Nat} {sl_DIGIT_WORDS : Array (Option Value)} {k_LONGEST_DIGIT_WORD : Tok} {k_PLAIN0 k_PLAIN1 k_PLAIN2 k_PLAIN3 k_PLAIN4 k_PLAIN5 k_PLAIN6 k_PLAIN7 k_PLAIN8 k_PLAIN9 k_PLAIN10 k_PLAIN11 k_PLAIN12 k_PLAIN13 k_PLAIN14 k_PLAIN15 k_PLAIN16 k_PLAIN17 k_PLAIN18 k_PLAIN19 k_PLAIN20 k_PLAIN21 k_PLAIN22 : Tok} {oc_PLAIN : Option Addr} {n_PLAIN : Nat} {sl_PLAIN : Array (Option Value)} {k_OTHER_WORDS0 k_OTHER_WORDS1 k_OTHER_WORDS2 k_OTHER_WORDS3 k_OTHER_WORDS4 k_OTHER_WORDS5 k_OTHER_WORDS6 k_OTHER_WORDS7 k_OTHER_WORDS8 k_OTHER_WORDS9 k_OTHER_WORDS10 k_OTHER_WORDS11 k_OTHER_WORDS12 k_OTHER_WORDS13 k_OTHER_WORDS14 k_OTHER_WORDS15 k_OTHER_WORDS16 k_OTHER_WORDS17 k_OTHER_WORDS18 k_OTHER_WORDS19 k_OTHER_WORDS20 k_OTHER_WORDS21 k_OTHER_WORDS22 k_OTHER_WORDS23 k_OTHER_WORDS24 k_OTHER_WORDS25 k_OTHER_WORDS26 k_OTHER_WORDS27 : Tok} {oc_OTHER_WORDS : Option Addr} {n_OTHER_WORDS : Nat} {sl_OTHER_WORDS : Array (Option Value)} {k_SIGNS0 v_SIGNS0 k_SIGNS1 v_SIGNS1 k_SIGNS2 v_SIGNS2 k_SIGNS3 v_SIGNS3 k_SIGNS4 v_SIGNS4 k_SIGNS5 v_SIGNS5 k_SIGNS6 v_SIGNS6 k_SIGNS7 v_SIGNS7 k_SIGNS8 v_SIGNS8 k_SIGNS9 v_SIGNS9 k_SIGNS10 v_SIGNS10 k_SIGNS11 v_SIGNS11 k_SIGNS12 v_SIGNS12 : Tok} {x_SIGNS0 x_SIGNS1 x_SIGNS2 x_SIGNS3 x_SIGNS4 x_SIGNS5 x_SIGNS6 x_SIGNS7 x_SIGNS8 x_SIGNS9 x_SIGNS10 x_SIGNS11 x_SIGNS12 : Int} {ep_SIGNS : Nat} {k_LETTERS : Tok} {k_DIGITS : Tok} {k_LINE_END : Tok} {k_BLANK : Tok} {k_HASH : Tok} {k_ZERO : Tok} {k_NINE : Tok} {k_UNDERSCORE : Tok} {k_LOWER_A : Tok} {k_LOWER_Z : Tok} {k_FIRST_BYTE : Tok} {k_LAST_BYTE : Tok} {k_LARGEST_NUMBER : Tok} {k_HEADS0 k_HEADS1 k_HEADS2 k_HEADS3 k_HEADS4 : Tok} {oc_HEADS : Option Addr} {n_HEADS : Nat} {sl_HEADS : Array (Option Value)} {k_STATS0 k_STATS1 k_STATS2 k_STATS3 k_STATS4 k_STATS5 : Tok} {oc_STATS : Option Addr} {n_STATS : Nat} {sl_STATS : Array (Option Value)} {k_LONES0 k_LONES1 k_LONES2 k_LONES3 k_LONES4 k_LONES5 k_LONES6 : Tok} {oc_LONES : Option Addr} {n_LONES : Nat} {sl_LONES : Array (Option Value)} {k_LARGEST_CROSSING : Tok} {k_DEEPEST : Tok} {k_LONGEST_TEXT : Tok}
    (X : K.In h) (G : h.Ns mainGlobals mg) (hfa : mg "judge" = some (.ref fa))
    (h0 : PySem.W.nsIn K mainGlobals "Fault" = some (some (.ref c_Fault)))
    (h1 : PySem.W.nsIn K mainGlobals "ByteFault" = some (some (.ref c_ByteFault)))
    (h2 : PySem.W.nsIn K mainGlobals "NumberFault" = some (some (.ref c_NumberFault)))
    (h3 : PySem.W.nsIn K mainGlobals "WantFault" = some (some (.ref c_WantFault)))
    (h4 : PySem.W.nsIn K mainGlobals "UntoldFault" = some (some (.ref c_UntoldFault)))
    (h5 : PySem.W.nsIn K mainGlobals "AgainFault" = some (some (.ref c_AgainFault)))
    (h6 : PySem.W.nsIn K mainGlobals "BoundFault" = some (some (.ref c_BoundFault)))
    (h7 : PySem.W.nsIn K mainGlobals "SumsFault" = some (some (.ref c_SumsFault)))
    (h8 : PySem.W.nsIn K mainGlobals "Names" = some (some (.ref c_Names)))
    (h9 : PySem.W.nsIn K mainGlobals "Token" = some (some (.ref c_Token)))
    (h10 : PySem.W.nsIn K mainGlobals "Reader" = some (some (.ref c_Reader)))
    (h11 : PySem.W.nsIn K mainGlobals "token_at" = some (some (.ref f_token_at)))
    (h12 : K.lookup f_token_at = some ⟨oc_token_at, od_token_at, .func (PySem.W.fnOf "token_at" "token_at" (defArgs s_token_at) (defBody s_token_at) (defScope s_token_at) .none kV_token_at dc_token_at pm_token_at an_token_at cd_token_at ct_token_at), sl_token_at⟩)
    (h13 : PySem.W.codeIn K cd_token_at "token_at" = true)
    (h14 : PySem.W.keepIn K (.ref f_token_at) = true)
    (h15 : PySem.W.nsIn K mainGlobals "skip_blanks" = some (some (.ref f_skip_blanks)))
    (h16 : K.lookup f_skip_blanks = some ⟨oc_skip_blanks, od_skip_blanks, .func (PySem.W.fnOf "skip_blanks" "skip_blanks" (defArgs s_skip_blanks) (defBody s_skip_blanks) (defScope s_skip_blanks) .none kV_skip_blanks dc_skip_blanks pm_skip_blanks an_skip_blanks cd_skip_blanks ct_skip_blanks), sl_skip_blanks⟩)
    (h17 : PySem.W.codeIn K cd_skip_blanks "skip_blanks" = true)
    (h18 : PySem.W.keepIn K (.ref f_skip_blanks) = true)
    (h19 : PySem.W.nsIn K mainGlobals "skip_comment" = some (some (.ref f_skip_comment)))
    (h20 : K.lookup f_skip_comment = some ⟨oc_skip_comment, od_skip_comment, .func (PySem.W.fnOf "skip_comment" "skip_comment" (defArgs s_skip_comment) (defBody s_skip_comment) (defScope s_skip_comment) .none kV_skip_comment dc_skip_comment pm_skip_comment an_skip_comment cd_skip_comment ct_skip_comment), sl_skip_comment⟩)
    (h21 : PySem.W.codeIn K cd_skip_comment "skip_comment" = true)
    (h22 : PySem.W.keepIn K (.ref f_skip_comment) = true)
    (h23 : PySem.W.nsIn K mainGlobals "word_token" = some (some (.ref f_word_token)))
    (h24 : K.lookup f_word_token = some ⟨oc_word_token, od_word_token, .func (PySem.W.fnOf "word_token" "word_token" (defArgs s_word_token) (defBody s_word_token) (defScope s_word_token) .none kV_word_token dc_word_token pm_word_token an_word_token cd_word_token ct_word_token), sl_word_token⟩)
    (h25 : PySem.W.codeIn K cd_word_token "word_token" = true)
    (h26 : PySem.W.keepIn K (.ref f_word_token) = true)
    (h27 : PySem.W.nsIn K mainGlobals "digit_word_at" = some (some (.ref f_digit_word_at)))
    (h28 : K.lookup f_digit_word_at = some ⟨oc_digit_word_at, od_digit_word_at, .func (PySem.W.fnOf "digit_word_at" "digit_word_at" (defArgs s_digit_word_at) (defBody s_digit_word_at) (defScope s_digit_word_at) .none kV_digit_word_at dc_digit_word_at pm_digit_word_at an_digit_word_at cd_digit_word_at ct_digit_word_at), sl_digit_word_at⟩)
    (h29 : PySem.W.codeIn K cd_digit_word_at "digit_word_at" = true)
    (h30 : PySem.W.keepIn K (.ref f_digit_word_at) = true)
    (h31 : PySem.W.nsIn K mainGlobals "number_token" = some (some (.ref f_number_token)))
    (h32 : K.lookup f_number_token = some ⟨oc_number_token, od_number_token, .func (PySem.W.fnOf "number_token" "number_token" (defArgs s_number_token) (defBody s_number_token) (defScope s_number_token) .none kV_number_token dc_number_token pm_number_token an_number_token cd_number_token ct_number_token), sl_number_token⟩)
    (h33 : PySem.W.codeIn K cd_number_token "number_token" = true)
    (h34 : PySem.W.keepIn K (.ref f_number_token) = true)
    (h35 : PySem.W.nsIn K mainGlobals "spelled" = some (some (.ref f_spelled)))
    (h36 : K.lookup f_spelled = some ⟨oc_spelled, od_spelled, .func (PySem.W.fnOf "spelled" "spelled" (defArgs s_spelled) (defBody s_spelled) (defScope s_spelled) .none kV_spelled dc_spelled pm_spelled an_spelled cd_spelled ct_spelled), sl_spelled⟩)
    (h37 : PySem.W.codeIn K cd_spelled "spelled" = true)
    (h38 : PySem.W.keepIn K (.ref f_spelled) = true)
    (h39 : PySem.W.nsIn K mainGlobals "sign_of" = some (some (.ref f_sign_of)))
    (h40 : K.lookup f_sign_of = some ⟨oc_sign_of, od_sign_of, .func (PySem.W.fnOf "sign_of" "sign_of" (defArgs s_sign_of) (defBody s_sign_of) (defScope s_sign_of) .none kV_sign_of dc_sign_of pm_sign_of an_sign_of cd_sign_of ct_sign_of), sl_sign_of⟩)
    (h41 : PySem.W.codeIn K cd_sign_of "sign_of" = true)
    (h42 : PySem.W.keepIn K (.ref f_sign_of) = true)
    (h43 : PySem.W.nsIn K mainGlobals "is_letter" = some (some (.ref f_is_letter)))
    (h44 : K.lookup f_is_letter = some ⟨oc_is_letter, od_is_letter, .func (PySem.W.fnOf "is_letter" "is_letter" (defArgs s_is_letter) (defBody s_is_letter) (defScope s_is_letter) .none kV_is_letter dc_is_letter pm_is_letter an_is_letter cd_is_letter ct_is_letter), sl_is_letter⟩)
    (h45 : PySem.W.codeIn K cd_is_letter "is_letter" = true)
    (h46 : PySem.W.keepIn K (.ref f_is_letter) = true)
    (h47 : PySem.W.nsIn K mainGlobals "is_digit" = some (some (.ref f_is_digit)))
    (h48 : K.lookup f_is_digit = some ⟨oc_is_digit, od_is_digit, .func (PySem.W.fnOf "is_digit" "is_digit" (defArgs s_is_digit) (defBody s_is_digit) (defScope s_is_digit) .none kV_is_digit dc_is_digit pm_is_digit an_is_digit cd_is_digit ct_is_digit), sl_is_digit⟩)
    (h49 : PySem.W.codeIn K cd_is_digit "is_digit" = true)
    (h50 : PySem.W.keepIn K (.ref f_is_digit) = true)
    (h51 : PySem.W.nsIn K mainGlobals "is_letter_digit_or_underscore" = some (some (.ref f_is_letter_digit_or_underscore)))
    (h52 : K.lookup f_is_letter_digit_or_underscore = some ⟨oc_is_letter_digit_or_underscore, od_is_letter_digit_or_underscore, .func (PySem.W.fnOf "is_letter_digit_or_underscore" "is_letter_digit_or_underscore" (defArgs s_is_letter_digit_or_underscore) (defBody s_is_letter_digit_or_underscore) (defScope s_is_letter_digit_or_underscore) .none kV_is_letter_digit_or_underscore dc_is_letter_digit_or_underscore pm_is_letter_digit_or_underscore an_is_letter_digit_or_underscore cd_is_letter_digit_or_underscore ct_is_letter_digit_or_underscore), sl_is_letter_digit_or_underscore⟩)
    (h53 : PySem.W.codeIn K cd_is_letter_digit_or_underscore "is_letter_digit_or_underscore" = true)
    (h54 : PySem.W.keepIn K (.ref f_is_letter_digit_or_underscore) = true)
    (h55 : PySem.W.nsIn K mainGlobals "read_pattern" = some (some (.ref f_read_pattern)))
    (h56 : K.lookup f_read_pattern = some ⟨oc_read_pattern, od_read_pattern, .func (PySem.W.fnOf "read_pattern" "read_pattern" (defArgs s_read_pattern) (defBody s_read_pattern) (defScope s_read_pattern) .none kV_read_pattern dc_read_pattern pm_read_pattern an_read_pattern cd_read_pattern ct_read_pattern), sl_read_pattern⟩)
    (h57 : PySem.W.codeIn K cd_read_pattern "read_pattern" = true)
    (h58 : PySem.W.keepIn K (.ref f_read_pattern) = true)
    (h59 : PySem.W.nsIn K mainGlobals "read_head" = some (some (.ref f_read_head)))
    (h60 : K.lookup f_read_head = some ⟨oc_read_head, od_read_head, .func (PySem.W.fnOf "read_head" "read_head" (defArgs s_read_head) (defBody s_read_head) (defScope s_read_head) .none kV_read_head dc_read_head pm_read_head an_read_head cd_read_head ct_read_head), sl_read_head⟩)
    (h61 : PySem.W.codeIn K cd_read_head "read_head" = true)
    (h62 : PySem.W.keepIn K (.ref f_read_head) = true)
    (h63 : PySem.W.nsIn K mainGlobals "read_sizes" = some (some (.ref f_read_sizes)))
    (h64 : K.lookup f_read_sizes = some ⟨oc_read_sizes, od_read_sizes, .func (PySem.W.fnOf "read_sizes" "read_sizes" (defArgs s_read_sizes) (defBody s_read_sizes) (defScope s_read_sizes) .none kV_read_sizes dc_read_sizes pm_read_sizes an_read_sizes cd_read_sizes ct_read_sizes), sl_read_sizes⟩)
    (h65 : PySem.W.codeIn K cd_read_sizes "read_sizes" = true)
    (h66 : PySem.W.keepIn K (.ref f_read_sizes) = true)
    (h67 : PySem.W.nsIn K mainGlobals "read_yarns" = some (some (.ref f_read_yarns)))
    (h68 : K.lookup f_read_yarns = some ⟨oc_read_yarns, od_read_yarns, .func (PySem.W.fnOf "read_yarns" "read_yarns" (defArgs s_read_yarns) (defBody s_read_yarns) (defScope s_read_yarns) .none kV_read_yarns dc_read_yarns pm_read_yarns an_read_yarns cd_read_yarns ct_read_yarns), sl_read_yarns⟩)
    (h69 : PySem.W.codeIn K cd_read_yarns "read_yarns" = true)
    (h70 : PySem.W.keepIn K (.ref f_read_yarns) = true)
    (h71 : PySem.W.nsIn K mainGlobals "read_new_names" = some (some (.ref f_read_new_names)))
    (h72 : K.lookup f_read_new_names = some ⟨oc_read_new_names, od_read_new_names, .func (PySem.W.fnOf "read_new_names" "read_new_names" (defArgs s_read_new_names) (defBody s_read_new_names) (defScope s_read_new_names) .none kV_read_new_names dc_read_new_names pm_read_new_names an_read_new_names cd_read_new_names ct_read_new_names), sl_read_new_names⟩)
    (h73 : PySem.W.codeIn K cd_read_new_names "read_new_names" = true)
    (h74 : PySem.W.keepIn K (.ref f_read_new_names) = true)
    (h75 : PySem.W.nsIn K mainGlobals "read_let" = some (some (.ref f_read_let)))
    (h76 : K.lookup f_read_let = some ⟨oc_read_let, od_read_let, .func (PySem.W.fnOf "read_let" "read_let" (defArgs s_read_let) (defBody s_read_let) (defScope s_read_let) .none kV_read_let dc_read_let pm_read_let an_read_let cd_read_let ct_read_let), sl_read_let⟩)
    (h77 : PySem.W.codeIn K cd_read_let "read_let" = true)
    (h78 : PySem.W.keepIn K (.ref f_read_let) = true)
    (h79 : PySem.W.nsIn K mainGlobals "read_word" = some (some (.ref f_read_word)))
    (h80 : K.lookup f_read_word = some ⟨oc_read_word, od_read_word, .func (PySem.W.fnOf "read_word" "read_word" (defArgs s_read_word) (defBody s_read_word) (defScope s_read_word) .none kV_read_word dc_read_word pm_read_word an_read_word cd_read_word ct_read_word), sl_read_word⟩)
    (h81 : PySem.W.codeIn K cd_read_word "read_word" = true)
    (h82 : PySem.W.keepIn K (.ref f_read_word) = true)
    (h83 : PySem.W.nsIn K mainGlobals "read_block" = some (some (.ref f_read_block)))
    (h84 : K.lookup f_read_block = some ⟨oc_read_block, od_read_block, .func (PySem.W.fnOf "read_block" "read_block" (defArgs s_read_block) (defBody s_read_block) (defScope s_read_block) .none kV_read_block dc_read_block pm_read_block an_read_block cd_read_block ct_read_block), sl_read_block⟩)
    (h85 : PySem.W.codeIn K cd_read_block "read_block" = true)
    (h86 : PySem.W.keepIn K (.ref f_read_block) = true)
    (h87 : PySem.W.nsIn K mainGlobals "read_braces" = some (some (.ref f_read_braces)))
    (h88 : K.lookup f_read_braces = some ⟨oc_read_braces, od_read_braces, .func (PySem.W.fnOf "read_braces" "read_braces" (defArgs s_read_braces) (defBody s_read_braces) (defScope s_read_braces) .none kV_read_braces dc_read_braces pm_read_braces an_read_braces cd_read_braces ct_read_braces), sl_read_braces⟩)
    (h89 : PySem.W.codeIn K cd_read_braces "read_braces" = true)
    (h90 : PySem.W.keepIn K (.ref f_read_braces) = true)
    (h91 : PySem.W.nsIn K mainGlobals "read_stats" = some (some (.ref f_read_stats)))
    (h92 : K.lookup f_read_stats = some ⟨oc_read_stats, od_read_stats, .func (PySem.W.fnOf "read_stats" "read_stats" (defArgs s_read_stats) (defBody s_read_stats) (defScope s_read_stats) .none kV_read_stats dc_read_stats pm_read_stats an_read_stats cd_read_stats ct_read_stats), sl_read_stats⟩)
    (h93 : PySem.W.codeIn K cd_read_stats "read_stats" = true)
    (h94 : PySem.W.keepIn K (.ref f_read_stats) = true)
    (h95 : PySem.W.nsIn K mainGlobals "read_stat" = some (some (.ref f_read_stat)))
    (h96 : K.lookup f_read_stat = some ⟨oc_read_stat, od_read_stat, .func (PySem.W.fnOf "read_stat" "read_stat" (defArgs s_read_stat) (defBody s_read_stat) (defScope s_read_stat) .none kV_read_stat dc_read_stat pm_read_stat an_read_stat cd_read_stat ct_read_stat), sl_read_stat⟩)
    (h97 : PySem.W.codeIn K cd_read_stat "read_stat" = true)
    (h98 : PySem.W.keepIn K (.ref f_read_stat) = true)
    (h99 : PySem.W.nsIn K mainGlobals "read_row" = some (some (.ref f_read_row)))
    (h100 : K.lookup f_read_row = some ⟨oc_read_row, od_read_row, .func (PySem.W.fnOf "read_row" "read_row" (defArgs s_read_row) (defBody s_read_row) (defScope s_read_row) .none kV_read_row dc_read_row pm_read_row an_read_row cd_read_row ct_read_row), sl_read_row⟩)
    (h101 : PySem.W.codeIn K cd_read_row "read_row" = true)
    (h102 : PySem.W.keepIn K (.ref f_read_row) = true)
    (h103 : PySem.W.nsIn K mainGlobals "read_work" = some (some (.ref f_read_work)))
    (h104 : K.lookup f_read_work = some ⟨oc_read_work, od_read_work, .func (PySem.W.fnOf "read_work" "read_work" (defArgs s_read_work) (defBody s_read_work) (defScope s_read_work) .none kV_read_work dc_read_work pm_read_work an_read_work cd_read_work ct_read_work), sl_read_work⟩)
    (h105 : PySem.W.codeIn K cd_read_work "read_work" = true)
    (h106 : PySem.W.keepIn K (.ref f_read_work) = true)
    (h107 : PySem.W.nsIn K mainGlobals "read_row_items" = some (some (.ref f_read_row_items)))
    (h108 : K.lookup f_read_row_items = some ⟨oc_read_row_items, od_read_row_items, .func (PySem.W.fnOf "read_row_items" "read_row_items" (defArgs s_read_row_items) (defBody s_read_row_items) (defScope s_read_row_items) .none kV_read_row_items dc_read_row_items pm_read_row_items an_read_row_items cd_read_row_items ct_read_row_items), sl_read_row_items⟩)
    (h109 : PySem.W.codeIn K cd_read_row_items "read_row_items" = true)
    (h110 : PySem.W.keepIn K (.ref f_read_row_items) = true)
    (h111 : PySem.W.nsIn K mainGlobals "read_row_item" = some (some (.ref f_read_row_item)))
    (h112 : K.lookup f_read_row_item = some ⟨oc_read_row_item, od_read_row_item, .func (PySem.W.fnOf "read_row_item" "read_row_item" (defArgs s_read_row_item) (defBody s_read_row_item) (defScope s_read_row_item) .none kV_read_row_item dc_read_row_item pm_read_row_item an_read_row_item cd_read_row_item ct_read_row_item), sl_read_row_item⟩)
    (h113 : PySem.W.codeIn K cd_read_row_item "read_row_item" = true)
    (h114 : PySem.W.keepIn K (.ref f_read_row_item) = true)
    (h115 : PySem.W.nsIn K mainGlobals "read_goal" = some (some (.ref f_read_goal)))
    (h116 : K.lookup f_read_goal = some ⟨oc_read_goal, od_read_goal, .func (PySem.W.fnOf "read_goal" "read_goal" (defArgs s_read_goal) (defBody s_read_goal) (defScope s_read_goal) .none kV_read_goal dc_read_goal pm_read_goal an_read_goal cd_read_goal ct_read_goal), sl_read_goal⟩)
    (h117 : PySem.W.codeIn K cd_read_goal "read_goal" = true)
    (h118 : PySem.W.keepIn K (.ref f_read_goal) = true)
    (h119 : PySem.W.nsIn K mainGlobals "read_unit" = some (some (.ref f_read_unit)))
    (h120 : K.lookup f_read_unit = some ⟨oc_read_unit, od_read_unit, .func (PySem.W.fnOf "read_unit" "read_unit" (defArgs s_read_unit) (defBody s_read_unit) (defScope s_read_unit) .none kV_read_unit dc_read_unit pm_read_unit an_read_unit cd_read_unit ct_read_unit), sl_read_unit⟩)
    (h121 : PySem.W.codeIn K cd_read_unit "read_unit" = true)
    (h122 : PySem.W.keepIn K (.ref f_read_unit) = true)
    (h123 : PySem.W.nsIn K mainGlobals "read_crossing" = some (some (.ref f_read_crossing)))
    (h124 : K.lookup f_read_crossing = some ⟨oc_read_crossing, od_read_crossing, .func (PySem.W.fnOf "read_crossing" "read_crossing" (defArgs s_read_crossing) (defBody s_read_crossing) (defScope s_read_crossing) .none kV_read_crossing dc_read_crossing pm_read_crossing an_read_crossing cd_read_crossing ct_read_crossing), sl_read_crossing⟩)
    (h125 : PySem.W.codeIn K cd_read_crossing "read_crossing" = true)
    (h126 : PySem.W.keepIn K (.ref f_read_crossing) = true)
    (h127 : PySem.W.nsIn K mainGlobals "read_crossing_number" = some (some (.ref f_read_crossing_number)))
    (h128 : K.lookup f_read_crossing_number = some ⟨oc_read_crossing_number, od_read_crossing_number, .func (PySem.W.fnOf "read_crossing_number" "read_crossing_number" (defArgs s_read_crossing_number) (defBody s_read_crossing_number) (defScope s_read_crossing_number) .none kV_read_crossing_number dc_read_crossing_number pm_read_crossing_number an_read_crossing_number cd_read_crossing_number ct_read_crossing_number), sl_read_crossing_number⟩)
    (h129 : PySem.W.codeIn K cd_read_crossing_number "read_crossing_number" = true)
    (h130 : PySem.W.keepIn K (.ref f_read_crossing_number) = true)
    (h131 : PySem.W.nsIn K mainGlobals "read_lone" = some (some (.ref f_read_lone)))
    (h132 : K.lookup f_read_lone = some ⟨oc_read_lone, od_read_lone, .func (PySem.W.fnOf "read_lone" "read_lone" (defArgs s_read_lone) (defBody s_read_lone) (defScope s_read_lone) .none kV_read_lone dc_read_lone pm_read_lone an_read_lone cd_read_lone ct_read_lone), sl_read_lone⟩)
    (h133 : PySem.W.codeIn K cd_read_lone "read_lone" = true)
    (h134 : PySem.W.keepIn K (.ref f_read_lone) = true)
    (h135 : PySem.W.nsIn K mainGlobals "begins_sum" = some (some (.ref f_begins_sum)))
    (h136 : K.lookup f_begins_sum = some ⟨oc_begins_sum, od_begins_sum, .func (PySem.W.fnOf "begins_sum" "begins_sum" (defArgs s_begins_sum) (defBody s_begins_sum) (defScope s_begins_sum) .none kV_begins_sum dc_begins_sum pm_begins_sum an_begins_sum cd_begins_sum ct_begins_sum), sl_begins_sum⟩)
    (h137 : PySem.W.codeIn K cd_begins_sum "begins_sum" = true)
    (h138 : PySem.W.keepIn K (.ref f_begins_sum) = true)
    (h139 : PySem.W.nsIn K mainGlobals "read_sum" = some (some (.ref f_read_sum)))
    (h140 : K.lookup f_read_sum = some ⟨oc_read_sum, od_read_sum, .func (PySem.W.fnOf "read_sum" "read_sum" (defArgs s_read_sum) (defBody s_read_sum) (defScope s_read_sum) .none kV_read_sum dc_read_sum pm_read_sum an_read_sum cd_read_sum ct_read_sum), sl_read_sum⟩)
    (h141 : PySem.W.codeIn K cd_read_sum "read_sum" = true)
    (h142 : PySem.W.keepIn K (.ref f_read_sum) = true)
    (h143 : PySem.W.nsIn K mainGlobals "read_product" = some (some (.ref f_read_product)))
    (h144 : K.lookup f_read_product = some ⟨oc_read_product, od_read_product, .func (PySem.W.fnOf "read_product" "read_product" (defArgs s_read_product) (defBody s_read_product) (defScope s_read_product) .none kV_read_product dc_read_product pm_read_product an_read_product cd_read_product ct_read_product), sl_read_product⟩)
    (h145 : PySem.W.codeIn K cd_read_product "read_product" = true)
    (h146 : PySem.W.keepIn K (.ref f_read_product) = true)
    (h147 : PySem.W.nsIn K mainGlobals "read_factor" = some (some (.ref f_read_factor)))
    (h148 : K.lookup f_read_factor = some ⟨oc_read_factor, od_read_factor, .func (PySem.W.fnOf "read_factor" "read_factor" (defArgs s_read_factor) (defBody s_read_factor) (defScope s_read_factor) .none kV_read_factor dc_read_factor pm_read_factor an_read_factor cd_read_factor ct_read_factor), sl_read_factor⟩)
    (h149 : PySem.W.codeIn K cd_read_factor "read_factor" = true)
    (h150 : PySem.W.keepIn K (.ref f_read_factor) = true)
    (h151 : PySem.W.nsIn K mainGlobals "judge" = some (some (.ref f_judge)))
    (h152 : K.lookup f_judge = some ⟨oc_judge, od_judge, .func (PySem.W.fnOf "judge" "judge" (defArgs s_judge) (defBody s_judge) (defScope s_judge) .none kV_judge dc_judge pm_judge an_judge cd_judge ct_judge), sl_judge⟩)
    (h153 : PySem.W.codeIn K cd_judge "judge" = true)
    (h154 : PySem.W.keepIn K (.ref f_judge) = true)
    (h155 : PySem.W.nsIn K mainGlobals "read_text" = some (some (.ref f_read_text)))
    (h156 : K.lookup f_read_text = some ⟨oc_read_text, od_read_text, .func (PySem.W.fnOf "read_text" "read_text" (defArgs s_read_text) (defBody s_read_text) (defScope s_read_text) .none kV_read_text dc_read_text pm_read_text an_read_text cd_read_text ct_read_text), sl_read_text⟩)
    (h157 : PySem.W.codeIn K cd_read_text "read_text" = true)
    (h158 : PySem.W.keepIn K (.ref f_read_text) = true)
    (h159 : PySem.W.findIn K (.ref c_Fault) "__init__" = some (some (.ref f_Fault_init)))
    (h160 : PySem.W.isFn K (.ref f_Fault_init) = true)
    (h161 : K.lookup f_Fault_init = some ⟨oc_Fault_init, od_Fault_init, .func (PySem.W.fnOf "__init__" "Fault.__init__" (defArgs s_Fault_init) (defBody s_Fault_init) (defScope s_Fault_init) .none kV_Fault_init dc_Fault_init pm_Fault_init an_Fault_init cd_Fault_init ct_Fault_init), sl_Fault_init⟩)
    (h162 : PySem.W.codeIn K cd_Fault_init "Fault.__init__" = true)
    (h163 : PySem.W.keepIn K (.ref f_Fault_init) = true)
    (h164 : PySem.W.findIn K (.ref c_ByteFault) "__init__" = some (some (.ref f_ByteFault_init)))
    (h165 : PySem.W.isFn K (.ref f_ByteFault_init) = true)
    (h166 : K.lookup f_ByteFault_init = some ⟨oc_ByteFault_init, od_ByteFault_init, .func (PySem.W.fnOf "__init__" "ByteFault.__init__" (defArgs s_ByteFault_init) (defBody s_ByteFault_init) (defScope s_ByteFault_init) .none kV_ByteFault_init dc_ByteFault_init pm_ByteFault_init an_ByteFault_init cd_ByteFault_init ct_ByteFault_init), sl_ByteFault_init⟩)
    (h167 : PySem.W.codeIn K cd_ByteFault_init "ByteFault.__init__" = true)
    (h168 : PySem.W.keepIn K (.ref f_ByteFault_init) = true)
    (h169 : PySem.W.findIn K (.ref c_NumberFault) "__init__" = some (some (.ref f_NumberFault_init)))
    (h170 : PySem.W.isFn K (.ref f_NumberFault_init) = true)
    (h171 : K.lookup f_NumberFault_init = some ⟨oc_NumberFault_init, od_NumberFault_init, .func (PySem.W.fnOf "__init__" "NumberFault.__init__" (defArgs s_NumberFault_init) (defBody s_NumberFault_init) (defScope s_NumberFault_init) .none kV_NumberFault_init dc_NumberFault_init pm_NumberFault_init an_NumberFault_init cd_NumberFault_init ct_NumberFault_init), sl_NumberFault_init⟩)
    (h172 : PySem.W.codeIn K cd_NumberFault_init "NumberFault.__init__" = true)
    (h173 : PySem.W.keepIn K (.ref f_NumberFault_init) = true)
    (h174 : PySem.W.findIn K (.ref c_WantFault) "__init__" = some (some (.ref f_WantFault_init)))
    (h175 : PySem.W.isFn K (.ref f_WantFault_init) = true)
    (h176 : K.lookup f_WantFault_init = some ⟨oc_WantFault_init, od_WantFault_init, .func (PySem.W.fnOf "__init__" "WantFault.__init__" (defArgs s_WantFault_init) (defBody s_WantFault_init) (defScope s_WantFault_init) .none kV_WantFault_init dc_WantFault_init pm_WantFault_init an_WantFault_init cd_WantFault_init ct_WantFault_init), sl_WantFault_init⟩)
    (h177 : PySem.W.codeIn K cd_WantFault_init "WantFault.__init__" = true)
    (h178 : PySem.W.keepIn K (.ref f_WantFault_init) = true)
    (h179 : PySem.W.findIn K (.ref c_UntoldFault) "__init__" = some (some (.ref f_UntoldFault_init)))
    (h180 : PySem.W.isFn K (.ref f_UntoldFault_init) = true)
    (h181 : K.lookup f_UntoldFault_init = some ⟨oc_UntoldFault_init, od_UntoldFault_init, .func (PySem.W.fnOf "__init__" "UntoldFault.__init__" (defArgs s_UntoldFault_init) (defBody s_UntoldFault_init) (defScope s_UntoldFault_init) .none kV_UntoldFault_init dc_UntoldFault_init pm_UntoldFault_init an_UntoldFault_init cd_UntoldFault_init ct_UntoldFault_init), sl_UntoldFault_init⟩)
    (h182 : PySem.W.codeIn K cd_UntoldFault_init "UntoldFault.__init__" = true)
    (h183 : PySem.W.keepIn K (.ref f_UntoldFault_init) = true)
    (h184 : PySem.W.findIn K (.ref c_AgainFault) "__init__" = some (some (.ref f_AgainFault_init)))
    (h185 : PySem.W.isFn K (.ref f_AgainFault_init) = true)
    (h186 : K.lookup f_AgainFault_init = some ⟨oc_AgainFault_init, od_AgainFault_init, .func (PySem.W.fnOf "__init__" "AgainFault.__init__" (defArgs s_AgainFault_init) (defBody s_AgainFault_init) (defScope s_AgainFault_init) .none kV_AgainFault_init dc_AgainFault_init pm_AgainFault_init an_AgainFault_init cd_AgainFault_init ct_AgainFault_init), sl_AgainFault_init⟩)
    (h187 : PySem.W.codeIn K cd_AgainFault_init "AgainFault.__init__" = true)
    (h188 : PySem.W.keepIn K (.ref f_AgainFault_init) = true)
    (h189 : PySem.W.findIn K (.ref c_BoundFault) "__init__" = some (some (.ref f_BoundFault_init)))
    (h190 : PySem.W.isFn K (.ref f_BoundFault_init) = true)
    (h191 : K.lookup f_BoundFault_init = some ⟨oc_BoundFault_init, od_BoundFault_init, .func (PySem.W.fnOf "__init__" "BoundFault.__init__" (defArgs s_BoundFault_init) (defBody s_BoundFault_init) (defScope s_BoundFault_init) .none kV_BoundFault_init dc_BoundFault_init pm_BoundFault_init an_BoundFault_init cd_BoundFault_init ct_BoundFault_init), sl_BoundFault_init⟩)
    (h192 : PySem.W.codeIn K cd_BoundFault_init "BoundFault.__init__" = true)
    (h193 : PySem.W.keepIn K (.ref f_BoundFault_init) = true)
    (h194 : PySem.W.findIn K (.ref c_SumsFault) "__init__" = some (some (.ref f_SumsFault_init)))
    (h195 : PySem.W.isFn K (.ref f_SumsFault_init) = true)
    (h196 : K.lookup f_SumsFault_init = some ⟨oc_SumsFault_init, od_SumsFault_init, .func (PySem.W.fnOf "__init__" "SumsFault.__init__" (defArgs s_SumsFault_init) (defBody s_SumsFault_init) (defScope s_SumsFault_init) .none kV_SumsFault_init dc_SumsFault_init pm_SumsFault_init an_SumsFault_init cd_SumsFault_init ct_SumsFault_init), sl_SumsFault_init⟩)
    (h197 : PySem.W.codeIn K cd_SumsFault_init "SumsFault.__init__" = true)
    (h198 : PySem.W.keepIn K (.ref f_SumsFault_init) = true)
    (h199 : PySem.W.findIn K (.ref c_Names) "__init__" = some (some (.ref f_Names_init)))
    (h200 : PySem.W.isFn K (.ref f_Names_init) = true)
    (h201 : K.lookup f_Names_init = some ⟨oc_Names_init, od_Names_init, .func (PySem.W.fnOf "__init__" "Names.__init__" (defArgs s_Names_init) (defBody s_Names_init) (defScope s_Names_init) .none kV_Names_init dc_Names_init pm_Names_init an_Names_init cd_Names_init ct_Names_init), sl_Names_init⟩)
    (h202 : PySem.W.codeIn K cd_Names_init "Names.__init__" = true)
    (h203 : PySem.W.keepIn K (.ref f_Names_init) = true)
    (h204 : PySem.W.findIn K (.ref c_Names) "amount" = some (some (.ref f_Names_amount)))
    (h205 : PySem.W.isFn K (.ref f_Names_amount) = true)
    (h206 : K.lookup f_Names_amount = some ⟨oc_Names_amount, od_Names_amount, .func (PySem.W.fnOf "amount" "Names.amount" (defArgs s_Names_amount) (defBody s_Names_amount) (defScope s_Names_amount) .none kV_Names_amount dc_Names_amount pm_Names_amount an_Names_amount cd_Names_amount ct_Names_amount), sl_Names_amount⟩)
    (h207 : PySem.W.codeIn K cd_Names_amount "Names.amount" = true)
    (h208 : PySem.W.keepIn K (.ref f_Names_amount) = true)
    (h209 : PySem.W.findIn K (.ref c_Names) "check_new" = some (some (.ref f_Names_check_new)))
    (h210 : PySem.W.isFn K (.ref f_Names_check_new) = true)
    (h211 : K.lookup f_Names_check_new = some ⟨oc_Names_check_new, od_Names_check_new, .func (PySem.W.fnOf "check_new" "Names.check_new" (defArgs s_Names_check_new) (defBody s_Names_check_new) (defScope s_Names_check_new) .none kV_Names_check_new dc_Names_check_new pm_Names_check_new an_Names_check_new cd_Names_check_new ct_Names_check_new), sl_Names_check_new⟩)
    (h212 : PySem.W.codeIn K cd_Names_check_new "Names.check_new" = true)
    (h213 : PySem.W.keepIn K (.ref f_Names_check_new) = true)
    (h214 : PySem.W.findIn K (.ref c_Names) "check_room" = some (some (.ref f_Names_check_room)))
    (h215 : PySem.W.isFn K (.ref f_Names_check_room) = true)
    (h216 : K.lookup f_Names_check_room = some ⟨oc_Names_check_room, od_Names_check_room, .func (PySem.W.fnOf "check_room" "Names.check_room" (defArgs s_Names_check_room) (defBody s_Names_check_room) (defScope s_Names_check_room) .none kV_Names_check_room dc_Names_check_room pm_Names_check_room an_Names_check_room cd_Names_check_room ct_Names_check_room), sl_Names_check_room⟩)
    (h217 : PySem.W.codeIn K cd_Names_check_room "Names.check_room" = true)
    (h218 : PySem.W.keepIn K (.ref f_Names_check_room) = true)
    (h219 : PySem.W.findIn K (.ref c_Names) "tell" = some (some (.ref f_Names_tell)))
    (h220 : PySem.W.isFn K (.ref f_Names_tell) = true)
    (h221 : K.lookup f_Names_tell = some ⟨oc_Names_tell, od_Names_tell, .func (PySem.W.fnOf "tell" "Names.tell" (defArgs s_Names_tell) (defBody s_Names_tell) (defScope s_Names_tell) .none kV_Names_tell dc_Names_tell pm_Names_tell an_Names_tell cd_Names_tell ct_Names_tell), sl_Names_tell⟩)
    (h222 : PySem.W.codeIn K cd_Names_tell "Names.tell" = true)
    (h223 : PySem.W.keepIn K (.ref f_Names_tell) = true)
    (h224 : PySem.W.findIn K (.ref c_Names) "check_told" = some (some (.ref f_Names_check_told)))
    (h225 : PySem.W.isFn K (.ref f_Names_check_told) = true)
    (h226 : K.lookup f_Names_check_told = some ⟨oc_Names_check_told, od_Names_check_told, .func (PySem.W.fnOf "check_told" "Names.check_told" (defArgs s_Names_check_told) (defBody s_Names_check_told) (defScope s_Names_check_told) .none kV_Names_check_told dc_Names_check_told pm_Names_check_told an_Names_check_told cd_Names_check_told ct_Names_check_told), sl_Names_check_told⟩)
    (h227 : PySem.W.codeIn K cd_Names_check_told "Names.check_told" = true)
    (h228 : PySem.W.keepIn K (.ref f_Names_check_told) = true)
    (h229 : PySem.W.findIn K (.ref c_Names) "stand" = some (some (.ref f_Names_stand)))
    (h230 : PySem.W.isFn K (.ref f_Names_stand) = true)
    (h231 : K.lookup f_Names_stand = some ⟨oc_Names_stand, od_Names_stand, .func (PySem.W.fnOf "stand" "Names.stand" (defArgs s_Names_stand) (defBody s_Names_stand) (defScope s_Names_stand) .none kV_Names_stand dc_Names_stand pm_Names_stand an_Names_stand cd_Names_stand ct_Names_stand), sl_Names_stand⟩)
    (h232 : PySem.W.codeIn K cd_Names_stand "Names.stand" = true)
    (h233 : PySem.W.keepIn K (.ref f_Names_stand) = true)
    (h234 : PySem.W.findIn K (.ref c_Token) "__init__" = some (some (.ref f_Token_init)))
    (h235 : PySem.W.isFn K (.ref f_Token_init) = true)
    (h236 : K.lookup f_Token_init = some ⟨oc_Token_init, od_Token_init, .func (PySem.W.fnOf "__init__" "Token.__init__" (defArgs s_Token_init) (defBody s_Token_init) (defScope s_Token_init) .none kV_Token_init dc_Token_init pm_Token_init an_Token_init cd_Token_init ct_Token_init), sl_Token_init⟩)
    (h237 : PySem.W.codeIn K cd_Token_init "Token.__init__" = true)
    (h238 : PySem.W.keepIn K (.ref f_Token_init) = true)
    (h239 : PySem.W.findIn K (.ref c_Reader) "__init__" = some (some (.ref f_Reader_init)))
    (h240 : PySem.W.isFn K (.ref f_Reader_init) = true)
    (h241 : K.lookup f_Reader_init = some ⟨oc_Reader_init, od_Reader_init, .func (PySem.W.fnOf "__init__" "Reader.__init__" (defArgs s_Reader_init) (defBody s_Reader_init) (defScope s_Reader_init) .none kV_Reader_init dc_Reader_init pm_Reader_init an_Reader_init cd_Reader_init ct_Reader_init), sl_Reader_init⟩)
    (h242 : PySem.W.codeIn K cd_Reader_init "Reader.__init__" = true)
    (h243 : PySem.W.keepIn K (.ref f_Reader_init) = true)
    (h244 : PySem.W.findIn K (.ref c_Reader) "peek" = some (some (.ref f_Reader_peek)))
    (h245 : PySem.W.isFn K (.ref f_Reader_peek) = true)
    (h246 : K.lookup f_Reader_peek = some ⟨oc_Reader_peek, od_Reader_peek, .func (PySem.W.fnOf "peek" "Reader.peek" (defArgs s_Reader_peek) (defBody s_Reader_peek) (defScope s_Reader_peek) .none kV_Reader_peek dc_Reader_peek pm_Reader_peek an_Reader_peek cd_Reader_peek ct_Reader_peek), sl_Reader_peek⟩)
    (h247 : PySem.W.codeIn K cd_Reader_peek "Reader.peek" = true)
    (h248 : PySem.W.keepIn K (.ref f_Reader_peek) = true)
    (h249 : PySem.W.findIn K (.ref c_Reader) "step" = some (some (.ref f_Reader_step)))
    (h250 : PySem.W.isFn K (.ref f_Reader_step) = true)
    (h251 : K.lookup f_Reader_step = some ⟨oc_Reader_step, od_Reader_step, .func (PySem.W.fnOf "step" "Reader.step" (defArgs s_Reader_step) (defBody s_Reader_step) (defScope s_Reader_step) .none kV_Reader_step dc_Reader_step pm_Reader_step an_Reader_step cd_Reader_step ct_Reader_step), sl_Reader_step⟩)
    (h252 : PySem.W.codeIn K cd_Reader_step "Reader.step" = true)
    (h253 : PySem.W.keepIn K (.ref f_Reader_step) = true)
    (h254 : PySem.W.findIn K (.ref c_Reader) "skip" = some (some (.ref f_Reader_skip)))
    (h255 : PySem.W.isFn K (.ref f_Reader_skip) = true)
    (h256 : K.lookup f_Reader_skip = some ⟨oc_Reader_skip, od_Reader_skip, .func (PySem.W.fnOf "skip" "Reader.skip" (defArgs s_Reader_skip) (defBody s_Reader_skip) (defScope s_Reader_skip) .none kV_Reader_skip dc_Reader_skip pm_Reader_skip an_Reader_skip cd_Reader_skip ct_Reader_skip), sl_Reader_skip⟩)
    (h257 : PySem.W.codeIn K cd_Reader_skip "Reader.skip" = true)
    (h258 : PySem.W.keepIn K (.ref f_Reader_skip) = true)
    (h259 : PySem.W.findIn K (.ref c_Reader) "want" = some (some (.ref f_Reader_want)))
    (h260 : PySem.W.isFn K (.ref f_Reader_want) = true)
    (h261 : K.lookup f_Reader_want = some ⟨oc_Reader_want, od_Reader_want, .func (PySem.W.fnOf "want" "Reader.want" (defArgs s_Reader_want) (defBody s_Reader_want) (defScope s_Reader_want) .none kV_Reader_want dc_Reader_want pm_Reader_want an_Reader_want cd_Reader_want ct_Reader_want), sl_Reader_want⟩)
    (h262 : PySem.W.codeIn K cd_Reader_want "Reader.want" = true)
    (h263 : PySem.W.keepIn K (.ref f_Reader_want) = true)
    (h264 : PySem.W.findIn K (.ref c_Reader) "want_kind" = some (some (.ref f_Reader_want_kind)))
    (h265 : PySem.W.isFn K (.ref f_Reader_want_kind) = true)
    (h266 : K.lookup f_Reader_want_kind = some ⟨oc_Reader_want_kind, od_Reader_want_kind, .func (PySem.W.fnOf "want_kind" "Reader.want_kind" (defArgs s_Reader_want_kind) (defBody s_Reader_want_kind) (defScope s_Reader_want_kind) .none kV_Reader_want_kind dc_Reader_want_kind pm_Reader_want_kind an_Reader_want_kind cd_Reader_want_kind ct_Reader_want_kind), sl_Reader_want_kind⟩)
    (h267 : PySem.W.codeIn K cd_Reader_want_kind "Reader.want_kind" = true)
    (h268 : PySem.W.keepIn K (.ref f_Reader_want_kind) = true)
    (h269 : PySem.W.findIn K (.ref c_Reader) "enter" = some (some (.ref f_Reader_enter)))
    (h270 : PySem.W.isFn K (.ref f_Reader_enter) = true)
    (h271 : K.lookup f_Reader_enter = some ⟨oc_Reader_enter, od_Reader_enter, .func (PySem.W.fnOf "enter" "Reader.enter" (defArgs s_Reader_enter) (defBody s_Reader_enter) (defScope s_Reader_enter) .none kV_Reader_enter dc_Reader_enter pm_Reader_enter an_Reader_enter cd_Reader_enter ct_Reader_enter), sl_Reader_enter⟩)
    (h272 : PySem.W.codeIn K cd_Reader_enter "Reader.enter" = true)
    (h273 : PySem.W.keepIn K (.ref f_Reader_enter) = true)
    (h274 : PySem.W.findIn K (.ref c_Reader) "leave" = some (some (.ref f_Reader_leave)))
    (h275 : PySem.W.isFn K (.ref f_Reader_leave) = true)
    (h276 : K.lookup f_Reader_leave = some ⟨oc_Reader_leave, od_Reader_leave, .func (PySem.W.fnOf "leave" "Reader.leave" (defArgs s_Reader_leave) (defBody s_Reader_leave) (defScope s_Reader_leave) .none kV_Reader_leave dc_Reader_leave pm_Reader_leave an_Reader_leave cd_Reader_leave ct_Reader_leave), sl_Reader_leave⟩)
    (h277 : PySem.W.codeIn K cd_Reader_leave "Reader.leave" = true)
    (h278 : PySem.W.keepIn K (.ref f_Reader_leave) = true)
    (h279 : PySem.W.findIn K (.ref c_Reader) "want_new_name" = some (some (.ref f_Reader_want_new_name)))
    (h280 : PySem.W.isFn K (.ref f_Reader_want_new_name) = true)
    (h281 : K.lookup f_Reader_want_new_name = some ⟨oc_Reader_want_new_name, od_Reader_want_new_name, .func (PySem.W.fnOf "want_new_name" "Reader.want_new_name" (defArgs s_Reader_want_new_name) (defBody s_Reader_want_new_name) (defScope s_Reader_want_new_name) .none kV_Reader_want_new_name dc_Reader_want_new_name pm_Reader_want_new_name an_Reader_want_new_name cd_Reader_want_new_name ct_Reader_want_new_name), sl_Reader_want_new_name⟩)
    (h282 : PySem.W.codeIn K cd_Reader_want_new_name "Reader.want_new_name" = true)
    (h283 : PySem.W.keepIn K (.ref f_Reader_want_new_name) = true)
    (h284 : PySem.W.findIn K (.ref c_Reader) "want_told_name" = some (some (.ref f_Reader_want_told_name)))
    (h285 : PySem.W.isFn K (.ref f_Reader_want_told_name) = true)
    (h286 : K.lookup f_Reader_want_told_name = some ⟨oc_Reader_want_told_name, od_Reader_want_told_name, .func (PySem.W.fnOf "want_told_name" "Reader.want_told_name" (defArgs s_Reader_want_told_name) (defBody s_Reader_want_told_name) (defScope s_Reader_want_told_name) .none kV_Reader_want_told_name dc_Reader_want_told_name pm_Reader_want_told_name an_Reader_want_told_name cd_Reader_want_told_name ct_Reader_want_told_name), sl_Reader_want_told_name⟩)
    (h287 : PySem.W.codeIn K cd_Reader_want_told_name "Reader.want_told_name" = true)
    (h288 : PySem.W.keepIn K (.ref f_Reader_want_told_name) = true)
    (h289 : PySem.W.findIn K (.ref c_Reader) "want_standing_name" = some (some (.ref f_Reader_want_standing_name)))
    (h290 : PySem.W.isFn K (.ref f_Reader_want_standing_name) = true)
    (h291 : K.lookup f_Reader_want_standing_name = some ⟨oc_Reader_want_standing_name, od_Reader_want_standing_name, .func (PySem.W.fnOf "want_standing_name" "Reader.want_standing_name" (defArgs s_Reader_want_standing_name) (defBody s_Reader_want_standing_name) (defScope s_Reader_want_standing_name) .none kV_Reader_want_standing_name dc_Reader_want_standing_name pm_Reader_want_standing_name an_Reader_want_standing_name cd_Reader_want_standing_name ct_Reader_want_standing_name), sl_Reader_want_standing_name⟩)
    (h292 : PySem.W.codeIn K cd_Reader_want_standing_name "Reader.want_standing_name" = true)
    (h293 : PySem.W.keepIn K (.ref f_Reader_want_standing_name) = true)
    (h294 : K.lookup c_Fault = some (excClassObj nm_Fault q_Fault c_Fault N_Fault bs_Fault bm_Fault true sn_Fault sub_Fault ab_Fault col_Fault dd_Fault y0_Fault y1_Fault y2_Fault y3_Fault y5_Fault "Exception.__new__"))
    (h295 : excTail bm_Fault = true)
    (h296 : PySem.W.readsIn K c_Fault (.type "type") = true)
    (h297 : PySem.W.specialIn K (.ref c_Fault) "__getattribute__" = some (some (.builtin "type.__getattribute__")))
    (h298 : PySem.W.findCls K (.ref c_Fault) (.type "type") "__init__" = some (.val (.ref f_Fault_init)))
    (h299 : K.lookup c_ByteFault = some (excClassObj nm_ByteFault q_ByteFault c_ByteFault N_ByteFault bs_ByteFault bm_ByteFault true sn_ByteFault sub_ByteFault ab_ByteFault col_ByteFault dd_ByteFault y0_ByteFault y1_ByteFault y2_ByteFault y3_ByteFault y5_ByteFault "Exception.__new__"))
    (h300 : excTail bm_ByteFault = true)
    (h301 : PySem.W.keepIn K (.ref c_ByteFault) = true)
    (h302 : PySem.W.findIn K (.ref c_ByteFault) "__setattr__" = some (some (.builtin "object.__setattr__")))
    (h303 : PySem.W.findIn K (.ref c_ByteFault) "__getattribute__" = some (some (.builtin "BaseException.__getattribute__")))
    (h304 : PySem.W.findIn K (.ref c_ByteFault) "__getattr__" = some none)
    (h305 : PySem.W.mroIn K c_ByteFault (.ref c_Fault) = some true)
    (h306 : PySem.W.findIn K (.ref c_ByteFault) "kind" = some none)
    (h307 : PySem.W.findIn K (.ref c_ByteFault) "place" = some none)
    (h308 : K.lookup c_NumberFault = some (excClassObj nm_NumberFault q_NumberFault c_NumberFault N_NumberFault bs_NumberFault bm_NumberFault true sn_NumberFault sub_NumberFault ab_NumberFault col_NumberFault dd_NumberFault y0_NumberFault y1_NumberFault y2_NumberFault y3_NumberFault y5_NumberFault "Exception.__new__"))
    (h309 : excTail bm_NumberFault = true)
    (h310 : PySem.W.keepIn K (.ref c_NumberFault) = true)
    (h311 : PySem.W.findIn K (.ref c_NumberFault) "__setattr__" = some (some (.builtin "object.__setattr__")))
    (h312 : PySem.W.findIn K (.ref c_NumberFault) "__getattribute__" = some (some (.builtin "BaseException.__getattribute__")))
    (h313 : PySem.W.findIn K (.ref c_NumberFault) "__getattr__" = some none)
    (h314 : PySem.W.mroIn K c_NumberFault (.ref c_Fault) = some true)
    (h315 : PySem.W.findIn K (.ref c_NumberFault) "kind" = some none)
    (h316 : PySem.W.findIn K (.ref c_NumberFault) "place" = some none)
    (h317 : K.lookup c_WantFault = some (excClassObj nm_WantFault q_WantFault c_WantFault N_WantFault bs_WantFault bm_WantFault true sn_WantFault sub_WantFault ab_WantFault col_WantFault dd_WantFault y0_WantFault y1_WantFault y2_WantFault y3_WantFault y5_WantFault "Exception.__new__"))
    (h318 : excTail bm_WantFault = true)
    (h319 : PySem.W.keepIn K (.ref c_WantFault) = true)
    (h320 : PySem.W.findIn K (.ref c_WantFault) "__setattr__" = some (some (.builtin "object.__setattr__")))
    (h321 : PySem.W.findIn K (.ref c_WantFault) "__getattribute__" = some (some (.builtin "BaseException.__getattribute__")))
    (h322 : PySem.W.findIn K (.ref c_WantFault) "__getattr__" = some none)
    (h323 : PySem.W.mroIn K c_WantFault (.ref c_Fault) = some true)
    (h324 : PySem.W.findIn K (.ref c_WantFault) "kind" = some none)
    (h325 : PySem.W.findIn K (.ref c_WantFault) "place" = some none)
    (h326 : K.lookup c_UntoldFault = some (excClassObj nm_UntoldFault q_UntoldFault c_UntoldFault N_UntoldFault bs_UntoldFault bm_UntoldFault true sn_UntoldFault sub_UntoldFault ab_UntoldFault col_UntoldFault dd_UntoldFault y0_UntoldFault y1_UntoldFault y2_UntoldFault y3_UntoldFault y5_UntoldFault "Exception.__new__"))
    (h327 : excTail bm_UntoldFault = true)
    (h328 : PySem.W.keepIn K (.ref c_UntoldFault) = true)
    (h329 : PySem.W.findIn K (.ref c_UntoldFault) "__setattr__" = some (some (.builtin "object.__setattr__")))
    (h330 : PySem.W.findIn K (.ref c_UntoldFault) "__getattribute__" = some (some (.builtin "BaseException.__getattribute__")))
    (h331 : PySem.W.findIn K (.ref c_UntoldFault) "__getattr__" = some none)
    (h332 : PySem.W.mroIn K c_UntoldFault (.ref c_Fault) = some true)
    (h333 : PySem.W.findIn K (.ref c_UntoldFault) "kind" = some none)
    (h334 : PySem.W.findIn K (.ref c_UntoldFault) "place" = some none)
    (h335 : K.lookup c_AgainFault = some (excClassObj nm_AgainFault q_AgainFault c_AgainFault N_AgainFault bs_AgainFault bm_AgainFault true sn_AgainFault sub_AgainFault ab_AgainFault col_AgainFault dd_AgainFault y0_AgainFault y1_AgainFault y2_AgainFault y3_AgainFault y5_AgainFault "Exception.__new__"))
    (h336 : excTail bm_AgainFault = true)
    (h337 : PySem.W.keepIn K (.ref c_AgainFault) = true)
    (h338 : PySem.W.findIn K (.ref c_AgainFault) "__setattr__" = some (some (.builtin "object.__setattr__")))
    (h339 : PySem.W.findIn K (.ref c_AgainFault) "__getattribute__" = some (some (.builtin "BaseException.__getattribute__")))
    (h340 : PySem.W.findIn K (.ref c_AgainFault) "__getattr__" = some none)
    (h341 : PySem.W.mroIn K c_AgainFault (.ref c_Fault) = some true)
    (h342 : PySem.W.findIn K (.ref c_AgainFault) "kind" = some none)
    (h343 : PySem.W.findIn K (.ref c_AgainFault) "place" = some none)
    (h344 : K.lookup c_BoundFault = some (excClassObj nm_BoundFault q_BoundFault c_BoundFault N_BoundFault bs_BoundFault bm_BoundFault true sn_BoundFault sub_BoundFault ab_BoundFault col_BoundFault dd_BoundFault y0_BoundFault y1_BoundFault y2_BoundFault y3_BoundFault y5_BoundFault "Exception.__new__"))
    (h345 : excTail bm_BoundFault = true)
    (h346 : PySem.W.keepIn K (.ref c_BoundFault) = true)
    (h347 : PySem.W.findIn K (.ref c_BoundFault) "__setattr__" = some (some (.builtin "object.__setattr__")))
    (h348 : PySem.W.findIn K (.ref c_BoundFault) "__getattribute__" = some (some (.builtin "BaseException.__getattribute__")))
    (h349 : PySem.W.findIn K (.ref c_BoundFault) "__getattr__" = some none)
    (h350 : PySem.W.mroIn K c_BoundFault (.ref c_Fault) = some true)
    (h351 : PySem.W.findIn K (.ref c_BoundFault) "kind" = some none)
    (h352 : PySem.W.findIn K (.ref c_BoundFault) "place" = some none)
    (h353 : K.lookup c_SumsFault = some (excClassObj nm_SumsFault q_SumsFault c_SumsFault N_SumsFault bs_SumsFault bm_SumsFault true sn_SumsFault sub_SumsFault ab_SumsFault col_SumsFault dd_SumsFault y0_SumsFault y1_SumsFault y2_SumsFault y3_SumsFault y5_SumsFault "Exception.__new__"))
    (h354 : excTail bm_SumsFault = true)
    (h355 : PySem.W.keepIn K (.ref c_SumsFault) = true)
    (h356 : PySem.W.findIn K (.ref c_SumsFault) "__setattr__" = some (some (.builtin "object.__setattr__")))
    (h357 : PySem.W.findIn K (.ref c_SumsFault) "__getattribute__" = some (some (.builtin "BaseException.__getattribute__")))
    (h358 : PySem.W.findIn K (.ref c_SumsFault) "__getattr__" = some none)
    (h359 : PySem.W.mroIn K c_SumsFault (.ref c_Fault) = some true)
    (h360 : PySem.W.findIn K (.ref c_SumsFault) "kind" = some none)
    (h361 : PySem.W.findIn K (.ref c_SumsFault) "place" = some none)
    (h362 : PySem.W.plainGet K c_Names Str.empty = true)
    (h363 : PySem.W.hasDictIn K c_Names = true)
    (h364 : PySem.W.plainOver K c_Names = true)
    (h365 : PySem.W.findIn K (.ref c_Names) "__setattr__" = some (some (.builtin "object.__setattr__")))
    (h366 : PySem.W.makesIn K c_Names = true)
    (h367 : PySem.W.keepIn K (.ref c_Names) = true)
    (h368 : PySem.W.findIn K (.ref c_Names) "told" = some none)
    (h369 : PySem.W.findIn K (.ref c_Names) "standing" = some none)
    (h370 : PySem.W.findIn K (.ref c_Names) "amounts" = some none)
    (h371 : PySem.W.plainGet K c_Token Str.empty = true)
    (h372 : PySem.W.hasDictIn K c_Token = true)
    (h373 : PySem.W.plainOver K c_Token = true)
    (h374 : PySem.W.findIn K (.ref c_Token) "__setattr__" = some (some (.builtin "object.__setattr__")))
    (h375 : PySem.W.makesIn K c_Token = true)
    (h376 : PySem.W.keepIn K (.ref c_Token) = true)
    (h377 : PySem.W.findIn K (.ref c_Token) "kind" = some none)
    (h378 : PySem.W.findIn K (.ref c_Token) "text" = some none)
    (h379 : PySem.W.findIn K (.ref c_Token) "number" = some none)
    (h380 : PySem.W.findIn K (.ref c_Token) "place" = some none)
    (h381 : PySem.W.findIn K (.ref c_Token) "after" = some none)
    (h382 : PySem.W.plainGet K c_Reader Str.empty = true)
    (h383 : PySem.W.hasDictIn K c_Reader = true)
    (h384 : PySem.W.plainOver K c_Reader = true)
    (h385 : PySem.W.findIn K (.ref c_Reader) "__setattr__" = some (some (.builtin "object.__setattr__")))
    (h386 : PySem.W.makesIn K c_Reader = true)
    (h387 : PySem.W.keepIn K (.ref c_Reader) = true)
    (h388 : PySem.W.findIn K (.ref c_Reader) "source" = some none)
    (h389 : PySem.W.findIn K (.ref c_Reader) "ahead" = some none)
    (h390 : PySem.W.findIn K (.ref c_Reader) "after" = some none)
    (h391 : PySem.W.findIn K (.ref c_Reader) "depth" = some none)
    (h392 : PySem.W.findIn K (.ref c_Reader) "names" = some none)
    (h393 : PySem.W.nsIn K mainGlobals "SIZES" = some (some (.str "sizes" k_SIZES)))
    (h394 : PySem.W.nsIn K mainGlobals "YARNS" = some (some (.str "yarns" k_YARNS)))
    (h395 : PySem.W.nsIn K mainGlobals "NUMBERS" = some (some (.str "numbers" k_NUMBERS)))
    (h396 : PySem.W.nsIn K mainGlobals "WORDS" = some (some (.str "words" k_WORDS)))
    (h397 : PySem.W.nsIn K mainGlobals "BLOCKS" = some (some (.str "blocks" k_BLOCKS)))
    (h398 : PySem.W.nsIn K mainGlobals "MARKERS" = some (some (.str "markers" k_MARKERS)))
    (h399 : PySem.W.nsIn K mainGlobals "HOLDERS" = some (some (.str "holders" k_HOLDERS)))
    (h400 : PySem.W.nsIn K mainGlobals "BOUNDS" = some (some (.ref t_BOUNDS)))
    (h401 : K.lookup t_BOUNDS = some ⟨.type "dict", none, .dict #[⟨x_BOUNDS0, .str "sizes" k_BOUNDS0, .int 16 v_BOUNDS0⟩, ⟨x_BOUNDS1, .str "yarns" k_BOUNDS1, .int 16 v_BOUNDS1⟩, ⟨x_BOUNDS2, .str "numbers" k_BOUNDS2, .int 256 v_BOUNDS2⟩, ⟨x_BOUNDS3, .str "words" k_BOUNDS3, .int 64 v_BOUNDS3⟩, ⟨x_BOUNDS4, .str "blocks" k_BOUNDS4, .int 64 v_BOUNDS4⟩, ⟨x_BOUNDS5, .str "markers" k_BOUNDS5, .int 64 v_BOUNDS5⟩, ⟨x_BOUNDS6, .str "holders" k_BOUNDS6, .int 16 v_BOUNDS6⟩] ep_BOUNDS, #[]⟩)
    (h402 : x_BOUNDS0 = keyH w (.inr "sizes"))
    (h403 : x_BOUNDS1 = keyH w (.inr "yarns"))
    (h404 : x_BOUNDS2 = keyH w (.inr "numbers"))
    (h405 : x_BOUNDS3 = keyH w (.inr "words"))
    (h406 : x_BOUNDS4 = keyH w (.inr "blocks"))
    (h407 : x_BOUNDS5 = keyH w (.inr "markers"))
    (h408 : x_BOUNDS6 = keyH w (.inr "holders"))
    (h409 : (t_BOUNDS == sysModules) = false)
    (h410 : PySem.W.nsIn K mainGlobals "END" = some (some (.str "end" k_END)))
    (h411 : PySem.W.nsIn K mainGlobals "NAME" = some (some (.str "name" k_NAME)))
    (h412 : PySem.W.nsIn K mainGlobals "NUMBER" = some (some (.str "number" k_NUMBER)))
    (h413 : PySem.W.nsIn K mainGlobals "FIXED" = some (some (.str "fixed" k_FIXED)))
    (h414 : PySem.W.nsIn K mainGlobals "DIGIT_WORDS" = some (some (.ref t_DIGIT_WORDS)))
    (h415 : K.lookup t_DIGIT_WORDS = some ⟨.type "tuple", oc_DIGIT_WORDS, .seq #[.str "k2tog" k_DIGIT_WORDS0, .str "k3tog" k_DIGIT_WORDS1, .str "p2tog" k_DIGIT_WORDS2, .str "m1l" k_DIGIT_WORDS3, .str "m1r" k_DIGIT_WORDS4] n_DIGIT_WORDS, sl_DIGIT_WORDS⟩)
    (h416 : PySem.W.nsIn K mainGlobals "LONGEST_DIGIT_WORD" = some (some (.int 5 k_LONGEST_DIGIT_WORD)))
    (h417 : PySem.W.nsIn K mainGlobals "PLAIN" = some (some (.ref t_PLAIN)))
    (h418 : K.lookup t_PLAIN = some ⟨.type "tuple", oc_PLAIN, .seq #[.str "k" k_PLAIN0, .str "p" k_PLAIN1, .str "ktbl" k_PLAIN2, .str "ptbl" k_PLAIN3, .str "yo" k_PLAIN4, .str "k2tog" k_PLAIN5, .str "k3tog" k_PLAIN6, .str "ssk" k_PLAIN7, .str "sssk" k_PLAIN8, .str "p2tog" k_PLAIN9, .str "ssp" k_PLAIN10, .str "cdd" k_PLAIN11, .str "kfb" k_PLAIN12, .str "pfb" k_PLAIN13, .str "kp" k_PLAIN14, .str "m1l" k_PLAIN15, .str "m1r" k_PLAIN16, .str "sl" k_PLAIN17, .str "slf" k_PLAIN18, .str "pso" k_PLAIN19, .str "even" k_PLAIN20, .str "co" k_PLAIN21, .str "bo" k_PLAIN22] n_PLAIN, sl_PLAIN⟩)
    (h419 : PySem.W.nsIn K mainGlobals "OTHER_WORDS" = some (some (.ref t_OTHER_WORDS)))
    (h420 : K.lookup t_OTHER_WORDS = some ⟨.type "tuple", oc_OTHER_WORDS, .seq #[.str "pattern" k_OTHER_WORDS0, .str "sizes" k_OTHER_WORDS1, .str "yarns" k_OTHER_WORDS2, .str "let" k_OTHER_WORDS3, .str "word" k_OTHER_WORDS4, .str "block" k_OTHER_WORDS5, .str "on" k_OTHER_WORDS6, .str "round" k_OTHER_WORDS7, .str "row" k_OTHER_WORDS8, .str "rs" k_OTHER_WORDS9, .str "ws" k_OTHER_WORDS10, .str "repeat" k_OTHER_WORDS11, .str "until" k_OTHER_WORDS12, .str "work" k_OTHER_WORDS13, .str "off" k_OTHER_WORDS14, .str "to" k_OTHER_WORDS15, .str "end" k_OTHER_WORDS16, .str "last" k_OTHER_WORDS17, .str "mark" k_OTHER_WORDS18, .str "cl" k_OTHER_WORDS19, .str "cr" k_OTHER_WORDS20, .str "hold" k_OTHER_WORDS21, .str "take" k_OTHER_WORDS22, .str "yarn" k_OTHER_WORDS23, .str "pass" k_OTHER_WORDS24, .str "clear" k_OTHER_WORDS25, .str "turn" k_OTHER_WORDS26, .str "fasten" k_OTHER_WORDS27] n_OTHER_WORDS, sl_OTHER_WORDS⟩)
    (h421 : PySem.W.nsIn K mainGlobals "SIGNS" = some (some (.ref t_SIGNS)))
    (h422 : K.lookup t_SIGNS = some ⟨.type "dict", none, .dict #[⟨x_SIGNS0, .int 40 k_SIGNS0, .str "(" v_SIGNS0⟩, ⟨x_SIGNS1, .int 41 k_SIGNS1, .str ")" v_SIGNS1⟩, ⟨x_SIGNS2, .int 42 k_SIGNS2, .str "*" v_SIGNS2⟩, ⟨x_SIGNS3, .int 43 k_SIGNS3, .str "+" v_SIGNS3⟩, ⟨x_SIGNS4, .int 44 k_SIGNS4, .str "," v_SIGNS4⟩, ⟨x_SIGNS5, .int 45 k_SIGNS5, .str "-" v_SIGNS5⟩, ⟨x_SIGNS6, .int 47 k_SIGNS6, .str "/" v_SIGNS6⟩, ⟨x_SIGNS7, .int 59 k_SIGNS7, .str ";" v_SIGNS7⟩, ⟨x_SIGNS8, .int 61 k_SIGNS8, .str "=" v_SIGNS8⟩, ⟨x_SIGNS9, .int 91 k_SIGNS9, .str "[" v_SIGNS9⟩, ⟨x_SIGNS10, .int 93 k_SIGNS10, .str "]" v_SIGNS10⟩, ⟨x_SIGNS11, .int 123 k_SIGNS11, .str "{" v_SIGNS11⟩, ⟨x_SIGNS12, .int 125 k_SIGNS12, .str "}" v_SIGNS12⟩] ep_SIGNS, #[]⟩)
    (h423 : x_SIGNS0 = keyH w (.inl 40))
    (h424 : x_SIGNS1 = keyH w (.inl 41))
    (h425 : x_SIGNS2 = keyH w (.inl 42))
    (h426 : x_SIGNS3 = keyH w (.inl 43))
    (h427 : x_SIGNS4 = keyH w (.inl 44))
    (h428 : x_SIGNS5 = keyH w (.inl 45))
    (h429 : x_SIGNS6 = keyH w (.inl 47))
    (h430 : x_SIGNS7 = keyH w (.inl 59))
    (h431 : x_SIGNS8 = keyH w (.inl 61))
    (h432 : x_SIGNS9 = keyH w (.inl 91))
    (h433 : x_SIGNS10 = keyH w (.inl 93))
    (h434 : x_SIGNS11 = keyH w (.inl 123))
    (h435 : x_SIGNS12 = keyH w (.inl 125))
    (h436 : (t_SIGNS == sysModules) = false)
    (h437 : PySem.W.nsIn K mainGlobals "LETTERS" = some (some (.str "abcdefghijklmnopqrstuvwxyz" k_LETTERS)))
    (h438 : PySem.W.nsIn K mainGlobals "DIGITS" = some (some (.str "0123456789" k_DIGITS)))
    (h439 : PySem.W.nsIn K mainGlobals "LINE_END" = some (some (.int 10 k_LINE_END)))
    (h440 : PySem.W.nsIn K mainGlobals "BLANK" = some (some (.int 32 k_BLANK)))
    (h441 : PySem.W.nsIn K mainGlobals "HASH" = some (some (.int 35 k_HASH)))
    (h442 : PySem.W.nsIn K mainGlobals "ZERO" = some (some (.int 48 k_ZERO)))
    (h443 : PySem.W.nsIn K mainGlobals "NINE" = some (some (.int 57 k_NINE)))
    (h444 : PySem.W.nsIn K mainGlobals "UNDERSCORE" = some (some (.int 95 k_UNDERSCORE)))
    (h445 : PySem.W.nsIn K mainGlobals "LOWER_A" = some (some (.int 97 k_LOWER_A)))
    (h446 : PySem.W.nsIn K mainGlobals "LOWER_Z" = some (some (.int 122 k_LOWER_Z)))
    (h447 : PySem.W.nsIn K mainGlobals "FIRST_BYTE" = some (some (.int 32 k_FIRST_BYTE)))
    (h448 : PySem.W.nsIn K mainGlobals "LAST_BYTE" = some (some (.int 126 k_LAST_BYTE)))
    (h449 : PySem.W.nsIn K mainGlobals "LARGEST_NUMBER" = some (some (.int 1048576 k_LARGEST_NUMBER)))
    (h450 : PySem.W.nsIn K mainGlobals "HEADS" = some (some (.ref t_HEADS)))
    (h451 : K.lookup t_HEADS = some ⟨.type "tuple", oc_HEADS, .seq #[.str "sizes" k_HEADS0, .str "yarns" k_HEADS1, .str "let" k_HEADS2, .str "word" k_HEADS3, .str "block" k_HEADS4] n_HEADS, sl_HEADS⟩)
    (h452 : PySem.W.nsIn K mainGlobals "STATS" = some (some (.ref t_STATS)))
    (h453 : K.lookup t_STATS = some ⟨.type "tuple", oc_STATS, .seq #[.str "on" k_STATS0, .str "row" k_STATS1, .str "repeat" k_STATS2, .str "until" k_STATS3, .str "work" k_STATS4, .str "off" k_STATS5] n_STATS, sl_STATS⟩)
    (h454 : PySem.W.nsIn K mainGlobals "LONES" = some (some (.ref t_LONES)))
    (h455 : K.lookup t_LONES = some ⟨.type "tuple", oc_LONES, .seq #[.str "take" k_LONES0, .str "yarn" k_LONES1, .str "mark" k_LONES2, .str "pass" k_LONES3, .str "clear" k_LONES4, .str "turn" k_LONES5, .str "fasten" k_LONES6] n_LONES, sl_LONES⟩)
    (h456 : PySem.W.nsIn K mainGlobals "LARGEST_CROSSING" = some (some (.int 16 k_LARGEST_CROSSING)))
    (h457 : PySem.W.nsIn K mainGlobals "DEEPEST" = some (some (.int 8 k_DEEPEST)))
    (h458 : PySem.W.nsIn K mainGlobals "LONGEST_TEXT" = some (some (.int 16384 k_LONGEST_TEXT)))
    (h459 : PySem.W.nsIn K mainGlobals "len" = some none)
    (h460 : PySem.W.nsIn K mainGlobals "min" = some none)
    : ∃ fd : FuncData, (∀ (s : Shared) (us : List Value), us.length = (["t"] : List Str).length → BindsTo s fd ⟨us, []⟩ ((["t"] : List Str).zip us)) ∧ ∀ base : Heap, K.In base → base.Ns mainGlobals mg → FnOk P w K mg base CX0 100 fa fd ["t"] (spJudge K) := by
  have e := hfa.symm.trans (PySem.W.mg_of X G h151)
  cases e
  have F_token_at := fun_mk (st := s_token_at) h12 h13 h14
  have B_token_at := F_token_at.binds (ps := ["t", "start"]) fun _ _ _ _ _ _ us hl => match us, hl with | [_, _], _ => rfl
  have F_skip_blanks := fun_mk (st := s_skip_blanks) h16 h17 h18
  have B_skip_blanks := F_skip_blanks.binds (ps := ["t", "start"]) fun _ _ _ _ _ _ us hl => match us, hl with | [_, _], _ => rfl
  have F_skip_comment := fun_mk (st := s_skip_comment) h20 h21 h22
  have B_skip_comment := F_skip_comment.binds (ps := ["t", "start"]) fun _ _ _ _ _ _ us hl => match us, hl with | [_, _], _ => rfl
  have F_word_token := fun_mk (st := s_word_token) h24 h25 h26
  have B_word_token := F_word_token.binds (ps := ["t", "place"]) fun _ _ _ _ _ _ us hl => match us, hl with | [_, _], _ => rfl
  have F_digit_word_at := fun_mk (st := s_digit_word_at) h28 h29 h30
  have B_digit_word_at := F_digit_word_at.binds (ps := ["t", "place"]) fun _ _ _ _ _ _ us hl => match us, hl with | [_, _], _ => rfl
  have F_number_token := fun_mk (st := s_number_token) h32 h33 h34
  have B_number_token := F_number_token.binds (ps := ["t", "place"]) fun _ _ _ _ _ _ us hl => match us, hl with | [_, _], _ => rfl
  have F_spelled := fun_mk (st := s_spelled) h36 h37 h38
  have B_spelled := F_spelled.binds (ps := ["codes"]) fun _ _ _ _ _ _ us hl => match us, hl with | [_], _ => rfl
  have F_sign_of := fun_mk (st := s_sign_of) h40 h41 h42
  have B_sign_of := F_sign_of.binds (ps := ["byte"]) fun _ _ _ _ _ _ us hl => match us, hl with | [_], _ => rfl
  have F_is_letter := fun_mk (st := s_is_letter) h44 h45 h46
  have B_is_letter := F_is_letter.binds (ps := ["byte"]) fun _ _ _ _ _ _ us hl => match us, hl with | [_], _ => rfl
  have F_is_digit := fun_mk (st := s_is_digit) h48 h49 h50
  have B_is_digit := F_is_digit.binds (ps := ["byte"]) fun _ _ _ _ _ _ us hl => match us, hl with | [_], _ => rfl
  have F_is_letter_digit_or_underscore := fun_mk (st := s_is_letter_digit_or_underscore) h52 h53 h54
  have B_is_letter_digit_or_underscore := F_is_letter_digit_or_underscore.binds (ps := ["byte"]) fun _ _ _ _ _ _ us hl => match us, hl with | [_], _ => rfl
  have F_read_pattern := fun_mk (st := s_read_pattern) h56 h57 h58
  have B_read_pattern := F_read_pattern.binds (ps := ["reader"]) fun _ _ _ _ _ _ us hl => match us, hl with | [_], _ => rfl
  have F_read_head := fun_mk (st := s_read_head) h60 h61 h62
  have B_read_head := F_read_head.binds (ps := ["reader"]) fun _ _ _ _ _ _ us hl => match us, hl with | [_], _ => rfl
  have F_read_sizes := fun_mk (st := s_read_sizes) h64 h65 h66
  have B_read_sizes := F_read_sizes.binds (ps := ["reader", "token"]) fun _ _ _ _ _ _ us hl => match us, hl with | [_, _], _ => rfl
  have F_read_yarns := fun_mk (st := s_read_yarns) h68 h69 h70
  have B_read_yarns := F_read_yarns.binds (ps := ["reader", "token"]) fun _ _ _ _ _ _ us hl => match us, hl with | [_, _], _ => rfl
  have F_read_new_names := fun_mk (st := s_read_new_names) h72 h73 h74
  have B_read_new_names := F_read_new_names.binds (ps := ["reader", "kind"]) fun _ _ _ _ _ _ us hl => match us, hl with | [_, _], _ => rfl
  have F_read_let := fun_mk (st := s_read_let) h76 h77 h78
  have B_read_let := F_read_let.binds (ps := ["reader"]) fun _ _ _ _ _ _ us hl => match us, hl with | [_], _ => rfl
  have F_read_word := fun_mk (st := s_read_word) h80 h81 h82
  have B_read_word := F_read_word.binds (ps := ["reader"]) fun _ _ _ _ _ _ us hl => match us, hl with | [_], _ => rfl
  have F_read_block := fun_mk (st := s_read_block) h84 h85 h86
  have B_read_block := F_read_block.binds (ps := ["reader"]) fun _ _ _ _ _ _ us hl => match us, hl with | [_], _ => rfl
  have F_read_braces := fun_mk (st := s_read_braces) h88 h89 h90
  have B_read_braces := F_read_braces.binds (ps := ["reader"]) fun _ _ _ _ _ _ us hl => match us, hl with | [_], _ => rfl
  have F_read_stats := fun_mk (st := s_read_stats) h92 h93 h94
  have B_read_stats := F_read_stats.binds (ps := ["reader"]) fun _ _ _ _ _ _ us hl => match us, hl with | [_], _ => rfl
  have F_read_stat := fun_mk (st := s_read_stat) h96 h97 h98
  have B_read_stat := F_read_stat.binds (ps := ["reader"]) fun _ _ _ _ _ _ us hl => match us, hl with | [_], _ => rfl
  have F_read_row := fun_mk (st := s_read_row) h100 h101 h102
  have B_read_row := F_read_row.binds (ps := ["reader"]) fun _ _ _ _ _ _ us hl => match us, hl with | [_], _ => rfl
  have F_read_work := fun_mk (st := s_read_work) h104 h105 h106
  have B_read_work := F_read_work.binds (ps := ["reader"]) fun _ _ _ _ _ _ us hl => match us, hl with | [_], _ => rfl
  have F_read_row_items := fun_mk (st := s_read_row_items) h108 h109 h110
  have B_read_row_items := F_read_row_items.binds (ps := ["reader"]) fun _ _ _ _ _ _ us hl => match us, hl with | [_], _ => rfl
  have F_read_row_item := fun_mk (st := s_read_row_item) h112 h113 h114
  have B_read_row_item := F_read_row_item.binds (ps := ["reader"]) fun _ _ _ _ _ _ us hl => match us, hl with | [_], _ => rfl
  have F_read_goal := fun_mk (st := s_read_goal) h116 h117 h118
  have B_read_goal := F_read_goal.binds (ps := ["reader"]) fun _ _ _ _ _ _ us hl => match us, hl with | [_], _ => rfl
  have F_read_unit := fun_mk (st := s_read_unit) h120 h121 h122
  have B_read_unit := F_read_unit.binds (ps := ["reader"]) fun _ _ _ _ _ _ us hl => match us, hl with | [_], _ => rfl
  have F_read_crossing := fun_mk (st := s_read_crossing) h124 h125 h126
  have B_read_crossing := F_read_crossing.binds (ps := ["reader"]) fun _ _ _ _ _ _ us hl => match us, hl with | [_], _ => rfl
  have F_read_crossing_number := fun_mk (st := s_read_crossing_number) h128 h129 h130
  have B_read_crossing_number := F_read_crossing_number.binds (ps := ["reader"]) fun _ _ _ _ _ _ us hl => match us, hl with | [_], _ => rfl
  have F_read_lone := fun_mk (st := s_read_lone) h132 h133 h134
  have B_read_lone := F_read_lone.binds (ps := ["reader"]) fun _ _ _ _ _ _ us hl => match us, hl with | [_], _ => rfl
  have F_begins_sum := fun_mk (st := s_begins_sum) h136 h137 h138
  have B_begins_sum := F_begins_sum.binds (ps := ["token"]) fun _ _ _ _ _ _ us hl => match us, hl with | [_], _ => rfl
  have F_read_sum := fun_mk (st := s_read_sum) h140 h141 h142
  have B_read_sum := F_read_sum.binds (ps := ["reader"]) fun _ _ _ _ _ _ us hl => match us, hl with | [_], _ => rfl
  have F_read_product := fun_mk (st := s_read_product) h144 h145 h146
  have B_read_product := F_read_product.binds (ps := ["reader"]) fun _ _ _ _ _ _ us hl => match us, hl with | [_], _ => rfl
  have F_read_factor := fun_mk (st := s_read_factor) h148 h149 h150
  have B_read_factor := F_read_factor.binds (ps := ["reader"]) fun _ _ _ _ _ _ us hl => match us, hl with | [_], _ => rfl
  have F_judge := fun_mk (st := s_judge) h152 h153 h154
  have B_judge := F_judge.binds (ps := ["t"]) fun _ _ _ _ _ _ us hl => match us, hl with | [_], _ => rfl
  have F_read_text := fun_mk (st := s_read_text) h156 h157 h158
  have B_read_text := F_read_text.binds (ps := ["t"]) fun _ _ _ _ _ _ us hl => match us, hl with | [_], _ => rfl
  have F_Fault_init := fun_mk (st := s_Fault_init) h161 h162 h163
  have B_Fault_init := F_Fault_init.binds (ps := ["self", "kind", "place"]) fun _ _ _ _ _ _ us hl => match us, hl with | [_, _, _], _ => rfl
  have F_ByteFault_init := fun_mk (st := s_ByteFault_init) h166 h167 h168
  have B_ByteFault_init := F_ByteFault_init.binds (ps := ["self", "place"]) fun _ _ _ _ _ _ us hl => match us, hl with | [_, _], _ => rfl
  have F_NumberFault_init := fun_mk (st := s_NumberFault_init) h171 h172 h173
  have B_NumberFault_init := F_NumberFault_init.binds (ps := ["self", "place"]) fun _ _ _ _ _ _ us hl => match us, hl with | [_, _], _ => rfl
  have F_WantFault_init := fun_mk (st := s_WantFault_init) h176 h177 h178
  have B_WantFault_init := F_WantFault_init.binds (ps := ["self", "place"]) fun _ _ _ _ _ _ us hl => match us, hl with | [_, _], _ => rfl
  have F_UntoldFault_init := fun_mk (st := s_UntoldFault_init) h181 h182 h183
  have B_UntoldFault_init := F_UntoldFault_init.binds (ps := ["self", "place"]) fun _ _ _ _ _ _ us hl => match us, hl with | [_, _], _ => rfl
  have F_AgainFault_init := fun_mk (st := s_AgainFault_init) h186 h187 h188
  have B_AgainFault_init := F_AgainFault_init.binds (ps := ["self", "place"]) fun _ _ _ _ _ _ us hl => match us, hl with | [_, _], _ => rfl
  have F_BoundFault_init := fun_mk (st := s_BoundFault_init) h191 h192 h193
  have B_BoundFault_init := F_BoundFault_init.binds (ps := ["self", "place"]) fun _ _ _ _ _ _ us hl => match us, hl with | [_, _], _ => rfl
  have F_SumsFault_init := fun_mk (st := s_SumsFault_init) h196 h197 h198
  have B_SumsFault_init := F_SumsFault_init.binds (ps := ["self", "place"]) fun _ _ _ _ _ _ us hl => match us, hl with | [_, _], _ => rfl
  have F_Names_init := fun_mk (st := s_Names_init) h201 h202 h203
  have B_Names_init := F_Names_init.binds (ps := ["self"]) fun _ _ _ _ _ _ us hl => match us, hl with | [_], _ => rfl
  have F_Names_amount := fun_mk (st := s_Names_amount) h206 h207 h208
  have B_Names_amount := F_Names_amount.binds (ps := ["self", "kind"]) fun _ _ _ _ _ _ us hl => match us, hl with | [_, _], _ => rfl
  have F_Names_check_new := fun_mk (st := s_Names_check_new) h211 h212 h213
  have B_Names_check_new := F_Names_check_new.binds (ps := ["self", "token", "kind"]) fun _ _ _ _ _ _ us hl => match us, hl with | [_, _, _], _ => rfl
  have F_Names_check_room := fun_mk (st := s_Names_check_room) h216 h217 h218
  have B_Names_check_room := F_Names_check_room.binds (ps := ["self", "token", "kind"]) fun _ _ _ _ _ _ us hl => match us, hl with | [_, _, _], _ => rfl
  have F_Names_tell := fun_mk (st := s_Names_tell) h221 h222 h223
  have B_Names_tell := F_Names_tell.binds (ps := ["self", "token", "kind"]) fun _ _ _ _ _ _ us hl => match us, hl with | [_, _, _], _ => rfl
  have F_Names_check_told := fun_mk (st := s_Names_check_told) h226 h227 h228
  have B_Names_check_told := F_Names_check_told.binds (ps := ["self", "token", "kind"]) fun _ _ _ _ _ _ us hl => match us, hl with | [_, _, _], _ => rfl
  have F_Names_stand := fun_mk (st := s_Names_stand) h231 h232 h233
  have B_Names_stand := F_Names_stand.binds (ps := ["self", "token", "kind"]) fun _ _ _ _ _ _ us hl => match us, hl with | [_, _, _], _ => rfl
  have F_Token_init := fun_mk (st := s_Token_init) h236 h237 h238
  have B_Token_init := F_Token_init.binds (ps := ["self", "kind", "text", "number", "place", "after"]) fun _ _ _ _ _ _ us hl => match us, hl with | [_, _, _, _, _, _], _ => rfl
  have F_Reader_init := fun_mk (st := s_Reader_init) h241 h242 h243
  have B_Reader_init := F_Reader_init.binds (ps := ["self", "t"]) fun _ _ _ _ _ _ us hl => match us, hl with | [_, _], _ => rfl
  have F_Reader_peek := fun_mk (st := s_Reader_peek) h246 h247 h248
  have B_Reader_peek := F_Reader_peek.binds (ps := ["self"]) fun _ _ _ _ _ _ us hl => match us, hl with | [_], _ => rfl
  have F_Reader_step := fun_mk (st := s_Reader_step) h251 h252 h253
  have B_Reader_step := F_Reader_step.binds (ps := ["self"]) fun _ _ _ _ _ _ us hl => match us, hl with | [_], _ => rfl
  have F_Reader_skip := fun_mk (st := s_Reader_skip) h256 h257 h258
  have B_Reader_skip := F_Reader_skip.binds (ps := ["self", "text"]) fun _ _ _ _ _ _ us hl => match us, hl with | [_, _], _ => rfl
  have F_Reader_want := fun_mk (st := s_Reader_want) h261 h262 h263
  have B_Reader_want := F_Reader_want.binds (ps := ["self", "text"]) fun _ _ _ _ _ _ us hl => match us, hl with | [_, _], _ => rfl
  have F_Reader_want_kind := fun_mk (st := s_Reader_want_kind) h266 h267 h268
  have B_Reader_want_kind := F_Reader_want_kind.binds (ps := ["self", "kind"]) fun _ _ _ _ _ _ us hl => match us, hl with | [_, _], _ => rfl
  have F_Reader_enter := fun_mk (st := s_Reader_enter) h271 h272 h273
  have B_Reader_enter := F_Reader_enter.binds (ps := ["self", "text"]) fun _ _ _ _ _ _ us hl => match us, hl with | [_, _], _ => rfl
  have F_Reader_leave := fun_mk (st := s_Reader_leave) h276 h277 h278
  have B_Reader_leave := F_Reader_leave.binds (ps := ["self", "text"]) fun _ _ _ _ _ _ us hl => match us, hl with | [_, _], _ => rfl
  have F_Reader_want_new_name := fun_mk (st := s_Reader_want_new_name) h281 h282 h283
  have B_Reader_want_new_name := F_Reader_want_new_name.binds (ps := ["self", "kind"]) fun _ _ _ _ _ _ us hl => match us, hl with | [_, _], _ => rfl
  have F_Reader_want_told_name := fun_mk (st := s_Reader_want_told_name) h286 h287 h288
  have B_Reader_want_told_name := F_Reader_want_told_name.binds (ps := ["self", "kind"]) fun _ _ _ _ _ _ us hl => match us, hl with | [_, _], _ => rfl
  have F_Reader_want_standing_name := fun_mk (st := s_Reader_want_standing_name) h291 h292 h293
  have B_Reader_want_standing_name := F_Reader_want_standing_name.binds (ps := ["self", "kind"]) fun _ _ _ _ _ _ us hl => match us, hl with | [_, _], _ => rfl
  have M_BOUNDS : ModDict P w K t_BOUNDS [(.inr "sizes", .int 16), (.inr "yarns", .int 16), (.inr "numbers", .int 256), (.inr "words", .int 64), (.inr "blocks", .int 64), (.inr "markers", .int 64), (.inr "holders", .int 16)] := by
    refine ⟨fun hh XX => ⟨[(.inr "sizes", .int 16 v_BOUNDS0), (.inr "yarns", .int 16 v_BOUNDS1), (.inr "numbers", .int 256 v_BOUNDS2), (.inr "words", .int 64 v_BOUNDS3), (.inr "blocks", .int 64 v_BOUNDS4), (.inr "markers", .int 64 v_BOUNDS5), (.inr "holders", .int 16 v_BOUNDS6)], (.cons ⟨rfl, ⟨_, rfl⟩⟩ (.cons ⟨rfl, ⟨_, rfl⟩⟩ (.cons ⟨rfl, ⟨_, rfl⟩⟩ (.cons ⟨rfl, ⟨_, rfl⟩⟩ (.cons ⟨rfl, ⟨_, rfl⟩⟩ (.cons ⟨rfl, ⟨_, rfl⟩⟩ (.cons ⟨rfl, ⟨_, rfl⟩⟩ .nil))))))), _, _, _, XX _ _ h401, ⟨rfl, rfl, rfl⟩, rfl, ?_, (.cons rfl rfl (.cons rfl rfl (.cons rfl rfl (.cons rfl rfl (.cons rfl rfl (.cons rfl rfl (.cons rfl rfl .nil))))))), (show ([.inr "sizes", .inr "yarns", .inr "numbers", .inr "words", .inr "blocks", .inr "markers", .inr "holders"] : List Key).Nodup by decide +kernel)⟩, h409⟩
    intro e he
    simp only [List.mem_toArray, List.mem_cons, List.not_mem_nil, or_false] at he
    rcases he with rfl | rfl | rfl | rfl | rfl | rfl | rfl
    · exact ⟨.inr "sizes", rfl, h402⟩
    · exact ⟨.inr "yarns", rfl, h403⟩
    · exact ⟨.inr "numbers", rfl, h404⟩
    · exact ⟨.inr "words", rfl, h405⟩
    · exact ⟨.inr "blocks", rfl, h406⟩
    · exact ⟨.inr "markers", rfl, h407⟩
    · exact ⟨.inr "holders", rfl, h408⟩
  have M_SIGNS : ModDict P w K t_SIGNS [(.inl 40, .str "("), (.inl 41, .str ")"), (.inl 42, .str "*"), (.inl 43, .str "+"), (.inl 44, .str ","), (.inl 45, .str "-"), (.inl 47, .str "/"), (.inl 59, .str ";"), (.inl 61, .str "="), (.inl 91, .str "["), (.inl 93, .str "]"), (.inl 123, .str "{"), (.inl 125, .str "}")] := by
    refine ⟨fun hh XX => ⟨[(.inl 40, .str "(" v_SIGNS0), (.inl 41, .str ")" v_SIGNS1), (.inl 42, .str "*" v_SIGNS2), (.inl 43, .str "+" v_SIGNS3), (.inl 44, .str "," v_SIGNS4), (.inl 45, .str "-" v_SIGNS5), (.inl 47, .str "/" v_SIGNS6), (.inl 59, .str ";" v_SIGNS7), (.inl 61, .str "=" v_SIGNS8), (.inl 91, .str "[" v_SIGNS9), (.inl 93, .str "]" v_SIGNS10), (.inl 123, .str "{" v_SIGNS11), (.inl 125, .str "}" v_SIGNS12)], (.cons ⟨rfl, ⟨_, rfl⟩⟩ (.cons ⟨rfl, ⟨_, rfl⟩⟩ (.cons ⟨rfl, ⟨_, rfl⟩⟩ (.cons ⟨rfl, ⟨_, rfl⟩⟩ (.cons ⟨rfl, ⟨_, rfl⟩⟩ (.cons ⟨rfl, ⟨_, rfl⟩⟩ (.cons ⟨rfl, ⟨_, rfl⟩⟩ (.cons ⟨rfl, ⟨_, rfl⟩⟩ (.cons ⟨rfl, ⟨_, rfl⟩⟩ (.cons ⟨rfl, ⟨_, rfl⟩⟩ (.cons ⟨rfl, ⟨_, rfl⟩⟩ (.cons ⟨rfl, ⟨_, rfl⟩⟩ (.cons ⟨rfl, ⟨_, rfl⟩⟩ .nil))))))))))))), _, _, _, XX _ _ h422, ⟨rfl, rfl, rfl⟩, rfl, ?_, (.cons rfl rfl (.cons rfl rfl (.cons rfl rfl (.cons rfl rfl (.cons rfl rfl (.cons rfl rfl (.cons rfl rfl (.cons rfl rfl (.cons rfl rfl (.cons rfl rfl (.cons rfl rfl (.cons rfl rfl (.cons rfl rfl .nil))))))))))))), (show ([.inl 40, .inl 41, .inl 42, .inl 43, .inl 44, .inl 45, .inl 47, .inl 59, .inl 61, .inl 91, .inl 93, .inl 123, .inl 125] : List Key).Nodup by decide +kernel)⟩, h436⟩
    intro e he
    simp only [List.mem_toArray, List.mem_cons, List.not_mem_nil, or_false] at he
    rcases he with rfl | rfl | rfl | rfl | rfl | rfl | rfl | rfl | rfl | rfl | rfl | rfl | rfl
    · exact ⟨.inl 40, rfl, h423⟩
    · exact ⟨.inl 41, rfl, h424⟩
    · exact ⟨.inl 42, rfl, h425⟩
    · exact ⟨.inl 43, rfl, h426⟩
    · exact ⟨.inl 44, rfl, h427⟩
    · exact ⟨.inl 45, rfl, h428⟩
    · exact ⟨.inl 47, rfl, h429⟩
    · exact ⟨.inl 59, rfl, h430⟩
    · exact ⟨.inl 61, rfl, h431⟩
    · exact ⟨.inl 91, rfl, h432⟩
    · exact ⟨.inl 93, rfl, h433⟩
    · exact ⟨.inl 123, rfl, h434⟩
    · exact ⟨.inl 125, rfl, h435⟩
  have T : Tx P w K mg ⟨f_token_at, (PySem.W.fnOf "token_at" "token_at" (defArgs s_token_at) (defBody s_token_at) (defScope s_token_at) .none kV_token_at dc_token_at pm_token_at an_token_at cd_token_at ct_token_at), f_skip_blanks, (PySem.W.fnOf "skip_blanks" "skip_blanks" (defArgs s_skip_blanks) (defBody s_skip_blanks) (defScope s_skip_blanks) .none kV_skip_blanks dc_skip_blanks pm_skip_blanks an_skip_blanks cd_skip_blanks ct_skip_blanks), f_skip_comment, (PySem.W.fnOf "skip_comment" "skip_comment" (defArgs s_skip_comment) (defBody s_skip_comment) (defScope s_skip_comment) .none kV_skip_comment dc_skip_comment pm_skip_comment an_skip_comment cd_skip_comment ct_skip_comment), f_word_token, (PySem.W.fnOf "word_token" "word_token" (defArgs s_word_token) (defBody s_word_token) (defScope s_word_token) .none kV_word_token dc_word_token pm_word_token an_word_token cd_word_token ct_word_token), f_digit_word_at, (PySem.W.fnOf "digit_word_at" "digit_word_at" (defArgs s_digit_word_at) (defBody s_digit_word_at) (defScope s_digit_word_at) .none kV_digit_word_at dc_digit_word_at pm_digit_word_at an_digit_word_at cd_digit_word_at ct_digit_word_at), f_number_token, (PySem.W.fnOf "number_token" "number_token" (defArgs s_number_token) (defBody s_number_token) (defScope s_number_token) .none kV_number_token dc_number_token pm_number_token an_number_token cd_number_token ct_number_token), f_spelled, (PySem.W.fnOf "spelled" "spelled" (defArgs s_spelled) (defBody s_spelled) (defScope s_spelled) .none kV_spelled dc_spelled pm_spelled an_spelled cd_spelled ct_spelled), f_sign_of, (PySem.W.fnOf "sign_of" "sign_of" (defArgs s_sign_of) (defBody s_sign_of) (defScope s_sign_of) .none kV_sign_of dc_sign_of pm_sign_of an_sign_of cd_sign_of ct_sign_of), f_is_letter, (PySem.W.fnOf "is_letter" "is_letter" (defArgs s_is_letter) (defBody s_is_letter) (defScope s_is_letter) .none kV_is_letter dc_is_letter pm_is_letter an_is_letter cd_is_letter ct_is_letter), f_is_digit, (PySem.W.fnOf "is_digit" "is_digit" (defArgs s_is_digit) (defBody s_is_digit) (defScope s_is_digit) .none kV_is_digit dc_is_digit pm_is_digit an_is_digit cd_is_digit ct_is_digit), f_is_letter_digit_or_underscore, (PySem.W.fnOf "is_letter_digit_or_underscore" "is_letter_digit_or_underscore" (defArgs s_is_letter_digit_or_underscore) (defBody s_is_letter_digit_or_underscore) (defScope s_is_letter_digit_or_underscore) .none kV_is_letter_digit_or_underscore dc_is_letter_digit_or_underscore pm_is_letter_digit_or_underscore an_is_letter_digit_or_underscore cd_is_letter_digit_or_underscore ct_is_letter_digit_or_underscore), f_read_pattern, (PySem.W.fnOf "read_pattern" "read_pattern" (defArgs s_read_pattern) (defBody s_read_pattern) (defScope s_read_pattern) .none kV_read_pattern dc_read_pattern pm_read_pattern an_read_pattern cd_read_pattern ct_read_pattern), f_read_head, (PySem.W.fnOf "read_head" "read_head" (defArgs s_read_head) (defBody s_read_head) (defScope s_read_head) .none kV_read_head dc_read_head pm_read_head an_read_head cd_read_head ct_read_head), f_read_sizes, (PySem.W.fnOf "read_sizes" "read_sizes" (defArgs s_read_sizes) (defBody s_read_sizes) (defScope s_read_sizes) .none kV_read_sizes dc_read_sizes pm_read_sizes an_read_sizes cd_read_sizes ct_read_sizes), f_read_yarns, (PySem.W.fnOf "read_yarns" "read_yarns" (defArgs s_read_yarns) (defBody s_read_yarns) (defScope s_read_yarns) .none kV_read_yarns dc_read_yarns pm_read_yarns an_read_yarns cd_read_yarns ct_read_yarns), f_read_new_names, (PySem.W.fnOf "read_new_names" "read_new_names" (defArgs s_read_new_names) (defBody s_read_new_names) (defScope s_read_new_names) .none kV_read_new_names dc_read_new_names pm_read_new_names an_read_new_names cd_read_new_names ct_read_new_names), f_read_let, (PySem.W.fnOf "read_let" "read_let" (defArgs s_read_let) (defBody s_read_let) (defScope s_read_let) .none kV_read_let dc_read_let pm_read_let an_read_let cd_read_let ct_read_let), f_read_word, (PySem.W.fnOf "read_word" "read_word" (defArgs s_read_word) (defBody s_read_word) (defScope s_read_word) .none kV_read_word dc_read_word pm_read_word an_read_word cd_read_word ct_read_word), f_read_block, (PySem.W.fnOf "read_block" "read_block" (defArgs s_read_block) (defBody s_read_block) (defScope s_read_block) .none kV_read_block dc_read_block pm_read_block an_read_block cd_read_block ct_read_block), f_read_braces, (PySem.W.fnOf "read_braces" "read_braces" (defArgs s_read_braces) (defBody s_read_braces) (defScope s_read_braces) .none kV_read_braces dc_read_braces pm_read_braces an_read_braces cd_read_braces ct_read_braces), f_read_stats, (PySem.W.fnOf "read_stats" "read_stats" (defArgs s_read_stats) (defBody s_read_stats) (defScope s_read_stats) .none kV_read_stats dc_read_stats pm_read_stats an_read_stats cd_read_stats ct_read_stats), f_read_stat, (PySem.W.fnOf "read_stat" "read_stat" (defArgs s_read_stat) (defBody s_read_stat) (defScope s_read_stat) .none kV_read_stat dc_read_stat pm_read_stat an_read_stat cd_read_stat ct_read_stat), f_read_row, (PySem.W.fnOf "read_row" "read_row" (defArgs s_read_row) (defBody s_read_row) (defScope s_read_row) .none kV_read_row dc_read_row pm_read_row an_read_row cd_read_row ct_read_row), f_read_work, (PySem.W.fnOf "read_work" "read_work" (defArgs s_read_work) (defBody s_read_work) (defScope s_read_work) .none kV_read_work dc_read_work pm_read_work an_read_work cd_read_work ct_read_work), f_read_row_items, (PySem.W.fnOf "read_row_items" "read_row_items" (defArgs s_read_row_items) (defBody s_read_row_items) (defScope s_read_row_items) .none kV_read_row_items dc_read_row_items pm_read_row_items an_read_row_items cd_read_row_items ct_read_row_items), f_read_row_item, (PySem.W.fnOf "read_row_item" "read_row_item" (defArgs s_read_row_item) (defBody s_read_row_item) (defScope s_read_row_item) .none kV_read_row_item dc_read_row_item pm_read_row_item an_read_row_item cd_read_row_item ct_read_row_item), f_read_goal, (PySem.W.fnOf "read_goal" "read_goal" (defArgs s_read_goal) (defBody s_read_goal) (defScope s_read_goal) .none kV_read_goal dc_read_goal pm_read_goal an_read_goal cd_read_goal ct_read_goal), f_read_unit, (PySem.W.fnOf "read_unit" "read_unit" (defArgs s_read_unit) (defBody s_read_unit) (defScope s_read_unit) .none kV_read_unit dc_read_unit pm_read_unit an_read_unit cd_read_unit ct_read_unit), f_read_crossing, (PySem.W.fnOf "read_crossing" "read_crossing" (defArgs s_read_crossing) (defBody s_read_crossing) (defScope s_read_crossing) .none kV_read_crossing dc_read_crossing pm_read_crossing an_read_crossing cd_read_crossing ct_read_crossing), f_read_crossing_number, (PySem.W.fnOf "read_crossing_number" "read_crossing_number" (defArgs s_read_crossing_number) (defBody s_read_crossing_number) (defScope s_read_crossing_number) .none kV_read_crossing_number dc_read_crossing_number pm_read_crossing_number an_read_crossing_number cd_read_crossing_number ct_read_crossing_number), f_read_lone, (PySem.W.fnOf "read_lone" "read_lone" (defArgs s_read_lone) (defBody s_read_lone) (defScope s_read_lone) .none kV_read_lone dc_read_lone pm_read_lone an_read_lone cd_read_lone ct_read_lone), f_begins_sum, (PySem.W.fnOf "begins_sum" "begins_sum" (defArgs s_begins_sum) (defBody s_begins_sum) (defScope s_begins_sum) .none kV_begins_sum dc_begins_sum pm_begins_sum an_begins_sum cd_begins_sum ct_begins_sum), f_read_sum, (PySem.W.fnOf "read_sum" "read_sum" (defArgs s_read_sum) (defBody s_read_sum) (defScope s_read_sum) .none kV_read_sum dc_read_sum pm_read_sum an_read_sum cd_read_sum ct_read_sum), f_read_product, (PySem.W.fnOf "read_product" "read_product" (defArgs s_read_product) (defBody s_read_product) (defScope s_read_product) .none kV_read_product dc_read_product pm_read_product an_read_product cd_read_product ct_read_product), f_read_factor, (PySem.W.fnOf "read_factor" "read_factor" (defArgs s_read_factor) (defBody s_read_factor) (defScope s_read_factor) .none kV_read_factor dc_read_factor pm_read_factor an_read_factor cd_read_factor ct_read_factor), fa, (PySem.W.fnOf "judge" "judge" (defArgs s_judge) (defBody s_judge) (defScope s_judge) .none kV_judge dc_judge pm_judge an_judge cd_judge ct_judge), f_read_text, (PySem.W.fnOf "read_text" "read_text" (defArgs s_read_text) (defBody s_read_text) (defScope s_read_text) .none kV_read_text dc_read_text pm_read_text an_read_text cd_read_text ct_read_text), f_Fault_init, (PySem.W.fnOf "__init__" "Fault.__init__" (defArgs s_Fault_init) (defBody s_Fault_init) (defScope s_Fault_init) .none kV_Fault_init dc_Fault_init pm_Fault_init an_Fault_init cd_Fault_init ct_Fault_init), f_ByteFault_init, (PySem.W.fnOf "__init__" "ByteFault.__init__" (defArgs s_ByteFault_init) (defBody s_ByteFault_init) (defScope s_ByteFault_init) .none kV_ByteFault_init dc_ByteFault_init pm_ByteFault_init an_ByteFault_init cd_ByteFault_init ct_ByteFault_init), f_NumberFault_init, (PySem.W.fnOf "__init__" "NumberFault.__init__" (defArgs s_NumberFault_init) (defBody s_NumberFault_init) (defScope s_NumberFault_init) .none kV_NumberFault_init dc_NumberFault_init pm_NumberFault_init an_NumberFault_init cd_NumberFault_init ct_NumberFault_init), f_WantFault_init, (PySem.W.fnOf "__init__" "WantFault.__init__" (defArgs s_WantFault_init) (defBody s_WantFault_init) (defScope s_WantFault_init) .none kV_WantFault_init dc_WantFault_init pm_WantFault_init an_WantFault_init cd_WantFault_init ct_WantFault_init), f_UntoldFault_init, (PySem.W.fnOf "__init__" "UntoldFault.__init__" (defArgs s_UntoldFault_init) (defBody s_UntoldFault_init) (defScope s_UntoldFault_init) .none kV_UntoldFault_init dc_UntoldFault_init pm_UntoldFault_init an_UntoldFault_init cd_UntoldFault_init ct_UntoldFault_init), f_AgainFault_init, (PySem.W.fnOf "__init__" "AgainFault.__init__" (defArgs s_AgainFault_init) (defBody s_AgainFault_init) (defScope s_AgainFault_init) .none kV_AgainFault_init dc_AgainFault_init pm_AgainFault_init an_AgainFault_init cd_AgainFault_init ct_AgainFault_init), f_BoundFault_init, (PySem.W.fnOf "__init__" "BoundFault.__init__" (defArgs s_BoundFault_init) (defBody s_BoundFault_init) (defScope s_BoundFault_init) .none kV_BoundFault_init dc_BoundFault_init pm_BoundFault_init an_BoundFault_init cd_BoundFault_init ct_BoundFault_init), f_SumsFault_init, (PySem.W.fnOf "__init__" "SumsFault.__init__" (defArgs s_SumsFault_init) (defBody s_SumsFault_init) (defScope s_SumsFault_init) .none kV_SumsFault_init dc_SumsFault_init pm_SumsFault_init an_SumsFault_init cd_SumsFault_init ct_SumsFault_init), f_Names_init, (PySem.W.fnOf "__init__" "Names.__init__" (defArgs s_Names_init) (defBody s_Names_init) (defScope s_Names_init) .none kV_Names_init dc_Names_init pm_Names_init an_Names_init cd_Names_init ct_Names_init), f_Names_amount, (PySem.W.fnOf "amount" "Names.amount" (defArgs s_Names_amount) (defBody s_Names_amount) (defScope s_Names_amount) .none kV_Names_amount dc_Names_amount pm_Names_amount an_Names_amount cd_Names_amount ct_Names_amount), f_Names_check_new, (PySem.W.fnOf "check_new" "Names.check_new" (defArgs s_Names_check_new) (defBody s_Names_check_new) (defScope s_Names_check_new) .none kV_Names_check_new dc_Names_check_new pm_Names_check_new an_Names_check_new cd_Names_check_new ct_Names_check_new), f_Names_check_room, (PySem.W.fnOf "check_room" "Names.check_room" (defArgs s_Names_check_room) (defBody s_Names_check_room) (defScope s_Names_check_room) .none kV_Names_check_room dc_Names_check_room pm_Names_check_room an_Names_check_room cd_Names_check_room ct_Names_check_room), f_Names_tell, (PySem.W.fnOf "tell" "Names.tell" (defArgs s_Names_tell) (defBody s_Names_tell) (defScope s_Names_tell) .none kV_Names_tell dc_Names_tell pm_Names_tell an_Names_tell cd_Names_tell ct_Names_tell), f_Names_check_told, (PySem.W.fnOf "check_told" "Names.check_told" (defArgs s_Names_check_told) (defBody s_Names_check_told) (defScope s_Names_check_told) .none kV_Names_check_told dc_Names_check_told pm_Names_check_told an_Names_check_told cd_Names_check_told ct_Names_check_told), f_Names_stand, (PySem.W.fnOf "stand" "Names.stand" (defArgs s_Names_stand) (defBody s_Names_stand) (defScope s_Names_stand) .none kV_Names_stand dc_Names_stand pm_Names_stand an_Names_stand cd_Names_stand ct_Names_stand), f_Token_init, (PySem.W.fnOf "__init__" "Token.__init__" (defArgs s_Token_init) (defBody s_Token_init) (defScope s_Token_init) .none kV_Token_init dc_Token_init pm_Token_init an_Token_init cd_Token_init ct_Token_init), f_Reader_init, (PySem.W.fnOf "__init__" "Reader.__init__" (defArgs s_Reader_init) (defBody s_Reader_init) (defScope s_Reader_init) .none kV_Reader_init dc_Reader_init pm_Reader_init an_Reader_init cd_Reader_init ct_Reader_init), f_Reader_peek, (PySem.W.fnOf "peek" "Reader.peek" (defArgs s_Reader_peek) (defBody s_Reader_peek) (defScope s_Reader_peek) .none kV_Reader_peek dc_Reader_peek pm_Reader_peek an_Reader_peek cd_Reader_peek ct_Reader_peek), f_Reader_step, (PySem.W.fnOf "step" "Reader.step" (defArgs s_Reader_step) (defBody s_Reader_step) (defScope s_Reader_step) .none kV_Reader_step dc_Reader_step pm_Reader_step an_Reader_step cd_Reader_step ct_Reader_step), f_Reader_skip, (PySem.W.fnOf "skip" "Reader.skip" (defArgs s_Reader_skip) (defBody s_Reader_skip) (defScope s_Reader_skip) .none kV_Reader_skip dc_Reader_skip pm_Reader_skip an_Reader_skip cd_Reader_skip ct_Reader_skip), f_Reader_want, (PySem.W.fnOf "want" "Reader.want" (defArgs s_Reader_want) (defBody s_Reader_want) (defScope s_Reader_want) .none kV_Reader_want dc_Reader_want pm_Reader_want an_Reader_want cd_Reader_want ct_Reader_want), f_Reader_want_kind, (PySem.W.fnOf "want_kind" "Reader.want_kind" (defArgs s_Reader_want_kind) (defBody s_Reader_want_kind) (defScope s_Reader_want_kind) .none kV_Reader_want_kind dc_Reader_want_kind pm_Reader_want_kind an_Reader_want_kind cd_Reader_want_kind ct_Reader_want_kind), f_Reader_enter, (PySem.W.fnOf "enter" "Reader.enter" (defArgs s_Reader_enter) (defBody s_Reader_enter) (defScope s_Reader_enter) .none kV_Reader_enter dc_Reader_enter pm_Reader_enter an_Reader_enter cd_Reader_enter ct_Reader_enter), f_Reader_leave, (PySem.W.fnOf "leave" "Reader.leave" (defArgs s_Reader_leave) (defBody s_Reader_leave) (defScope s_Reader_leave) .none kV_Reader_leave dc_Reader_leave pm_Reader_leave an_Reader_leave cd_Reader_leave ct_Reader_leave), f_Reader_want_new_name, (PySem.W.fnOf "want_new_name" "Reader.want_new_name" (defArgs s_Reader_want_new_name) (defBody s_Reader_want_new_name) (defScope s_Reader_want_new_name) .none kV_Reader_want_new_name dc_Reader_want_new_name pm_Reader_want_new_name an_Reader_want_new_name cd_Reader_want_new_name ct_Reader_want_new_name), f_Reader_want_told_name, (PySem.W.fnOf "want_told_name" "Reader.want_told_name" (defArgs s_Reader_want_told_name) (defBody s_Reader_want_told_name) (defScope s_Reader_want_told_name) .none kV_Reader_want_told_name dc_Reader_want_told_name pm_Reader_want_told_name an_Reader_want_told_name cd_Reader_want_told_name ct_Reader_want_told_name), f_Reader_want_standing_name, (PySem.W.fnOf "want_standing_name" "Reader.want_standing_name" (defArgs s_Reader_want_standing_name) (defBody s_Reader_want_standing_name) (defScope s_Reader_want_standing_name) .none kV_Reader_want_standing_name dc_Reader_want_standing_name pm_Reader_want_standing_name an_Reader_want_standing_name cd_Reader_want_standing_name ct_Reader_want_standing_name), c_Fault, c_ByteFault, c_NumberFault, c_WantFault, c_UntoldFault, c_AgainFault, c_BoundFault, c_SumsFault, c_Names, c_Token, c_Reader, t_BOUNDS, t_DIGIT_WORDS, t_PLAIN, t_OTHER_WORDS, t_SIGNS, t_HEADS, t_STATS, t_LONES⟩ := ⟨
    ⟨F_token_at, B_token_at, PySem.W.mg_of X G h11⟩,
    ⟨F_skip_blanks, B_skip_blanks, PySem.W.mg_of X G h15⟩,
    ⟨F_skip_comment, B_skip_comment, PySem.W.mg_of X G h19⟩,
    ⟨F_word_token, B_word_token, PySem.W.mg_of X G h23⟩,
    ⟨F_digit_word_at, B_digit_word_at, PySem.W.mg_of X G h27⟩,
    ⟨F_number_token, B_number_token, PySem.W.mg_of X G h31⟩,
    ⟨F_spelled, B_spelled, PySem.W.mg_of X G h35⟩,
    ⟨F_sign_of, B_sign_of, PySem.W.mg_of X G h39⟩,
    ⟨F_is_letter, B_is_letter, PySem.W.mg_of X G h43⟩,
    ⟨F_is_digit, B_is_digit, PySem.W.mg_of X G h47⟩,
    ⟨F_is_letter_digit_or_underscore, B_is_letter_digit_or_underscore, PySem.W.mg_of X G h51⟩,
    ⟨F_read_pattern, B_read_pattern, PySem.W.mg_of X G h55⟩,
    ⟨F_read_head, B_read_head, PySem.W.mg_of X G h59⟩,
    ⟨F_read_sizes, B_read_sizes, PySem.W.mg_of X G h63⟩,
    ⟨F_read_yarns, B_read_yarns, PySem.W.mg_of X G h67⟩,
    ⟨F_read_new_names, B_read_new_names, PySem.W.mg_of X G h71⟩,
    ⟨F_read_let, B_read_let, PySem.W.mg_of X G h75⟩,
    ⟨F_read_word, B_read_word, PySem.W.mg_of X G h79⟩,
    ⟨F_read_block, B_read_block, PySem.W.mg_of X G h83⟩,
    ⟨F_read_braces, B_read_braces, PySem.W.mg_of X G h87⟩,
    ⟨F_read_stats, B_read_stats, PySem.W.mg_of X G h91⟩,
    ⟨F_read_stat, B_read_stat, PySem.W.mg_of X G h95⟩,
    ⟨F_read_row, B_read_row, PySem.W.mg_of X G h99⟩,
    ⟨F_read_work, B_read_work, PySem.W.mg_of X G h103⟩,
    ⟨F_read_row_items, B_read_row_items, PySem.W.mg_of X G h107⟩,
    ⟨F_read_row_item, B_read_row_item, PySem.W.mg_of X G h111⟩,
    ⟨F_read_goal, B_read_goal, PySem.W.mg_of X G h115⟩,
    ⟨F_read_unit, B_read_unit, PySem.W.mg_of X G h119⟩,
    ⟨F_read_crossing, B_read_crossing, PySem.W.mg_of X G h123⟩,
    ⟨F_read_crossing_number, B_read_crossing_number, PySem.W.mg_of X G h127⟩,
    ⟨F_read_lone, B_read_lone, PySem.W.mg_of X G h131⟩,
    ⟨F_begins_sum, B_begins_sum, PySem.W.mg_of X G h135⟩,
    ⟨F_read_sum, B_read_sum, PySem.W.mg_of X G h139⟩,
    ⟨F_read_product, B_read_product, PySem.W.mg_of X G h143⟩,
    ⟨F_read_factor, B_read_factor, PySem.W.mg_of X G h147⟩,
    ⟨F_judge, B_judge, PySem.W.mg_of X G h151⟩,
    ⟨F_read_text, B_read_text, PySem.W.mg_of X G h155⟩,
    ⟨F_Fault_init, B_Fault_init⟩,
    ⟨F_ByteFault_init, B_ByteFault_init⟩,
    ⟨F_NumberFault_init, B_NumberFault_init⟩,
    ⟨F_WantFault_init, B_WantFault_init⟩,
    ⟨F_UntoldFault_init, B_UntoldFault_init⟩,
    ⟨F_AgainFault_init, B_AgainFault_init⟩,
    ⟨F_BoundFault_init, B_BoundFault_init⟩,
    ⟨F_SumsFault_init, B_SumsFault_init⟩,
    ⟨F_Names_init, B_Names_init⟩,
    ⟨F_Names_amount, B_Names_amount, ⟨h204, h205, h208⟩⟩,
    ⟨F_Names_check_new, B_Names_check_new, ⟨h209, h210, h213⟩⟩,
    ⟨F_Names_check_room, B_Names_check_room, ⟨h214, h215, h218⟩⟩,
    ⟨F_Names_tell, B_Names_tell, ⟨h219, h220, h223⟩⟩,
    ⟨F_Names_check_told, B_Names_check_told, ⟨h224, h225, h228⟩⟩,
    ⟨F_Names_stand, B_Names_stand, ⟨h229, h230, h233⟩⟩,
    ⟨F_Token_init, B_Token_init⟩,
    ⟨F_Reader_init, B_Reader_init⟩,
    ⟨F_Reader_peek, B_Reader_peek, ⟨h244, h245, h248⟩⟩,
    ⟨F_Reader_step, B_Reader_step, ⟨h249, h250, h253⟩⟩,
    ⟨F_Reader_skip, B_Reader_skip, ⟨h254, h255, h258⟩⟩,
    ⟨F_Reader_want, B_Reader_want, ⟨h259, h260, h263⟩⟩,
    ⟨F_Reader_want_kind, B_Reader_want_kind, ⟨h264, h265, h268⟩⟩,
    ⟨F_Reader_enter, B_Reader_enter, ⟨h269, h270, h273⟩⟩,
    ⟨F_Reader_leave, B_Reader_leave, ⟨h274, h275, h278⟩⟩,
    ⟨F_Reader_want_new_name, B_Reader_want_new_name, ⟨h279, h280, h283⟩⟩,
    ⟨F_Reader_want_told_name, B_Reader_want_told_name, ⟨h284, h285, h288⟩⟩,
    ⟨F_Reader_want_standing_name, B_Reader_want_standing_name, ⟨h289, h290, h293⟩⟩,
    ⟨PySem.W.mg_of X G h0, ⟨h296, h297, h298, h163⟩, (xc_mk h294 h295)⟩,
    ⟨PySem.W.mg_of X G h1, ⟨(xc_mk h299 h300), h164, h165, h301, h302⟩, ⟨(xc_mk h299 h300), h303, h304⟩, h305, h306, h307⟩,
    ⟨PySem.W.mg_of X G h2, ⟨(xc_mk h308 h309), h169, h170, h310, h311⟩, ⟨(xc_mk h308 h309), h312, h313⟩, h314, h315, h316⟩,
    ⟨PySem.W.mg_of X G h3, ⟨(xc_mk h317 h318), h174, h175, h319, h320⟩, ⟨(xc_mk h317 h318), h321, h322⟩, h323, h324, h325⟩,
    ⟨PySem.W.mg_of X G h4, ⟨(xc_mk h326 h327), h179, h180, h328, h329⟩, ⟨(xc_mk h326 h327), h330, h331⟩, h332, h333, h334⟩,
    ⟨PySem.W.mg_of X G h5, ⟨(xc_mk h335 h336), h184, h185, h337, h338⟩, ⟨(xc_mk h335 h336), h339, h340⟩, h341, h342, h343⟩,
    ⟨PySem.W.mg_of X G h6, ⟨(xc_mk h344 h345), h189, h190, h346, h347⟩, ⟨(xc_mk h344 h345), h348, h349⟩, h350, h351, h352⟩,
    ⟨PySem.W.mg_of X G h7, ⟨(xc_mk h353 h354), h194, h195, h355, h356⟩, ⟨(xc_mk h353 h354), h357, h358⟩, h359, h360, h361⟩,
    ⟨PySem.W.mg_of X G h8, ⟨h362, h363, h364, h365⟩, ⟨h366, h199, h200, h367⟩⟩,
    h368,
    h369,
    h370,
    ⟨PySem.W.mg_of X G h9, ⟨h371, h372, h373, h374⟩, ⟨h375, h234, h235, h376⟩⟩,
    h377,
    h378,
    h379,
    h380,
    h381,
    ⟨PySem.W.mg_of X G h10, ⟨h382, h383, h384, h385⟩, ⟨h386, h239, h240, h387⟩⟩,
    h388,
    h389,
    h390,
    h391,
    h392,
    ⟨_, PySem.W.mg_of X G h393⟩,
    ⟨_, PySem.W.mg_of X G h394⟩,
    ⟨_, PySem.W.mg_of X G h395⟩,
    ⟨_, PySem.W.mg_of X G h396⟩,
    ⟨_, PySem.W.mg_of X G h397⟩,
    ⟨_, PySem.W.mg_of X G h398⟩,
    ⟨_, PySem.W.mg_of X G h399⟩,
    ⟨PySem.W.mg_of X G h400, M_BOUNDS⟩,
    ⟨_, PySem.W.mg_of X G h410⟩,
    ⟨_, PySem.W.mg_of X G h411⟩,
    ⟨_, PySem.W.mg_of X G h412⟩,
    ⟨_, PySem.W.mg_of X G h413⟩,
    ⟨PySem.W.mg_of X G h414, fun H => .inr ⟨_, _, _, h415, rfl, rfl, (by show 5 ≤ sizeLine; decide), (.cons ⟨_, rfl⟩ (.cons ⟨_, rfl⟩ (.cons ⟨_, rfl⟩ (.cons ⟨_, rfl⟩ (.cons ⟨_, rfl⟩ .nil)))))⟩⟩,
    ⟨_, PySem.W.mg_of X G h416⟩,
    ⟨PySem.W.mg_of X G h417, fun H => .inr ⟨_, _, _, h418, rfl, rfl, (by show 23 ≤ sizeLine; decide), (.cons ⟨_, rfl⟩ (.cons ⟨_, rfl⟩ (.cons ⟨_, rfl⟩ (.cons ⟨_, rfl⟩ (.cons ⟨_, rfl⟩ (.cons ⟨_, rfl⟩ (.cons ⟨_, rfl⟩ (.cons ⟨_, rfl⟩ (.cons ⟨_, rfl⟩ (.cons ⟨_, rfl⟩ (.cons ⟨_, rfl⟩ (.cons ⟨_, rfl⟩ (.cons ⟨_, rfl⟩ (.cons ⟨_, rfl⟩ (.cons ⟨_, rfl⟩ (.cons ⟨_, rfl⟩ (.cons ⟨_, rfl⟩ (.cons ⟨_, rfl⟩ (.cons ⟨_, rfl⟩ (.cons ⟨_, rfl⟩ (.cons ⟨_, rfl⟩ (.cons ⟨_, rfl⟩ (.cons ⟨_, rfl⟩ .nil)))))))))))))))))))))))⟩⟩,
    ⟨PySem.W.mg_of X G h419, fun H => .inr ⟨_, _, _, h420, rfl, rfl, (by show 28 ≤ sizeLine; decide), (.cons ⟨_, rfl⟩ (.cons ⟨_, rfl⟩ (.cons ⟨_, rfl⟩ (.cons ⟨_, rfl⟩ (.cons ⟨_, rfl⟩ (.cons ⟨_, rfl⟩ (.cons ⟨_, rfl⟩ (.cons ⟨_, rfl⟩ (.cons ⟨_, rfl⟩ (.cons ⟨_, rfl⟩ (.cons ⟨_, rfl⟩ (.cons ⟨_, rfl⟩ (.cons ⟨_, rfl⟩ (.cons ⟨_, rfl⟩ (.cons ⟨_, rfl⟩ (.cons ⟨_, rfl⟩ (.cons ⟨_, rfl⟩ (.cons ⟨_, rfl⟩ (.cons ⟨_, rfl⟩ (.cons ⟨_, rfl⟩ (.cons ⟨_, rfl⟩ (.cons ⟨_, rfl⟩ (.cons ⟨_, rfl⟩ (.cons ⟨_, rfl⟩ (.cons ⟨_, rfl⟩ (.cons ⟨_, rfl⟩ (.cons ⟨_, rfl⟩ (.cons ⟨_, rfl⟩ .nil))))))))))))))))))))))))))))⟩⟩,
    ⟨PySem.W.mg_of X G h421, M_SIGNS⟩,
    ⟨_, PySem.W.mg_of X G h437⟩,
    ⟨_, PySem.W.mg_of X G h438⟩,
    ⟨_, PySem.W.mg_of X G h439⟩,
    ⟨_, PySem.W.mg_of X G h440⟩,
    ⟨_, PySem.W.mg_of X G h441⟩,
    ⟨_, PySem.W.mg_of X G h442⟩,
    ⟨_, PySem.W.mg_of X G h443⟩,
    ⟨_, PySem.W.mg_of X G h444⟩,
    ⟨_, PySem.W.mg_of X G h445⟩,
    ⟨_, PySem.W.mg_of X G h446⟩,
    ⟨_, PySem.W.mg_of X G h447⟩,
    ⟨_, PySem.W.mg_of X G h448⟩,
    ⟨_, PySem.W.mg_of X G h449⟩,
    ⟨PySem.W.mg_of X G h450, fun H => .inr ⟨_, _, _, h451, rfl, rfl, (by show 5 ≤ sizeLine; decide), (.cons ⟨_, rfl⟩ (.cons ⟨_, rfl⟩ (.cons ⟨_, rfl⟩ (.cons ⟨_, rfl⟩ (.cons ⟨_, rfl⟩ .nil)))))⟩⟩,
    ⟨PySem.W.mg_of X G h452, fun H => .inr ⟨_, _, _, h453, rfl, rfl, (by show 6 ≤ sizeLine; decide), (.cons ⟨_, rfl⟩ (.cons ⟨_, rfl⟩ (.cons ⟨_, rfl⟩ (.cons ⟨_, rfl⟩ (.cons ⟨_, rfl⟩ (.cons ⟨_, rfl⟩ .nil))))))⟩⟩,
    ⟨PySem.W.mg_of X G h454, fun H => .inr ⟨_, _, _, h455, rfl, rfl, (by show 7 ≤ sizeLine; decide), (.cons ⟨_, rfl⟩ (.cons ⟨_, rfl⟩ (.cons ⟨_, rfl⟩ (.cons ⟨_, rfl⟩ (.cons ⟨_, rfl⟩ (.cons ⟨_, rfl⟩ (.cons ⟨_, rfl⟩ .nil)))))))⟩⟩,
    ⟨_, PySem.W.mg_of X G h456⟩,
    ⟨_, PySem.W.mg_of X G h457⟩,
    ⟨_, PySem.W.mg_of X G h458⟩,
    PySem.W.mg_none_of X G h459,
    PySem.W.mg_none_of X G h460⟩
  exact ⟨_, fun s us hu => match us, hu with | [_], _ => .of_eq rfl, fun base _ _ => ok_judge T⟩
end Wale
end
section
set_option Elab.async false
set_option maxRecDepth 100000
open PySem PySem.W PyProof.Rows
def PySem.W.Fast.tw3129103596719774071 := 0
def PySem.W.Fast.tw14971077662231953989 := 0
def PySem.W.Fast.tw4716866397321783183 := 0
def PySem.W.Fast.tw12350986089075976973 := 0
def PySem.W.Fast.tw15944579036292711817 := 0
def PySem.W.Fast.tw5916710520670914141 := 0
def PySem.W.Fast.tw5533294665322660471 := 0
def PySem.W.Fast.tw16601812934439302955 := 0
def PySem.W.Fast.tw6706669631194343159 := 0
def PySem.W.Fast.tw14869605910482637303 := 0
def PySem.W.Fast.tw17509272323757766150 := 0
def PySem.W.Fast.tw1483361229335711989 := 0
def PySem.W.Fast.tw5891919253044823655 := 0
def PySem.W.Fast.tw14929094784741039344 := 0
def PySem.W.Fast.tw9541379576992802079 := 0
def PySem.W.Fast.tw2804595821022323360 := 0
def PySem.W.Fast.tw7168520337081127133 := 0
def PySem.W.Fast.tw9313056065290890202 := 0
def PySem.W.Fast.tw2026596090651367493 := 0
def PySem.W.Fast.tw5628513438285292534 := 0
def PySem.W.Fast.tw8221446179201813910 := 0
def PySem.W.Fast.tw12397947014355976069 := 0
def PySem.W.Fast.tw15672747100848029181 := 0
def PySem.W.Fast.tw6682526934623241200 := 0
def PySem.W.Fast.tw2773466653081255650 := 0
def PySem.W.Fast.tw12792127890654972786 := 0
def PySem.W.Fast.tw15055561260376488128 := 0
def PySem.W.Fast.tw5074856253704040258 := 0
def PySem.W.Fast.tw10075763868762645729 := 0
def PySem.W.Fast.tw9322949980575120401 := 0
def PySem.W.Fast.tw18397499359354315857 := 0
def PySem.W.Fast.tw14467528388174307375 := 0
def PySem.W.Fast.tw10586213479357901664 := 0
def PySem.W.Fast.tw2104804234261347180 := 0
def PySem.W.Fast.tw10469090439727136901 := 0
def PySem.W.Fast.tw7051294971234395478 := 0
def PySem.W.Fast.tw4380217564766599673 := 0
def PySem.W.Fast.tw7647576977389306350 := 0
def PySem.W.Fast.tw13698213838437378905 := 0
def PySem.W.Fast.tw14195675276555683351 := 0
def PySem.W.Fast.tw18108545635150669114 := 0
def PySem.W.Fast.tw3747279321221024242 := 0
def PySem.W.Fast.tw4607555519428819493 := 0
def PySem.W.Fast.tw8159197571062933402 := 0
def PySem.W.Fast.tw8218117820506671752 := 0
def PySem.W.Fast.tw4329211630728474806 := 0
def PySem.W.Fast.tw5928294689903862328 := 0
def PySem.W.Fast.tw10096704581265416056 := 0
def PySem.W.Fast.tw12921310657398947641 := 0
def PySem.W.Fast.tw773490711134197865 := 0
def PySem.W.Fast.tw11372008186621966372 := 0
def PySem.W.Fast.tw14447798045049795464 := 0
def PySem.W.Fast.tw15340496566481162110 := 0
def PySem.W.Fast.tw7707296807393199478 := 0
def PySem.W.Fast.tw1091485047588029328 := 0
def PySem.W.Fast.tw5670845393825257078 := 0
def PySem.W.Fast.tw9658769288986143715 := 0
def PySem.W.Fast.tw11258540476395991382 := 0
def PySem.W.Fast.tw9261502140608806949 := 0
def PySem.W.Fast.tw10287822641879173456 := 0
def PySem.W.Fast.tw4076877717130296204 := 0
def PySem.W.Fast.tw17014639507865605945 := 0
def PySem.W.Fast.tw2882985789817773126 := 0
def PySem.W.Fast.tw6323214717974261539 := 0
def PySem.W.Fast.tw16698718103046837698 := 0
def PySem.W.Fast.tw7774484605912486169 := 0
def PySem.W.Fast.tw7581027432900125085 := 0
def PySem.W.Fast.tw15241083337091654094 := 0
def PySem.W.Fast.tw6174983589980536481 := 0
def PySem.W.Fast.tw14346642169862928899 := 0
def PySem.W.Fast.tw1021872157832243605 := 0
def PySem.W.Fast.tw2592088067987259965 := 0
def PySem.W.Fast.tw11902074407949308219 := 0
def PySem.W.Fast.tw16260974082211351135 := 0
def PySem.W.Fast.tw16143443159546389091 := 0
def PySem.W.Fast.tw255837675940135094 := 0
def PySem.W.Fast.tw234627543054710638 := 0
def PySem.W.Fast.tw12446170420239784335 := 0
def PySem.W.Fast.tw17360233937538905000 := 0
def PySem.W.Fast.tw15252379395721402332 := 0
def PySem.W.Fast.tw4472714210921333047 := 0
def PySem.W.Fast.tw3122164788842925955 := 0
def PySem.W.Fast.tw1913401243509439630 := 0
def PySem.W.Fast.tw17337524540935688489 := 0
def PySem.W.Fast.tw14055860093766982748 := 0
def PySem.W.Fast.tw10566075132043522782 := 0
def PySem.W.Fast.tw15158019155942940284 := 0
def PySem.W.Fast.tw5906913203643877539 := 0
def PySem.W.Fast.tw6209734246643065232 := 0
def PySem.W.Fast.tw7892240637101723915 := 0
set_option maxHeartbeats 0 in
theorem PySem.Challenge.cw_waletexts_s01_judge_holds : PySem.Challenge.rw_waletexts_s01_judge.Holds := by
  w_on; k_headS; (case hw => exact ⟨[.list []], by decide +kernel, by decide +kernel⟩)
  k_fillS
  refine L2.walk_specK (r := PySem.Challenge.rw_waletexts_s01_judge) (k := 100) (CX := L2.CX0) (ps := ["t"]) (sp := Wale.spJudge) (by decide +kernel) rfl rfl ⟨rfl, by decide, by decide⟩ (fun w h Y => PySem.W.kIn_of Y) ?F ?S (fun _ _ _ _ z => z)
  case F =>
    intro w mg fa h Y KX G hmg
    refine' Wale.all_mk KX G hmg ?h0 ?h1 ?h2 ?h3 ?h4 ?h5 ?h6 ?h7 ?h8 ?h9 ?h10 ?h11 ?h12 ?h13 ?h14 ?h15 ?h16 ?h17 ?h18 ?h19 ?h20 ?h21 ?h22 ?h23 ?h24 ?h25 ?h26 ?h27 ?h28 ?h29 ?h30 ?h31 ?h32 ?h33 ?h34 ?h35 ?h36 ?h37 ?h38 ?h39 ?h40 ?h41 ?h42 ?h43 ?h44 ?h45 ?h46 ?h47 ?h48 ?h49 ?h50 ?h51 ?h52 ?h53 ?h54 ?h55 ?h56 ?h57 ?h58 ?h59 ?h60 ?h61 ?h62 ?h63 ?h64 ?h65 ?h66 ?h67 ?h68 ?h69 ?h70 ?h71 ?h72 ?h73 ?h74 ?h75 ?h76 ?h77 ?h78 ?h79 ?h80 ?h81 ?h82 ?h83 ?h84 ?h85 ?h86 ?h87 ?h88 ?h89 ?h90 ?h91 ?h92 ?h93 ?h94 ?h95 ?h96 ?h97 ?h98 ?h99 ?h100 ?h101 ?h102 ?h103 ?h104 ?h105 ?h106 ?h107 ?h108 ?h109 ?h110 ?h111 ?h112 ?h113 ?h114 ?h115 ?h116 ?h117 ?h118 ?h119 ?h120 ?h121 ?h122 ?h123 ?h124 ?h125 ?h126 ?h127 ?h128 ?h129 ?h130 ?h131 ?h132 ?h133 ?h134 ?h135 ?h136 ?h137 ?h138 ?h139 ?h140 ?h141 ?h142 ?h143 ?h144 ?h145 ?h146 ?h147 ?h148 ?h149 ?h150 ?h151 ?h152 ?h153 ?h154 ?h155 ?h156 ?h157 ?h158 ?h159 ?h160 ?h161 ?h162 ?h163 ?h164 ?h165 ?h166 ?h167 ?h168 ?h169 ?h170 ?h171 ?h172 ?h173 ?h174 ?h175 ?h176 ?h177 ?h178 ?h179 ?h180 ?h181 ?h182 ?h183 ?h184 ?h185 ?h186 ?h187 ?h188 ?h189 ?h190 ?h191 ?h192 ?h193 ?h194 ?h195 ?h196 ?h197 ?h198 ?h199 ?h200 ?h201 ?h202 ?h203 ?h204 ?h205 ?h206 ?h207 ?h208 ?h209 ?h210 ?h211 ?h212 ?h213 ?h214 ?h215 ?h216 ?h217 ?h218 ?h219 ?h220 ?h221 ?h222 ?h223 ?h224 ?h225 ?h226 ?h227 ?h228 ?h229 ?h230 ?h231 ?h232 ?h233 ?h234 ?h235 ?h236 ?h237 ?h238 ?h239 ?h240 ?h241 ?h242 ?h243 ?h244 ?h245 ?h246 ?h247 ?h248 ?h249 ?h250 ?h251 ?h252 ?h253 ?h254 ?h255 ?h256 ?h257 ?h258 ?h259 ?h260 ?h261 ?h262 ?h263 ?h264 ?h265 ?h266 ?h267 ?h268 ?h269 ?h270 ?h271 ?h272 ?h273 ?h274 ?h275 ?h276 ?h277 ?h278 ?h279 ?h280 ?h281 ?h282 ?h283 ?h284 ?h285 ?h286 ?h287 ?h288 ?h289 ?h290 ?h291 ?h292 ?h293 ?h294 ?h295 ?h296 ?h297 ?h298 ?h299 ?h300 ?h301 ?h302 ?h303 ?h304 ?h305 ?h306 ?h307 ?h308 ?h309 ?h310 ?h311 ?h312 ?h313 ?h314 ?h315 ?h316 ?h317 ?h318 ?h319 ?h320 ?h321 ?h322 ?h323 ?h324 ?h325 ?h326 ?h327 ?h328 ?h329 ?h330 ?h331 ?h332 ?h333 ?h334 ?h335 ?h336 ?h337 ?h338 ?h339 ?h340 ?h341 ?h342 ?h343 ?h344 ?h345 ?h346 ?h347 ?h348 ?h349 ?h350 ?h351 ?h352 ?h353 ?h354 ?h355 ?h356 ?h357 ?h358 ?h359 ?h360 ?h361 ?h362 ?h363 ?h364 ?h365 ?h366 ?h367 ?h368 ?h369 ?h370 ?h371 ?h372 ?h373 ?h374 ?h375 ?h376 ?h377 ?h378 ?h379 ?h380 ?h381 ?h382 ?h383 ?h384 ?h385 ?h386 ?h387 ?h388 ?h389 ?h390 ?h391 ?h392 ?h393 ?h394 ?h395 ?h396 ?h397 ?h398 ?h399 ?h400 ?h401 ?h402 ?h403 ?h404 ?h405 ?h406 ?h407 ?h408 ?h409 ?h410 ?h411 ?h412 ?h413 ?h414 ?h415 ?h416 ?h417 ?h418 ?h419 ?h420 ?h421 ?h422 ?h423 ?h424 ?h425 ?h426 ?h427 ?h428 ?h429 ?h430 ?h431 ?h432 ?h433 ?h434 ?h435 ?h436 ?h437 ?h438 ?h439 ?h440 ?h441 ?h442 ?h443 ?h444 ?h445 ?h446 ?h447 ?h448 ?h449 ?h450 ?h451 ?h452 ?h453 ?h454 ?h455 ?h456 ?h457 ?h458 ?h459 ?h460
    (case h0 => first | k_is | rfl)
    (case h1 => first | k_is | rfl)
    (case h2 => first | k_is | rfl)
    (case h3 => first | k_is | rfl)
    (case h4 => first | k_is | rfl)
    (case h5 => first | k_is | rfl)
    (case h6 => first | k_is | rfl)
    (case h7 => first | k_is | rfl)
    (case h8 => first | k_is | rfl)
    (case h9 => first | k_is | rfl)
    (case h10 => first | k_is | rfl)
    (case h11 => first | k_is | rfl)
    (case h12 => first | k_is | rfl)
    (case h13 => first | k_is | rfl)
    (case h14 => first | k_is | rfl)
    (case h15 => first | k_is | rfl)
    (case h16 => first | k_is | rfl)
    (case h17 => first | k_is | rfl)
    (case h18 => first | k_is | rfl)
    (case h19 => first | k_is | rfl)
    (case h20 => first | k_is | rfl)
    (case h21 => first | k_is | rfl)
    (case h22 => first | k_is | rfl)
    (case h23 => first | k_is | rfl)
    (case h24 => first | k_is | rfl)
    (case h25 => first | k_is | rfl)
    (case h26 => first | k_is | rfl)
    (case h27 => first | k_is | rfl)
    (case h28 => first | k_is | rfl)
    (case h29 => first | k_is | rfl)
    (case h30 => first | k_is | rfl)
    (case h31 => first | k_is | rfl)
    (case h32 => first | k_is | rfl)
    (case h33 => first | k_is | rfl)
    (case h34 => first | k_is | rfl)
    (case h35 => first | k_is | rfl)
    (case h36 => first | k_is | rfl)
    (case h37 => first | k_is | rfl)
    (case h38 => first | k_is | rfl)
    (case h39 => first | k_is | rfl)
    (case h40 => first | k_is | rfl)
    (case h41 => first | k_is | rfl)
    (case h42 => first | k_is | rfl)
    (case h43 => first | k_is | rfl)
    (case h44 => first | k_is | rfl)
    (case h45 => first | k_is | rfl)
    (case h46 => first | k_is | rfl)
    (case h47 => first | k_is | rfl)
    (case h48 => first | k_is | rfl)
    (case h49 => first | k_is | rfl)
    (case h50 => first | k_is | rfl)
    (case h51 => first | k_is | rfl)
    (case h52 => first | k_is | rfl)
    (case h53 => first | k_is | rfl)
    (case h54 => first | k_is | rfl)
    (case h55 => first | k_is | rfl)
    (case h56 => first | k_is | rfl)
    (case h57 => first | k_is | rfl)
    (case h58 => first | k_is | rfl)
    (case h59 => first | k_is | rfl)
    (case h60 => first | k_is | rfl)
    (case h61 => first | k_is | rfl)
    (case h62 => first | k_is | rfl)
    (case h63 => first | k_is | rfl)
    (case h64 => first | k_is | rfl)
    (case h65 => first | k_is | rfl)
    (case h66 => first | k_is | rfl)
    (case h67 => first | k_is | rfl)
    (case h68 => first | k_is | rfl)
    (case h69 => first | k_is | rfl)
    (case h70 => first | k_is | rfl)
    (case h71 => first | k_is | rfl)
    (case h72 => first | k_is | rfl)
    (case h73 => first | k_is | rfl)
    (case h74 => first | k_is | rfl)
    (case h75 => first | k_is | rfl)
    (case h76 => first | k_is | rfl)
    (case h77 => first | k_is | rfl)
    (case h78 => first | k_is | rfl)
    (case h79 => first | k_is | rfl)
    (case h80 => first | k_is | rfl)
    (case h81 => first | k_is | rfl)
    (case h82 => first | k_is | rfl)
    (case h83 => first | k_is | rfl)
    (case h84 => first | k_is | rfl)
    (case h85 => first | k_is | rfl)
    (case h86 => first | k_is | rfl)
    (case h87 => first | k_is | rfl)
    (case h88 => first | k_is | rfl)
    (case h89 => first | k_is | rfl)
    (case h90 => first | k_is | rfl)
    (case h91 => first | k_is | rfl)
    (case h92 => first | k_is | rfl)
    (case h93 => first | k_is | rfl)
    (case h94 => first | k_is | rfl)
    (case h95 => first | k_is | rfl)
    (case h96 => first | k_is | rfl)
    (case h97 => first | k_is | rfl)
    (case h98 => first | k_is | rfl)
    (case h99 => first | k_is | rfl)
    (case h100 => first | k_is | rfl)
    (case h101 => first | k_is | rfl)
    (case h102 => first | k_is | rfl)
    (case h103 => first | k_is | rfl)
    (case h104 => first | k_is | rfl)
    (case h105 => first | k_is | rfl)
    (case h106 => first | k_is | rfl)
    (case h107 => first | k_is | rfl)
    (case h108 => first | k_is | rfl)
    (case h109 => first | k_is | rfl)
    (case h110 => first | k_is | rfl)
    (case h111 => first | k_is | rfl)
    (case h112 => first | k_is | rfl)
    (case h113 => first | k_is | rfl)
    (case h114 => first | k_is | rfl)
    (case h115 => first | k_is | rfl)
    (case h116 => first | k_is | rfl)
    (case h117 => first | k_is | rfl)
    (case h118 => first | k_is | rfl)
    (case h119 => first | k_is | rfl)
    (case h120 => first | k_is | rfl)
    (case h121 => first | k_is | rfl)
    (case h122 => first | k_is | rfl)
    (case h123 => first | k_is | rfl)
    (case h124 => first | k_is | rfl)
    (case h125 => first | k_is | rfl)
    (case h126 => first | k_is | rfl)
    (case h127 => first | k_is | rfl)
    (case h128 => first | k_is | rfl)
    (case h129 => first | k_is | rfl)
    (case h130 => first | k_is | rfl)
    (case h131 => first | k_is | rfl)
    (case h132 => first | k_is | rfl)
    (case h133 => first | k_is | rfl)
    (case h134 => first | k_is | rfl)
    (case h135 => first | k_is | rfl)
    (case h136 => first | k_is | rfl)
    (case h137 => first | k_is | rfl)
    (case h138 => first | k_is | rfl)
    (case h139 => first | k_is | rfl)
    (case h140 => first | k_is | rfl)
    (case h141 => first | k_is | rfl)
    (case h142 => first | k_is | rfl)
    (case h143 => first | k_is | rfl)
    (case h144 => first | k_is | rfl)
    (case h145 => first | k_is | rfl)
    (case h146 => first | k_is | rfl)
    (case h147 => first | k_is | rfl)
    (case h148 => first | k_is | rfl)
    (case h149 => first | k_is | rfl)
    (case h150 => first | k_is | rfl)
    (case h151 => first | k_is | rfl)
    (case h152 => first | k_is | rfl)
    (case h153 => first | k_is | rfl)
    (case h154 => first | k_is | rfl)
    (case h155 => first | k_is | rfl)
    (case h156 => first | k_is | rfl)
    (case h157 => first | k_is | rfl)
    (case h158 => first | k_is | rfl)
    (case h159 => first | k_is | rfl)
    (case h160 => first | k_is | rfl)
    (case h161 => first | k_is | rfl)
    (case h162 => first | k_is | rfl)
    (case h163 => first | k_is | rfl)
    (case h164 => first | k_is | rfl)
    (case h165 => first | k_is | rfl)
    (case h166 => first | k_is | rfl)
    (case h167 => first | k_is | rfl)
    (case h168 => first | k_is | rfl)
    (case h169 => first | k_is | rfl)
    (case h170 => first | k_is | rfl)
    (case h171 => first | k_is | rfl)
    (case h172 => first | k_is | rfl)
    (case h173 => first | k_is | rfl)
    (case h174 => first | k_is | rfl)
    (case h175 => first | k_is | rfl)
    (case h176 => first | k_is | rfl)
    (case h177 => first | k_is | rfl)
    (case h178 => first | k_is | rfl)
    (case h179 => first | k_is | rfl)
    (case h180 => first | k_is | rfl)
    (case h181 => first | k_is | rfl)
    (case h182 => first | k_is | rfl)
    (case h183 => first | k_is | rfl)
    (case h184 => first | k_is | rfl)
    (case h185 => first | k_is | rfl)
    (case h186 => first | k_is | rfl)
    (case h187 => first | k_is | rfl)
    (case h188 => first | k_is | rfl)
    (case h189 => first | k_is | rfl)
    (case h190 => first | k_is | rfl)
    (case h191 => first | k_is | rfl)
    (case h192 => first | k_is | rfl)
    (case h193 => first | k_is | rfl)
    (case h194 => first | k_is | rfl)
    (case h195 => first | k_is | rfl)
    (case h196 => first | k_is | rfl)
    (case h197 => first | k_is | rfl)
    (case h198 => first | k_is | rfl)
    (case h199 => first | k_is | rfl)
    (case h200 => first | k_is | rfl)
    (case h201 => first | k_is | rfl)
    (case h202 => first | k_is | rfl)
    (case h203 => first | k_is | rfl)
    (case h204 => first | k_is | rfl)
    (case h205 => first | k_is | rfl)
    (case h206 => first | k_is | rfl)
    (case h207 => first | k_is | rfl)
    (case h208 => first | k_is | rfl)
    (case h209 => first | k_is | rfl)
    (case h210 => first | k_is | rfl)
    (case h211 => first | k_is | rfl)
    (case h212 => first | k_is | rfl)
    (case h213 => first | k_is | rfl)
    (case h214 => first | k_is | rfl)
    (case h215 => first | k_is | rfl)
    (case h216 => first | k_is | rfl)
    (case h217 => first | k_is | rfl)
    (case h218 => first | k_is | rfl)
    (case h219 => first | k_is | rfl)
    (case h220 => first | k_is | rfl)
    (case h221 => first | k_is | rfl)
    (case h222 => first | k_is | rfl)
    (case h223 => first | k_is | rfl)
    (case h224 => first | k_is | rfl)
    (case h225 => first | k_is | rfl)
    (case h226 => first | k_is | rfl)
    (case h227 => first | k_is | rfl)
    (case h228 => first | k_is | rfl)
    (case h229 => first | k_is | rfl)
    (case h230 => first | k_is | rfl)
    (case h231 => first | k_is | rfl)
    (case h232 => first | k_is | rfl)
    (case h233 => first | k_is | rfl)
    (case h234 => first | k_is | rfl)
    (case h235 => first | k_is | rfl)
    (case h236 => first | k_is | rfl)
    (case h237 => first | k_is | rfl)
    (case h238 => first | k_is | rfl)
    (case h239 => first | k_is | rfl)
    (case h240 => first | k_is | rfl)
    (case h241 => first | k_is | rfl)
    (case h242 => first | k_is | rfl)
    (case h243 => first | k_is | rfl)
    (case h244 => first | k_is | rfl)
    (case h245 => first | k_is | rfl)
    (case h246 => first | k_is | rfl)
    (case h247 => first | k_is | rfl)
    (case h248 => first | k_is | rfl)
    (case h249 => first | k_is | rfl)
    (case h250 => first | k_is | rfl)
    (case h251 => first | k_is | rfl)
    (case h252 => first | k_is | rfl)
    (case h253 => first | k_is | rfl)
    (case h254 => first | k_is | rfl)
    (case h255 => first | k_is | rfl)
    (case h256 => first | k_is | rfl)
    (case h257 => first | k_is | rfl)
    (case h258 => first | k_is | rfl)
    (case h259 => first | k_is | rfl)
    (case h260 => first | k_is | rfl)
    (case h261 => first | k_is | rfl)
    (case h262 => first | k_is | rfl)
    (case h263 => first | k_is | rfl)
    (case h264 => first | k_is | rfl)
    (case h265 => first | k_is | rfl)
    (case h266 => first | k_is | rfl)
    (case h267 => first | k_is | rfl)
    (case h268 => first | k_is | rfl)
    (case h269 => first | k_is | rfl)
    (case h270 => first | k_is | rfl)
    (case h271 => first | k_is | rfl)
    (case h272 => first | k_is | rfl)
    (case h273 => first | k_is | rfl)
    (case h274 => first | k_is | rfl)
    (case h275 => first | k_is | rfl)
    (case h276 => first | k_is | rfl)
    (case h277 => first | k_is | rfl)
    (case h278 => first | k_is | rfl)
    (case h279 => first | k_is | rfl)
    (case h280 => first | k_is | rfl)
    (case h281 => first | k_is | rfl)
    (case h282 => first | k_is | rfl)
    (case h283 => first | k_is | rfl)
    (case h284 => first | k_is | rfl)
    (case h285 => first | k_is | rfl)
    (case h286 => first | k_is | rfl)
    (case h287 => first | k_is | rfl)
    (case h288 => first | k_is | rfl)
    (case h289 => first | k_is | rfl)
    (case h290 => first | k_is | rfl)
    (case h291 => first | k_is | rfl)
    (case h292 => first | k_is | rfl)
    (case h293 => first | k_is | rfl)
    (case h294 => first | k_is | rfl)
    (case h295 => rfl)
    (case h296 => first | k_is | rfl)
    (case h297 => first | k_is | rfl)
    (case h298 => first | k_is | rfl)
    (case h299 => first | k_is | rfl)
    (case h300 => rfl)
    (case h301 => first | k_is | rfl)
    (case h302 => first | k_is | rfl)
    (case h303 => first | k_is | rfl)
    (case h304 => first | k_is | rfl)
    (case h305 => first | k_is | rfl)
    (case h306 => first | k_is | rfl)
    (case h307 => first | k_is | rfl)
    (case h308 => first | k_is | rfl)
    (case h309 => rfl)
    (case h310 => first | k_is | rfl)
    (case h311 => first | k_is | rfl)
    (case h312 => first | k_is | rfl)
    (case h313 => first | k_is | rfl)
    (case h314 => first | k_is | rfl)
    (case h315 => first | k_is | rfl)
    (case h316 => first | k_is | rfl)
    (case h317 => first | k_is | rfl)
    (case h318 => rfl)
    (case h319 => first | k_is | rfl)
    (case h320 => first | k_is | rfl)
    (case h321 => first | k_is | rfl)
    (case h322 => first | k_is | rfl)
    (case h323 => first | k_is | rfl)
    (case h324 => first | k_is | rfl)
    (case h325 => first | k_is | rfl)
    (case h326 => first | k_is | rfl)
    (case h327 => rfl)
    (case h328 => first | k_is | rfl)
    (case h329 => first | k_is | rfl)
    (case h330 => first | k_is | rfl)
    (case h331 => first | k_is | rfl)
    (case h332 => first | k_is | rfl)
    (case h333 => first | k_is | rfl)
    (case h334 => first | k_is | rfl)
    (case h335 => first | k_is | rfl)
    (case h336 => rfl)
    (case h337 => first | k_is | rfl)
    (case h338 => first | k_is | rfl)
    (case h339 => first | k_is | rfl)
    (case h340 => first | k_is | rfl)
    (case h341 => first | k_is | rfl)
    (case h342 => first | k_is | rfl)
    (case h343 => first | k_is | rfl)
    (case h344 => first | k_is | rfl)
    (case h345 => rfl)
    (case h346 => first | k_is | rfl)
    (case h347 => first | k_is | rfl)
    (case h348 => first | k_is | rfl)
    (case h349 => first | k_is | rfl)
    (case h350 => first | k_is | rfl)
    (case h351 => first | k_is | rfl)
    (case h352 => first | k_is | rfl)
    (case h353 => first | k_is | rfl)
    (case h354 => rfl)
    (case h355 => first | k_is | rfl)
    (case h356 => first | k_is | rfl)
    (case h357 => first | k_is | rfl)
    (case h358 => first | k_is | rfl)
    (case h359 => first | k_is | rfl)
    (case h360 => first | k_is | rfl)
    (case h361 => first | k_is | rfl)
    (case h362 => first | k_is | rfl)
    (case h363 => first | k_is | rfl)
    (case h364 => first | k_is | rfl)
    (case h365 => first | k_is | rfl)
    (case h366 => first | k_is | rfl)
    (case h367 => first | k_is | rfl)
    (case h368 => first | k_is | rfl)
    (case h369 => first | k_is | rfl)
    (case h370 => first | k_is | rfl)
    (case h371 => first | k_is | rfl)
    (case h372 => first | k_is | rfl)
    (case h373 => first | k_is | rfl)
    (case h374 => first | k_is | rfl)
    (case h375 => first | k_is | rfl)
    (case h376 => first | k_is | rfl)
    (case h377 => first | k_is | rfl)
    (case h378 => first | k_is | rfl)
    (case h379 => first | k_is | rfl)
    (case h380 => first | k_is | rfl)
    (case h381 => first | k_is | rfl)
    (case h382 => first | k_is | rfl)
    (case h383 => first | k_is | rfl)
    (case h384 => first | k_is | rfl)
    (case h385 => first | k_is | rfl)
    (case h386 => first | k_is | rfl)
    (case h387 => first | k_is | rfl)
    (case h388 => first | k_is | rfl)
    (case h389 => first | k_is | rfl)
    (case h390 => first | k_is | rfl)
    (case h391 => first | k_is | rfl)
    (case h392 => first | k_is | rfl)
    (case h393 => first | k_is | rfl)
    (case h394 => first | k_is | rfl)
    (case h395 => first | k_is | rfl)
    (case h396 => first | k_is | rfl)
    (case h397 => first | k_is | rfl)
    (case h398 => first | k_is | rfl)
    (case h399 => first | k_is | rfl)
    (case h400 => first | k_is | rfl)
    (case h401 => first | k_is | rfl)
    (case h402 => rfl)
    (case h403 => rfl)
    (case h404 => rfl)
    (case h405 => rfl)
    (case h406 => rfl)
    (case h407 => rfl)
    (case h408 => rfl)
    (case h409 => rfl)
    (case h410 => first | k_is | rfl)
    (case h411 => first | k_is | rfl)
    (case h412 => first | k_is | rfl)
    (case h413 => first | k_is | rfl)
    (case h414 => first | k_is | rfl)
    (case h415 => first | k_is | rfl)
    (case h416 => first | k_is | rfl)
    (case h417 => first | k_is | rfl)
    (case h418 => first | k_is | rfl)
    (case h419 => first | k_is | rfl)
    (case h420 => first | k_is | rfl)
    (case h421 => first | k_is | rfl)
    (case h422 => first | k_is | rfl)
    (case h423 => rfl)
    (case h424 => rfl)
    (case h425 => rfl)
    (case h426 => rfl)
    (case h427 => rfl)
    (case h428 => rfl)
    (case h429 => rfl)
    (case h430 => rfl)
    (case h431 => rfl)
    (case h432 => rfl)
    (case h433 => rfl)
    (case h434 => rfl)
    (case h435 => rfl)
    (case h436 => rfl)
    (case h437 => first | k_is | rfl)
    (case h438 => first | k_is | rfl)
    (case h439 => first | k_is | rfl)
    (case h440 => first | k_is | rfl)
    (case h441 => first | k_is | rfl)
    (case h442 => first | k_is | rfl)
    (case h443 => first | k_is | rfl)
    (case h444 => first | k_is | rfl)
    (case h445 => first | k_is | rfl)
    (case h446 => first | k_is | rfl)
    (case h447 => first | k_is | rfl)
    (case h448 => first | k_is | rfl)
    (case h449 => first | k_is | rfl)
    (case h450 => first | k_is | rfl)
    (case h451 => first | k_is | rfl)
    (case h452 => first | k_is | rfl)
    (case h453 => first | k_is | rfl)
    (case h454 => first | k_is | rfl)
    (case h455 => first | k_is | rfl)
    (case h456 => first | k_is | rfl)
    (case h457 => first | k_is | rfl)
    (case h458 => first | k_is | rfl)
    (case h459 => first | k_is | rfl)
    (case h460 => first | k_is | rfl)
  case S => exact Wale.judge_S
end
