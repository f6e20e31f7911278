import PyProof.Rows.All
import Wide.All
import OpenK.AllK
import Wide.FinOn
import PyProof.EqAt
import PyProof.EqKinds
import PyProof.TupleCall
import KE.BitLaws
import Open.SpecLaws
import KE.OsHead
import KE.OsGo
import KE.KSortTupG
import PyProof.Rows.SortShellAny
import PyWideLaws
import PyRd25
import PySem.Challenge.RW_turntasks_s01_answers
set_option Elab.async false
set_option linter.all false
set_option maxRecDepth 100000
set_option genInjectivity false
set_option genSizeOf false
section
set_option Elab.async false
set_option linter.all false
set_option maxRecDepth 100000
namespace L2
open PySem PySem.Spec PyProof.Rows
abbrev Key := Sum Int Str
def keyIs : Key → Value → Bool
  | .inl k, v => Value.isInt k v
  | .inr x, v => Value.isStrOf x v
def keyH (w : World) : Key → Int
  | .inl k => hashInt k
  | .inr x => hashStr w x
theorem keyIs_shape : ∀ {k : Key} {v : Value}, keyIs k v = true → (∃ i t, k = Sum.inl i ∧ v = Value.int i t) ∨ (∃ x t, k = Sum.inr x ∧ v = Value.str x t)
  | .inl i, v, h => by
    obtain ⟨t, e⟩ := Value.isInt_shape (k := i) (v := v) h
    exact .inl ⟨i, t, rfl, e⟩
  | .inr x, v, h => by
    obtain ⟨t, e⟩ := Value.isStrOf_shape (x := x) (v := v) h
    exact .inr ⟨x, t, rfl, e⟩
theorem keyIs_int (i : Int) (t : Tok) : keyIs (.inl i) (.int i t) = true := by simp [keyIs, Value.isInt]
theorem keyIs_str (x : Str) (t : Tok) : keyIs (.inr x) (.str x t) = true := by simp [keyIs, Value.isStrOf]
theorem key_ll (a b : Int) : decide ((Sum.inl a : Key) = Sum.inl b) = (a == b) := by
  by_cases e : a = b
  · subst e; simp
  · have h : ¬ (Sum.inl a : Key) = Sum.inl b := fun q => e (Sum.inl.inj q)
    rw [decide_eq_false h]
    exact (beq_eq_false_iff_ne.mpr e).symm
theorem key_rr (a b : Str) : decide ((Sum.inr a : Key) = Sum.inr b) = decide (a = b) := by
  by_cases e : a = b
  · subst e; simp
  · have h : ¬ (Sum.inr a : Key) = Sum.inr b := fun q => e (Sum.inr.inj q)
    rw [decide_eq_false h, decide_eq_false e]
theorem key_lr (a : Int) (b : Str) : decide ((Sum.inl a : Key) = Sum.inr b) = false := decide_eq_false (fun q => nomatch q)
theorem key_rl (a : Str) (b : Int) : decide ((Sum.inr a : Key) = Sum.inl b) = false := decide_eq_false (fun q => nomatch q)
def mixKind (prog : Program) (w : World) : PySem.KeyKind prog w Key where
  is := keyIs
  hash := keyH w
  inj := fun v a b ha hb => by
    rcases keyIs_shape ha with ⟨i, t, rfl, rfl⟩ | ⟨x, t, rfl, rfl⟩
    · rcases keyIs_shape hb with ⟨j, u, rfl, e⟩ | ⟨y, u, rfl, e⟩
      · injection e with e1 _; rw [e1]
      · exact nomatch e
    · rcases keyIs_shape hb with ⟨j, u, rfl, e⟩ | ⟨y, u, rfl, e⟩
      · exact nomatch e
      · injection e with e1 _; rw [e1]
  byValue := fun k v h => by
    rcases keyIs_shape h with ⟨i, t, rfl, rfl⟩ | ⟨x, t, rfl, rfl⟩ <;> rfl
  pyHash := fun hv h => by
    rcases keyIs_shape hv with ⟨i, t, rfl, rfl⟩ | ⟨x, t, rfl, rfl⟩
    · exact wpAny_pyHash_int h
    · exact wpAny_pyHash_str h
  eqBool := fun hu hv h => by
    rcases keyIs_shape hu with ⟨i, t, rfl, rfl⟩ | ⟨x, t, rfl, rfl⟩
    · rcases keyIs_shape hv with ⟨j, u, rfl, rfl⟩ | ⟨y, u, rfl, rfl⟩
      · rw [key_ll] at h; exact wpAny_eqBool_int h
      · rw [key_lr] at h; exact SeqAt.EqAt.int_str i t y u _ _ _ _ h
    · rcases keyIs_shape hv with ⟨j, u, rfl, rfl⟩ | ⟨y, u, rfl, rfl⟩
      · rw [key_rl] at h; exact SeqAt.EqAt.str_int x t j u _ _ _ _ h
      · rw [key_rr] at h; exact wpAny_eqBool_str h
  «strs» := fun k x t v h => by
    rcases keyIs_shape h with ⟨i, u, rfl, e⟩ | ⟨y, u, rfl, e⟩
    · exact nomatch e
    · injection e with e1 _
      subst e1
      cases v <;> rfl
theorem mixKind_int (prog : Program) (w : World) (i : Int) (t : Tok) : (mixKind prog w).is (.inl i) (.int i t) = true := keyIs_int i t
theorem mixKind_str (prog : Program) (w : World) (x : Str) (t : Tok) : (mixKind prog w).is (.inr x) (.str x t) = true := keyIs_str x t
end L2
namespace L2
open PySem PySem.Spec PyProof.Rows
inductive V where
  | non | bl (b : Bool) | int (i : Int) | str (x : Str) | byt (b : Array UInt8) | flt (b : UInt64) | ref (a : Addr) | ty (n : String)
  deriving DecidableEq
def RelV : V → Value → Prop
  | .non, u => u = Value.none
  | .bl b, u => u = Value.bool b
  | .int i, u => ∃ t, u = Value.int i t
  | .str x, u => ∃ t, u = Value.str x t
  | .byt b, u => ∃ t, u = Value.bytes b t
  | .flt b, u => ∃ t, u = Value.float b t
  | .ref a, u => u = Value.ref a
  | .ty n, u => u = Value.type n
abbrev Vals : List V → List Value → Prop := Paired RelV
theorem Vals.length {xs : List V} {us : List Value} (r : Vals xs us) : xs.length = us.length := Paired.length r
theorem Vals.get : ∀ {xs : List V} {us : List Value} {i : Nat} {x : V}, Vals xs us → xs[i]? = some x → ∃ u, us[i]? = some u ∧ RelV x u
  | _, _, _, _, .nil, e => by simp at e
  | _, _, 0, _, .cons r _, e => by simp at e; subst e; exact ⟨_, rfl, r⟩
  | _, _, i + 1, x, .cons _ t, e => by
    obtain ⟨u, h1, h2⟩ := Vals.get (i := i) (x := x) t (by simpa using e)
    exact ⟨u, by simpa using h1, h2⟩
theorem Vals.append : ∀ {xs ys : List V} {us ws : List Value}, Vals xs us → Vals ys ws → Vals (xs ++ ys) (us ++ ws)
  | _, _, _, _, .nil, s => s
  | _, _, _, _, .cons r t, s => .cons r (Vals.append t s)
theorem Vals.take : ∀ {xs : List V} {us : List Value} (n : Nat), Vals xs us → Vals (xs.take n) (us.take n)
  | _, _, 0, _ => .nil
  | _, _, _ + 1, .nil => .nil
  | _, _, n + 1, .cons r t => .cons r (Vals.take n t)
theorem Vals.drop : ∀ {xs : List V} {us : List Value} (n : Nat), Vals xs us → Vals (xs.drop n) (us.drop n)
  | _, _, 0, r => r
  | _, _, _ + 1, .nil => .nil
  | _, _, n + 1, .cons _ t => Vals.drop n t
def RelO : Option V → Option Value → Prop
  | some v, some u => RelV v u
  | none, none => True
  | _, _ => False
def KV {κ : Type} : List (κ × V) → List (κ × Value) → Prop := Paired fun (p : κ × V) (q : κ × Value) => p.1 = q.1 ∧ RelV p.2 q.2
def kV : Key → V
  | .inl i => .int i
  | .inr x => .str x
inductive HO where
  | lst (xs : List V)
  | tup (xs : List V)
  | dK (kvs : List (Key × V)) | dT (kvs : List (List Key × V))
  | set (S : Int → Bool) (n : Nat)
  | ins (C dx : Addr) (fs : List (Str × V))
  | own (x : Addr)
  | xd (fs : List (Str × V))
  | met (f x : Addr)
  | rng (lo hi : Int)
  | frz (o : Obj) (u : HO)
  | tbl (ps : Array Value)
  | ext (φ : Heap → Prop)
abbrev Hp := Addr → Option HO
def upd (H : Hp) (a : Addr) (o : HO) : Hp := fun b => if b = a then some o else H b
theorem upd_same {H : Hp} {a : Addr} {o : HO} : upd H a o a = some o := by unfold upd; rw [if_pos rfl]
theorem upd_ne {H : Hp} {a b : Addr} {o : HO} (h : b ≠ a) : upd H a o b = H b := by unfold upd; rw [if_neg h]
theorem upd_upd {H : Hp} {a : Addr} {o u : HO} : upd (upd H a o) a u = upd H a u := by
  funext b; unfold upd; split <;> rfl
theorem ne_of {H : Hp} {a b : Addr} {o u : HO} (h : H a = some o) (h' : H b = some u) (d : o ≠ u) : a ≠ b := by
  intro e; subst e; rw [h] at h'; exact d (Option.some.inj h')
theorem ne_of_none {H : Hp} {a b : Addr} {o : HO} (h : H a = some o) (h' : H b = none) : a ≠ b := by
  intro e; subst e; rw [h] at h'; cases h'
section
variable (P : Program) (w : World)
def ObjOk (H : Hp) (h : Heap) (a : Addr) : HO → Prop
  | .lst xs => xs.length ≤ sizeLine ∧ ∃ (its : List Value) (n : Nat), Vals xs its ∧ h.get? a = some { cls := .type "list", data := .seq its.toArray n }
  | .tup xs => xs.length ≤ sizeLine ∧ ∃ its : List Value, Vals xs its ∧ IsTup h a its.toArray
  | .dK kvs => kvs.length ≤ sizeLine ∧ (a == sysModules) = false ∧ ∃ vs, KV kvs vs ∧ h.DictOf (mixKind P w) a vs
  | .dT kvs => kvs.length ≤ sizeLine ∧ (a == sysModules) = false ∧ ∃ xs : List (List Key × Addr × Value),
      Paired (fun (p : List Key × V) (q : List Key × Addr × Value) => p.1 = q.1 ∧ H q.2.1 = some (.tup (p.1.map kV)) ∧ RelV p.2 q.2.2) kvs xs ∧
      ∃ o es ep, h.get? a = some o ∧ o.ExactDict ∧ o.data = .dict es ep ∧ es.toList = xs.map (entryOfKey (tupleKind (mixKind P w))) ∧ (xs.map (·.1)).Nodup
  | .set S n => h.SetOf (intKind P w) a S n
  | .ins C dx fs => H dx = some (.own a) ∧ fs.length ≤ 1000 ∧ dx ≠ a ∧ h.get? a = some (PySem.W.instObj C dx) ∧
      ∃ mA, h.Ns1 dx mA ∧ (∀ f, RelO (fs.lookup f) (mA f)) ∧ PySem.Within mA (fs.map (·.1))
  | .own _ => ∃ o, h.get? a = some o
  | .xd fs => ∃ mA, h.Ns1 a mA ∧ ∀ f, RelO (fs.lookup f) (mA f)
  | .rng lo hi => ∃ t u v, h.get? a = some { cls := .type "range", data := .fields #[.int lo t, .int hi u, .int 1 v] }
  | .frz o u => h.get? a = some o ∧ ObjOk H h a u
  | .tbl ps => h.get? a = some { cls := .none, data := .fields ps }
  | .met f x => h.get? a = some (PySem.W.methodObj (.ref f) (.ref x))
  | .ext φ => φ h ∧ (∃ o, h.get? a = some o) ∧ ∀ h1 h2 : Heap, φ h1 → (∀ o, h1.get? a = some o → h2.get? a = some o) → φ h2
def HOk (H : Hp) (h : Heap) : Prop := ∀ a o, H a = some o → ObjOk P w H h a o
end
section
variable {P : Program} {w : World} {H H' : Hp} {h h' : Heap} {a : Addr} {o : HO}
theorem ObjOk.lt (x : ObjOk P w H h a o) : a < h.objs.size := by
  cases o with
  | lst xs => obtain ⟨_, _, _, _, e⟩ := x; exact Heap.lt_size e
  | tup xs => obtain ⟨_, _, _, p⟩ := x; exact p.lt
  | dK kvs => obtain ⟨_, _, _, _, o, _, _, e, _⟩ := x; exact Heap.lt_size e
  | dT kvs => obtain ⟨_, _, _, _, o, _, _, e, _⟩ := x; exact Heap.lt_size e
  | set S n => obtain ⟨o, _, _, _, e, _⟩ := x; exact Heap.lt_size e
  | ins C dx fs => obtain ⟨_, _, _, e, _⟩ := x; exact Heap.lt_size e
  | own y => obtain ⟨_, e⟩ := x; exact Heap.lt_size e
  | xd fs => obtain ⟨_, ⟨_, _, _, e, _⟩, _⟩ := x; exact Heap.lt_size e
  | rng lo hi => obtain ⟨_, _, _, e⟩ := x; exact Heap.lt_size e
  | frz ob u => obtain ⟨e, _⟩ := x; exact Heap.lt_size e
  | tbl ps => exact Heap.lt_size (show h.get? a = some _ from x)
  | met f y => exact Heap.lt_size (show h.get? a = some _ from x)
  | ext φ => obtain ⟨_, ⟨_, e⟩, _⟩ := x; exact Heap.lt_size e
theorem Paired.mapP {α β : Type} {F G : α → β → Prop} : ∀ {l₁ : List α} {l₂ : List β}, Paired F l₁ l₂ → (∀ a b, F a b → G a b) → Paired G l₁ l₂
  | _, _, .nil, _ => .nil
  | _, _, .cons r t, f => .cons (f _ _ r) (Paired.mapP t f)
theorem ObjOk.stay (x : ObjOk P w H h a o) (k : ∀ b u, (b = a ∨ H b = some (.own a)) → h.get? b = some u → h'.get? b = some u)
    (ho : ∀ b, H b = some (.own a) → H' b = some (.own a)) (ht : ∀ b xs, H b = some (.tup xs) → H' b = some (.tup xs)) : ObjOk P w H' h' a o := by
  induction o with
  | lst xs => obtain ⟨z, its, n, r, e⟩ := x; exact ⟨z, its, n, r, k _ _ (.inl rfl) e⟩
  | tup xs => obtain ⟨z, its, r, ob, e, c⟩ := x; exact ⟨z, its, r, ob, k _ _ (.inl rfl) e, c⟩
  | dK kvs => obtain ⟨z, y, vs, r, ob, es, ep, e, c⟩ := x; exact ⟨z, y, vs, r, ob, es, ep, k _ _ (.inl rfl) e, c⟩
  | dT kvs =>
    obtain ⟨z, y, xs, r, ob, es, ep, e, c⟩ := x
    exact ⟨z, y, xs, Paired.mapP r fun p q z => ⟨z.1, ht _ _ z.2.1, z.2.2⟩, ob, es, ep, k _ _ (.inl rfl) e, c⟩
  | set S n => obtain ⟨ob, es, ep, t, e, c⟩ := x; exact ⟨ob, es, ep, t, k _ _ (.inl rfl) e, c⟩
  | ins C dx fs =>
    obtain ⟨d, z, ne, e, mA, ⟨od, es, ep, e2, c⟩, r⟩ := x
    exact ⟨ho _ d, z, ne, k _ _ (.inl rfl) e, mA, ⟨od, es, ep, k _ _ (.inr d) e2, c⟩, r⟩
  | own y => obtain ⟨ob, e⟩ := x; exact ⟨ob, k _ _ (.inl rfl) e⟩
  | xd fs => obtain ⟨mA, ⟨od, es, ep, e, c⟩, r⟩ := x; exact ⟨mA, ⟨od, es, ep, k _ _ (.inl rfl) e, c⟩, r⟩
  | rng lo hi => obtain ⟨t, u, v, e⟩ := x; exact ⟨t, u, v, k _ _ (.inl rfl) e⟩
  | frz ob u ih => obtain ⟨e, q⟩ := x; exact ⟨k _ _ (.inl rfl) e, ih q⟩
  | tbl ps =>
    have e : h.get? a = some { cls := .none, data := .fields ps } := x
    show h'.get? a = some { cls := .none, data := .fields ps }
    exact k a _ (.inl rfl) e
  | met f y =>
    have e : h.get? a = some (PySem.W.methodObj (.ref f) (.ref y)) := x
    show h'.get? a = some (PySem.W.methodObj (.ref f) (.ref y))
    exact k a _ (.inl rfl) e
  | ext φ => obtain ⟨p, ⟨o, e⟩, st⟩ := x; exact ⟨st _ _ p fun o q => k _ _ (.inl rfl) q, ⟨o, k _ _ (.inl rfl) e⟩, st⟩
theorem HOk.lt (x : HOk P w H h) (e : H a = some o) : a < h.objs.size := (x a o e).lt
theorem HOk.fresh (x : HOk P w H h) (e : h.objs.size ≤ a) : H a = none := by
  cases q : H a with
  | none => rfl
  | some u => exact absurd (Nat.lt_of_lt_of_le (x.lt q) e) (Nat.lt_irrefl _)
theorem HOk.kept (x : HOk P w H h) (k : ∀ b u, h.get? b = some u → h'.get? b = some u) : HOk P w H h' := fun a o e =>
  (x a o e).stay (fun b u _ q => k b u q) (fun _ q => q) fun _ _ q => q
theorem HOk.laid (x : HOk P w H h) (k : ∀ b u, h.get? b = some u → h'.get? b = some u) (hp : h.objs.size ≤ a) (new : ObjOk P w (upd H a o) h' a o) : HOk P w (upd H a o) h' := fun b u e => by
  have hn := x.fresh hp
  by_cases hb : b = a
  · subst hb; rw [upd_same] at e; cases e; exact new
  · rw [upd_ne hb] at e
    exact (x b u e).stay (fun c v _ q => k c v q) (fun c q => by rw [upd_ne (ne_of_none q hn)]; exact q) fun c xs q => by rw [upd_ne (ne_of_none q hn)]; exact q
end
def Rd (H : Hp) (a : Addr) (u : HO) : Prop := H a = some u ∨ ∃ o, H a = some (.frz o u)
theorem Rd.ok {P : Program} {w : World} {H : Hp} {h : Heap} {a : Addr} {u : HO} (r : Rd H a u) (x : HOk P w H h) : ObjOk P w H h a u := by
  rcases r with r | ⟨o, r⟩
  · exact x a u r
  · obtain ⟨_, q⟩ := x a _ r
    exact q
def Mut : Option HO → Prop
  | some (.lst _) => True
  | some (.dK _) => True
  | some (.dT _) => True
  | some (.set _ _) => True
  | some (.ins _ _ _) => True
  | some (.ext _) => True
  | _ => False
section
variable {P : Program} {w : World} {H : Hp} {h h' : Heap} {x e : Addr} {o' : HO}
theorem HOk.write (ok : HOk P w H h) (mu : Mut (H x)) (he : e = x ∨ H e = some (.own x)) (k : ∀ b u, b ≠ e → h.get? b = some u → h'.get? b = some u) (heo : ∃ u, h'.get? e = some u)
    (new : ObjOk P w (upd H x o') h' x o') : HOk P w (upd H x o') h' := fun b u q => by
  have nown : ∀ c y, H c = some (.own y) → c ≠ x := fun c y r z => by subst z; rw [r] at mu; exact mu
  have ntup : ∀ c xs, H c = some (.tup xs) → c ≠ x := fun c xs r z => by subst z; rw [r] at mu; exact mu
  by_cases hb : b = x
  · subst hb; rw [upd_same] at q; cases q; exact new
  · rw [upd_ne hb] at q
    by_cases hbe : b = e
    · have q' : H b = some (.own x) := by
        rcases he with z | z
        · exact absurd (hbe.trans z) hb
        · rw [hbe]; exact z
      rw [q] at q'; cases q'
      obtain ⟨v, hv⟩ := heo
      exact ⟨v, by rw [hbe]; exact hv⟩
    · refine (ok b u q).stay (fun c v hc r => k c v ?_ r) (fun c r => by rw [upd_ne (nown c b r)]; exact r) fun c xs r => by rw [upd_ne (ntup c xs r)]; exact r
      rcases hc with rfl | hc
      · exact hbe
      · rintro rfl
        rcases he with z | z
        · exact nown c b hc z
        · rw [hc] at z; cases z; exact hb rfl
end
structure Un (fs ex : List Addr) (H H' : Hp) (h h' : Heap) : Prop where
  keep : ∀ b o, h.get? b = some o → H b = none → b ∉ fs → b ∉ ex → h'.get? b = some o
  slot : ∀ b o, h.get? b = some o → H b = none → b ∈ fs → b ∉ ex → ∃ sl, h'.get? b = some { o with slots := sl }
  free : ∀ b o, h.get? b = some o → H b = none → b ∉ ex → H' b = none
  there : ∀ b o, h.get? b = some o → b ∉ ex → ∃ o', h'.get? b = some o'
  tups : ∀ b xs, H b = some (.tup xs) → H' b = some (.tup xs)
  frzs : ∀ b o u, H b = some (.frz o u) → H' b = some (.frz o u)
  tbls : ∀ b ps, H b = some (.tbl ps) → ∃ more, H' b = some (.tbl (ps ++ more))
section
variable {fs fs' ex ex' : List Addr} {H H1 H2 : Hp} {h h1 h2 h' : Heap} {a x e : Addr} {o : HO}
theorem Un.any (u : Un fs ex H H1 h h1) {b : Addr} {ob : Obj} (q : h.get? b = some ob) (n : H b = none) (hx : b ∉ ex) : ∃ sl, h1.get? b = some { ob with slots := sl } := by
  by_cases hb : b ∈ fs
  · exact u.slot b ob q n hb hx
  · exact ⟨ob.slots, u.keep b ob q n hb hx⟩
theorem Un.kept (k : ∀ b u, h.get? b = some u → h'.get? b = some u) : Un fs ex H H h h' :=
  ⟨fun b ob q _ _ _ => k b ob q, fun b ob q _ _ _ => ⟨ob.slots, k b ob q⟩, fun _ _ _ n _ => n, fun b ob q _ => ⟨ob, k b ob q⟩, fun _ _ q => q, fun _ _ _ q => q, fun _ ps q => ⟨#[], by rw [q]; simp⟩⟩
theorem Un.refl : Un fs ex H H h h := Un.kept fun _ _ q => q
theorem Un.laid (k : ∀ b u, h.get? b = some u → h'.get? b = some u) (hp : h.objs.size ≤ a) (hn : H a = none) : Un fs ex H (upd H a o) h h' where
  keep := fun b u q _ _ _ => k b u q
  slot := fun b u q _ _ _ => ⟨u.slots, k b u q⟩
  free := fun b u q n _ => by rw [upd_ne (Nat.ne_of_lt (Nat.lt_of_lt_of_le (Heap.lt_size q) hp))]; exact n
  there := fun b u q _ => ⟨u, k b u q⟩
  tups := fun b xs q => by rw [upd_ne (ne_of_none q hn)]; exact q
  frzs := fun b u xs q => by rw [upd_ne (ne_of_none q hn)]; exact q
  tbls := fun b ps q => ⟨#[], by rw [upd_ne (ne_of_none q hn), q]; simp⟩
theorem Un.write (mu : Mut (H x)) (he : e = x ∨ H e = some (.own x)) (k : ∀ b u, b ≠ e → h.get? b = some u → h'.get? b = some u) (heo : ∃ u, h'.get? e = some u) : Un fs ex H (upd H x o) h h' := by
  have hx : ∀ b, H b = none → b ≠ x := fun b n z => by subst z; rw [n] at mu; exact mu
  have hb : ∀ b, H b = none → b ≠ e := fun b n z => by
    subst z
    rcases he with r | r
    · exact hx b n r
    · rw [n] at r; cases r
  have hm : ∀ b u, H b = some u → ¬ Mut (some u) → b ≠ x := fun b u q nm z => by subst z; rw [q] at mu; exact nm mu
  refine ⟨fun b u q n _ _ => k b u (hb b n) q, fun b u q n _ _ => ⟨u.slots, k b u (hb b n) q⟩, fun b u q n _ => by rw [upd_ne (hx b n)]; exact n, fun b u q _ => ?_,
    fun b xs q => by rw [upd_ne (hm b _ q fun z => z)]; exact q, fun b u xs q => by rw [upd_ne (hm b _ q fun z => z)]; exact q, fun b ps q => ⟨#[], by rw [upd_ne (hm b _ q fun z => z), q]; simp⟩⟩
  by_cases hbe : b = e
  · subst hbe; exact heo
  · exact ⟨u, k b u hbe q⟩
end
def trk (h : Heap) (H : Hp) : List Addr := (List.range h.objs.size).filter fun a => (H a).isSome
def hidT (h : Heap) (H : Hp) : Heap := PySem.W.hideAll h (trk h H)
theorem hidT_size (h : Heap) (H : Hp) : (hidT h H).objs.size = h.objs.size := PySem.W.hideAll_size _ _
theorem hidT_get {h : Heap} {H : Hp} {b : Addr} {o : Obj} (e : h.get? b = some o) (n : H b = none) : (hidT h H).get? b = some o :=
  PySem.W.hideAll_get _ e fun hm => by
    have q : (H b).isSome = true := (List.mem_filter.mp hm).2
    rw [n] at q; simp at q
theorem of_hidT {h : Heap} {H : Hp} {b : Addr} {o : Obj} (e : (hidT h H).get? b = some o) : h.get? b = some o ∧ H b = none := by
  have e' : h.get? b = some o := PySem.W.of_hideAll (trk h H) e
  refine ⟨e', ?_⟩
  cases q : H b with
  | none => rfl
  | some x =>
    have hm : b ∈ trk h H := List.mem_filter.mpr ⟨List.mem_range.mpr (Heap.lt_size e'), by simp [q]⟩
    have z : (hidT h H).get? b = none := PySem.W.hideAll_none (trk h H) hm
    rw [z] at e; cases e
end L2
namespace L2
open PySem PySem.Spec PyProof.Rows
structure Mod (K : PySem.W.Frag) (mg : Str → Option Value) (base : Heap) : Prop where
  kin : K.In base
  glob : base.Ns mainGlobals mg
  blt : ∃ mb, base.Ns builtinsNs mb ∧ ∀ x : Str, x ≠ "__name__" → mb x = bootBuiltins x
  nolimit : base.NoLimit
structure Cx where
  prog : Program
  w : World
  K : PySem.W.Frag
  mg : Str → Option Value
  base : Heap
  A : Around
  N : List Str
  s_0 : Shared
  H_0 : Hp
  env : Env
  outer : List Env
  stack : List Env
  ex : List Addr
  fn : Str → Bool
  calm : Bool
  pn : List (Addr × Obj)
  xe : Value → Shared → Prop
def frs (l : List Env) : List Addr := l.filterMap (·.frame)
abbrev Cx.fs (X : Cx) : List Addr := frs X.outer
def Vis (sc : Scope) (x : Str) : Prop := sc.names.lookup x = some .local ∨ sc.names.lookup x = some .cell ∨ sc.names.lookup x = some .free
def Loc (sc : Scope) (x : Str) : Prop := sc.names.lookup x = some .local ∨ sc.names.lookup x = some .cell
def Look (env : Env) (h : Heap) (m : Str → Option Value) (x : Str) (u : Value) : Prop :=
  (env.kindOf x = some .local ∧ m x = some u) ∨ ((env.kindOf x = some .cell ∨ env.kindOf x = some .free) ∧ ∃ c, env.cells.lookup x = some c ∧ h.IsCell c (some u))
structure Cx.Ok (X : Cx) : Prop where
  mod : Mod X.K X.mg X.base
  kind : X.env.scope.kind = .function
  glob : X.env.globals = mainGlobals
  blt : X.env.builtins = builtinsNs
  above : X.s_0.heap.objs.size ≤ X.env.locals
  inj : ∀ x y c, X.env.cells.lookup x = some c → X.env.cells.lookup y = some c → x = y
  has : ∀ x, (X.env.kindOf x = some .cell ∨ X.env.kindOf x = some .free) → ∃ c, X.env.cells.lookup x = some c
  cab : ∀ x c, X.fn x = true → X.env.cells.lookup x = some c → X.s_0.heap.objs.size ≤ c
  hd : X.calm = true → X.A.handled = none
  frames : X.A.frames = some X.stack
  stk : X.stack = X.outer ∨ (X.stack = X.env :: X.outer ∧ X.env.frame = some X.env.locals)
  exf : ∀ b ∈ X.ex, b ≠ X.env.locals ∧ ∀ x c, X.env.cells.lookup x = some c → c ≠ b
  bs : ∀ b o, X.base.get? b = some o → X.s_0.heap.get? b = some o ∧ X.H_0 b = none
  bsz : X.base.objs.size ≤ X.s_0.heap.objs.size
  noex : ∀ b o, X.base.get? b = some o → b ∉ X.ex
  exfs : ∀ b ∈ X.ex, b ∉ X.fs
  funs : X.s_0.heap.FunFrames X.base X.outer
  frf : ∀ b ∈ X.fs, X.H_0 b = none
structure Inv (X : Cx) (pins : List (Addr × Obj)) (σ : List (Option V)) (H : Hp) (s : Shared) : Prop where
  ok : X.Ok
  os : s.os = X.s_0.os
  bare : AllBare s.gens
  base : Un X.fs X.ex X.H_0 H X.s_0.heap s.heap
  loc : ∃ m, s.heap.Ns X.env.locals m ∧ ∀ (i : Nat) (x : Str) (v : V), X.N[i]? = some x → σ[i]? = some (some v) → Vis X.env.scope x → ∃ u, RelV v u ∧ Look X.env s.heap m x u
  cell : ∀ x c, X.env.cells.lookup x = some c → ∃ v, s.heap.IsCell c v
  free : H X.env.locals = none
  freeC : ∀ x c, X.env.cells.lookup x = some c → H c = none
  pin : ∀ p ∈ X.pn ++ pins, s.heap.get? p.1 = some p.2 ∧ H p.1 = none ∧ p.1 ≠ X.env.locals ∧ p.1 ∉ X.fs ∧ ∀ v, p.2.data ≠ .cell v
  hok : HOk X.prog X.w H s.heap
  len : σ.length = X.N.length
section
variable {X : Cx} {pins : List (Addr × Obj)} {σ : List (Option V)} {H H' : Hp} {s : Shared} {h' : Heap}
theorem Cx.Ok.nofr (ok : X.Ok) {b : Addr} {o : Obj} (e : X.base.get? b = some o) : b ∉ X.fs := fun hb => by
  have := (ok.funs.mem hb).1
  rw [e] at this; cases this
theorem Inv.bs (I : Inv X pins σ H s) : ∀ b o, X.base.get? b = some o → s.heap.get? b = some o ∧ H b = none := fun b o e =>
  ⟨I.base.keep b o (I.ok.bs b o e).1 (I.ok.bs b o e).2 (I.ok.nofr e) (I.ok.noex b o e), I.base.free b o (I.ok.bs b o e).1 (I.ok.bs b o e).2 (I.ok.noex b o e)⟩
theorem Inv.bk (I : Inv X pins σ H s) : ∀ b o, X.base.get? b = some o → s.heap.get? b = some o := fun b o e => (I.bs b o e).1
theorem Inv.mod (I : Inv X pins σ H s) : Mod X.K X.mg X.base := I.ok.mod
theorem Inv.kIn (I : Inv X pins σ H s) : X.K.In s.heap := I.ok.mod.kin.keeps I.bk
theorem Inv.lt (I : Inv X pins σ H s) : X.env.locals < s.heap.objs.size := let ⟨_, hn, _⟩ := I.loc; hn.lt
theorem Inv.sz (I : Inv X pins σ H s) : X.s_0.heap.objs.size ≤ s.heap.objs.size := Nat.le_trans I.ok.above (Nat.le_of_lt I.lt)
theorem Inv.nofs (I : Inv X pins σ H s) {a : Addr} (h : s.heap.objs.size ≤ a) : a ∉ X.fs := fun hb => by
  obtain ⟨_, o, ho, _⟩ := I.ok.funs.mem hb
  exact absurd (Nat.lt_of_lt_of_le (Heap.lt_size ho) (Nat.le_trans I.sz h)) (Nat.lt_irrefl _)
theorem Inv.cne (I : Inv X pins σ H s) : ∀ x c, X.env.cells.lookup x = some c → c ≠ X.env.locals := fun x c e z => by
  obtain ⟨v, o, ho, hd⟩ := I.cell x c e
  obtain ⟨m, ⟨o', es, ep, ho', hd', _⟩, _⟩ := I.loc
  rw [z, ho'] at ho; cases ho; rw [hd'] at hd; cases hd
theorem Inv.funs (I : Inv X pins σ H s) : s.heap.FunFrames X.base X.outer := by
  have all : ∀ (l : List Env), (∀ b ∈ frs l, b ∈ X.fs) → X.s_0.heap.FunFrames X.base l → s.heap.FunFrames X.base l := by
    intro l
    induction l with
    | nil => intro _ _; trivial
    | cons env r ih =>
      intro hs hl
      obtain ⟨hk, ⟨L, o, hf, hn, ho, hd⟩, hr⟩ := hl
      have hL : L ∈ X.fs := hs L (by unfold frs; rw [List.filterMap_cons, hf]; exact List.mem_cons_self)
      obtain ⟨sl, e⟩ := I.base.slot L o ho (I.ok.frf L hL) hL fun z => I.ok.exfs L z hL
      exact ⟨hk, ⟨L, _, hf, hn, e, hd⟩, ih (fun b hb => hs b (by unfold frs; rw [List.filterMap_cons, hf]; exact List.mem_cons_of_mem _ hb)) hr⟩
  exact all X.outer (fun _ hb => hb) I.ok.funs
theorem Inv.stack (I : Inv X pins σ H s) : s.heap.FunFrames X.base X.stack := by
  rcases I.ok.stk with e | ⟨e, hf⟩
  · rw [e]; exact I.funs
  · rw [e]
    obtain ⟨m, hn, _⟩ := I.loc
    refine .cons (by rw [I.ok.kind]; decide) hf hn ?_ I.funs
    exact Heap.get?_none_of_le (Nat.le_trans I.ok.bsz I.ok.above)
theorem Inv.stkSub (I : Inv X pins σ H s) : ∀ b ∈ frs X.stack, b ∈ X.env.locals :: X.fs := fun b hb => by
  rcases I.ok.stk with e | ⟨e, hf⟩
  · rw [e] at hb; exact List.mem_cons_of_mem _ hb
  · rw [e] at hb
    unfold frs at hb
    rw [List.filterMap_cons, hf] at hb
    exact hb
theorem Inv.stkFree (I : Inv X pins σ H s) : ∀ b ∈ frs X.stack, H b = none := fun b hb => by
  rcases List.mem_cons.mp (I.stkSub b hb) with e | hb
  · rw [e]; exact I.free
  · obtain ⟨_, o, ho, _⟩ := I.ok.funs.mem hb
    exact I.base.free b o ho (I.ok.frf b hb) fun z => I.ok.exfs b z hb
theorem Inv.step {g' : Array GenState} {t' : Nat} {d' : Drawn} {ch : List Addr} (I : Inv X pins σ H s)
    (hch : ∀ b ∈ ch, (b ∈ X.ex ∨ X.s_0.heap.objs.size ≤ b) ∧ b ≠ X.env.locals ∧ (∀ x c, X.env.cells.lookup x = some c → c ≠ b) ∧ ∀ p ∈ X.pn ++ pins, p.1 ≠ b)
    (keep : ∀ b o, b ≠ X.env.locals → b ∉ X.fs → b ∉ ch → s.heap.get? b = some o → H b = none → h'.get? b = some o)
    (slot : ∀ b o, b ≠ X.env.locals → b ∈ X.fs → b ∉ ch → s.heap.get? b = some o → H b = none → ∃ sl, h'.get? b = some { o with slots := sl }) (free : ∀ b o, b ∉ ch → s.heap.get? b = some o → H b = none → H' b = none)
    (there : ∀ b o, b ∉ ch → s.heap.get? b = some o → ∃ o', h'.get? b = some o')
    (tups : ∀ b xs, H b = some (.tup xs) → H' b = some (.tup xs)) (frzs : ∀ b o u, H b = some (.frz o u) → H' b = some (.frz o u)) (tbls : ∀ b ps, H b = some (.tbl ps) → ∃ more, H' b = some (.tbl (ps ++ more)))
    (ns : ∀ m, s.heap.Ns X.env.locals m → h'.Ns X.env.locals m) (hok : HOk X.prog X.w H' h') (hg : AllBare g') :
    Inv X pins σ H' { s with heap := h', gens := g', drawn := d', toks := t' } := by
  have neL : ∀ b o, X.s_0.heap.get? b = some o → b ≠ X.env.locals := fun b o e => Nat.ne_of_lt (Nat.lt_of_lt_of_le (Heap.lt_size e) I.ok.above)
  have neC : ∀ b o, X.s_0.heap.get? b = some o → b ∉ X.ex → b ∉ ch := fun b o e hx hb => by
    rcases (hch b hb).1 with z | z
    · exact hx z
    · exact absurd (Nat.lt_of_lt_of_le (Heap.lt_size e) z) (Nat.lt_irrefl _)
  have cellK : ∀ x c, X.env.cells.lookup x = some c → ∀ v, s.heap.IsCell c v → h'.IsCell c v := fun x c e v ⟨o, ho, hd⟩ => by
    have nch : c ∉ ch := fun z => (hch c z).2.2.1 x c e rfl
    by_cases hc : c ∈ X.fs
    · obtain ⟨sl, q⟩ := slot c o (I.cne x c e) hc nch ho (I.freeC x c e)
      exact ⟨_, q, hd⟩
    · exact ⟨o, keep c o (I.cne x c e) hc nch ho (I.freeC x c e), hd⟩
  refine ⟨I.ok, I.os, hg, ⟨fun b o e n hb hx => ?_, fun b o e n hb hx => ?_, fun b o e n hx => ?_, fun b o e hx => ?_, fun b xs e => tups b xs (I.base.tups b xs e), fun b o xs e => frzs b o xs (I.base.frzs b o xs e), fun b ps e => ?_⟩, ?_, fun x c e => ?_, ?_, fun x c e => ?_, fun p hp => ?_, hok, I.len⟩
  · exact keep b o (neL b o e) hb (neC b o e hx) (I.base.keep b o e n hb hx) (I.base.free b o e n hx)
  · obtain ⟨sl, e1⟩ := I.base.slot b o e n hb hx
    obtain ⟨sl', e2⟩ := slot b _ (neL b o e) hb (neC b o e hx) e1 (I.base.free b o e n hx)
    exact ⟨sl', e2⟩
  · obtain ⟨o', e1⟩ := I.base.there b o e hx
    exact free b o' (neC b o e hx) e1 (I.base.free b o e n hx)
  · obtain ⟨o', e1⟩ := I.base.there b o e hx
    exact there b o' (neC b o e hx) e1
  · obtain ⟨m1, e1⟩ := I.base.tbls b ps e
    obtain ⟨m2, e2⟩ := tbls b _ e1
    exact ⟨m1 ++ m2, by rw [e2, Array.append_assoc]⟩
  · obtain ⟨m, hn, hl⟩ := I.loc
    refine ⟨m, ns m hn, fun i x v e1 e2 e3 => ?_⟩
    obtain ⟨u, r, l⟩ := hl i x v e1 e2 e3
    refine ⟨u, r, ?_⟩
    rcases l with l | ⟨k, c, e, z⟩
    · exact .inl l
    · exact .inr ⟨k, c, e, cellK x c e _ z⟩
  · obtain ⟨v, z⟩ := I.cell x c e
    exact ⟨v, cellK x c e v z⟩
  · obtain ⟨m, ⟨o, _, _, ho, _⟩, _⟩ := I.loc
    exact free _ o (fun z => (hch _ z).2.1 rfl) ho I.free
  · obtain ⟨v, o, ho, hd⟩ := I.cell x c e
    exact free c o (fun z => (hch c z).2.2.1 x c e rfl) ho (I.freeC x c e)
  · obtain ⟨e, n, ne, nf, d⟩ := I.pin p hp
    have nch : p.1 ∉ ch := fun z => (hch p.1 z).2.2.2 p hp rfl
    exact ⟨keep p.1 p.2 ne nf nch e n, free p.1 p.2 nch e n, ne, nf, d⟩
theorem Inv.un {t' : Nat} (I : Inv X pins σ H s) (u : Un X.fs [] H H' s.heap h') (hok : HOk X.prog X.w H' h') : Inv X pins σ H' { s with heap := h', toks := t' } := by
  obtain ⟨m, ⟨o, es, ep, ho, r⟩, _⟩ := id I.loc
  obtain ⟨sl, hL⟩ := u.any ho I.free (by simp)
  exact I.step (g' := s.gens) (d' := s.drawn) (ch := []) (fun _ z => nomatch z) (fun b o _ hb _ e n => u.keep b o e n hb (by simp)) (fun b o _ hb _ e n => u.slot b o e n hb (by simp)) (fun b o _ e n => u.free b o e n (by simp)) (fun b o _ e => u.there b o e (by simp)) u.tups u.frzs u.tbls (fun m' hm => by
    obtain ⟨o', es', ep', ho', r'⟩ := hm
    rw [ho] at ho'; cases ho'
    exact ⟨_, es', ep', hL, r'⟩) hok I.bare
theorem Inv.call {g' : Array GenState} {t' : Nat} {d' : Drawn} {ch : List Addr} (I : Inv X pins σ H s) (u : Un (frs X.stack) ch H H' s.heap h') (hok : HOk X.prog X.w H' h') (hg : AllBare g')
    (hch : ∀ b ∈ ch, (b ∈ X.ex ∨ X.s_0.heap.objs.size ≤ b) ∧ b ≠ X.env.locals ∧ (∀ x c, X.env.cells.lookup x = some c → c ≠ b) ∧ ∀ p ∈ X.pn ++ pins, p.1 ≠ b) :
    Inv X pins σ H' { s with heap := h', gens := g', drawn := d', toks := t' } := by
  obtain ⟨m, ⟨o, es, ep, ho, r⟩, _⟩ := id I.loc
  obtain ⟨sl, hL⟩ := u.any ho I.free fun z => (hch _ z).2.1 rfl
  exact I.step (ch := ch) hch (fun b o hL hb hc e n => u.keep b o e n (fun z => (List.mem_cons.mp (I.stkSub b z)).elim hL hb) hc) (fun b o _ _ hc e n => u.any e n hc) (fun b o hc e n => u.free b o e n hc) (fun b o hc e => u.there b o e hc) u.tups u.frzs u.tbls (fun m' hm => by
    obtain ⟨o', es', ep', ho', r'⟩ := hm
    rw [ho] at ho'; cases ho'
    exact ⟨_, es', ep', hL, r'⟩) hok hg
theorem Inv.turned {t' : Nat} {it : Addr} (I : Inv X pins σ H s) (k : ∀ b o, b ≠ it → s.heap.get? b = some o → h'.get? b = some o) (hn : H it = none) (hL : it ≠ X.env.locals)
    (h1 : it ∈ X.ex ∨ X.s_0.heap.objs.size ≤ it) (h2 : ∀ x c, X.env.cells.lookup x = some c → c ≠ it) (h3 : ∀ p ∈ X.pn ++ pins, p.1 ≠ it) : Inv X pins σ H { s with heap := h', toks := t' } := by
  have nit : ∀ b u, H b = some u → b ≠ it := fun b u e z => by rw [z, hn] at e; cases e
  refine I.step (g' := s.gens) (d' := s.drawn) (ch := [it]) (fun b hb => ?_) (fun b o _ _ hc e _ => k b o (fun z => hc (by simp [z])) e) (fun b o _ _ hc e _ => ⟨o.slots, k b o (fun z => hc (by simp [z])) e⟩) (fun _ _ _ _ n => n)
    (fun b o hc e => ⟨o, k b o (fun z => hc (by simp [z])) e⟩) (fun _ _ e => e) (fun _ _ _ e => e) (fun b ps e => ⟨#[], by rw [e]; simp⟩) (fun m hm => ?_) (fun b u e => ?_) I.bare
  · have e : b = it := by simpa using hb
    subst e
    exact ⟨h1, hL, h2, h3⟩
  · obtain ⟨o, es, ep, ho, r⟩ := hm
    exact ⟨o, es, ep, k _ o (Ne.symm hL) ho, r⟩
  · refine (I.hok b u e).stay (fun c v hc q => k c v ?_ q) (fun _ q => q) fun _ _ q => q
    rcases hc with z | z
    · rw [z]; exact nit b u e
    · exact nit c _ z
theorem Inv.tok (I : Inv X pins σ H s) (t : Nat) : Inv X pins σ H { s with toks := t } := I.un (h' := s.heap) (t' := t) Un.refl I.hok
theorem Inv.kept {t' : Nat} (I : Inv X pins σ H s) (k : ∀ b u, s.heap.get? b = some u → h'.get? b = some u) : Inv X pins σ H { s with heap := h', toks := t' } := I.un (Un.kept k) (I.hok.kept k)
theorem Inv.laid {a : Addr} {o : HO} {t' : Nat} (I : Inv X pins σ H s) (k : ∀ b u, s.heap.get? b = some u → h'.get? b = some u) (hp : s.heap.objs.size ≤ a) (new : ObjOk X.prog X.w (upd H a o) h' a o) :
    Inv X pins σ (upd H a o) { s with heap := h', toks := t' } := I.un (Un.laid k hp (I.hok.fresh hp)) (I.hok.laid k hp new)
theorem Inv.write {x e : Addr} {o : HO} {t' : Nat} (I : Inv X pins σ H s) (mu : Mut (H x)) (he : e = x ∨ H e = some (.own x)) (k : ∀ b u, b ≠ e → s.heap.get? b = some u → h'.get? b = some u) (heo : ∃ u, h'.get? e = some u)
    (new : ObjOk X.prog X.w (upd H x o) h' x o) : Inv X pins σ (upd H x o) { s with heap := h', toks := t' } := I.un (Un.write mu he k heo) (I.hok.write mu he k heo new)
theorem Inv.weak {σ' : List (Option V)} (I : Inv X pins σ H s) (hl : σ'.length = σ.length) (w : ∀ (i : Nat) v, σ'[i]? = some (some v) → σ[i]? = some (some v)) : Inv X pins σ' H s :=
  ⟨I.ok, I.os, I.bare, I.base, let ⟨m, hn, hl'⟩ := I.loc; ⟨m, hn, fun i x v e1 e2 e3 => hl' i x v e1 (w i v e2) e3⟩, I.cell, I.free, I.freeC, I.pin, I.hok, hl.trans I.len⟩
theorem Inv.pins_of {pins' : List (Addr × Obj)} (I : Inv X pins σ H s) (h : ∀ p ∈ pins', s.heap.get? p.1 = some p.2 ∧ H p.1 = none ∧ p.1 ≠ X.env.locals ∧ p.1 ∉ X.fs ∧ ∀ v, p.2.data ≠ .cell v) : Inv X pins' σ H s :=
  ⟨I.ok, I.os, I.bare, I.base, I.loc, I.cell, I.free, I.freeC, fun p hp => (List.mem_append.mp hp).elim (fun z => I.pin p (List.mem_append_left _ z)) (h p), I.hok, I.len⟩
theorem nodup_ix {N : List Str} (hN : N.Nodup) {i j : Nat} {x : Str} (a : N[i]? = some x) (b : N[j]? = some x) : i = j := by
  obtain ⟨h1, e1⟩ := List.getElem?_eq_some_iff.mp a
  obtain ⟨h2, e2⟩ := List.getElem?_eq_some_iff.mp b
  exact (List.getElem_inj hN).mp (e1.trans e2.symm)
theorem store_ok2 {M : Model} {A : Around} {E : Value → Shared → Prop} {i : Nat} {x : Str} {v : V} {u : Value} {Q : Unit → Shared → Prop} (I : Inv X pins σ H s) (hN : X.N.Nodup) (hi : X.N[i]? = some x) (hx : Loc X.env.scope x) (r : RelV v u)
    (h : ∀ s', Inv X pins (σ.set i (some v)) H s' → (∃ a, Heap.SameBut a s.heap s'.heap ∧ (a = X.env.locals ∨ X.env.cells.lookup x = some a)) → Q () s') (hf : X.fn x = true ∨ X.env.scope.names.lookup x = some .local := by first | exact .inl rfl | exact .inr rfl | assumption) : wpAny M A (storeName X.env x u) Q E s := by
  obtain ⟨m, hn, hl⟩ := id I.loc
  have hcls : (X.env.scope.kind == .class || (X.env.scope.kind == .module && X.env.locals != X.env.globals)) = false := by rw [I.ok.kind]; rfl
  have hiσ : i < σ.length := by rw [I.len]; exact (List.getElem?_eq_some_iff.mp hi).1
  have cne := I.cne
  have tracked : ∀ {a : Addr} {h' : Heap}, (∃ o, s.heap.get? a = some o ∧ H a = none) → Heap.SameBut a s.heap h' → HOk X.prog X.w H h' := fun {a h'} ha hs b ob e => by
    obtain ⟨_, _, hfree⟩ := ha
    refine (I.hok b ob e).stay (fun c w' hc q => (hs.2 c ?_).trans q) (fun _ q => q) fun _ _ q => q
    rintro rfl
    rcases hc with rfl | hc
    · rw [hfree] at e; cases e
    · rw [hfree] at hc; cases hc
  rcases hx with hk | hk
  · refine wpAny_storeName_local hk hn (fun h' hn' hs => ?_) hcls
    obtain ⟨oL, _, _, hoL, _⟩ := id hn
    refine h _ ⟨I.ok, I.os, I.bare, ⟨fun b o e n hb hx => ?_, fun b o e n hb hx => ?_, I.base.free, fun b o e hx => ?_, I.base.tups, I.base.frzs, I.base.tbls⟩, ⟨_, hn', fun j y v' e1 e2 e3 => ?_⟩, fun y c e => ?_, I.free, I.freeC, fun p hp => ?_, tracked ⟨oL, hoL, I.free⟩ hs, by simpa using I.len⟩ ⟨_, hs, .inl rfl⟩
    · exact (hs.2 b (Nat.ne_of_lt (Nat.lt_of_lt_of_le (Heap.lt_size e) I.ok.above))).trans (I.base.keep b o e n hb hx)
    · obtain ⟨sl, e1⟩ := I.base.slot b o e n hb hx
      exact ⟨sl, (hs.2 b (Nat.ne_of_lt (Nat.lt_of_lt_of_le (Heap.lt_size e) I.ok.above))).trans e1⟩
    · obtain ⟨o', e1⟩ := I.base.there b o e hx
      exact ⟨o', (hs.2 b (Nat.ne_of_lt (Nat.lt_of_lt_of_le (Heap.lt_size e) I.ok.above))).trans e1⟩
    · by_cases hj : j = i
      · subst hj
        rw [hi] at e1; cases e1
        rw [List.getElem?_set_self hiσ] at e2
        cases e2
        exact ⟨u, r, .inl ⟨hk, by simp⟩⟩
      · rw [List.getElem?_set_ne (Ne.symm hj)] at e2
        obtain ⟨u', r', q⟩ := hl j y v' e1 e2 e3
        refine ⟨u', r', ?_⟩
        rcases q with ⟨k, e⟩ | ⟨k, c, e, z⟩
        · refine .inl ⟨k, ?_⟩
          have : y ≠ x := fun e => hj (nodup_ix hN e1 (e ▸ hi))
          simp [this, e]
        · exact .inr ⟨k, c, e, z.sameBut hs (cne y c e)⟩
    · obtain ⟨w', z⟩ := I.cell y c e
      exact ⟨w', z.sameBut hs (cne y c e)⟩
    · obtain ⟨e, n, ne, nf, d⟩ := I.pin p hp
      exact ⟨(hs.2 p.1 ne).trans e, n, ne, nf, d⟩
  · have hfn : X.fn x = true := by
      rcases hf with z | z
      · exact z
      · rw [z] at hk; cases hk
    obtain ⟨c, hc⟩ := I.ok.has x (.inl hk)
    obtain ⟨w', z⟩ := I.cell x c hc
    refine wpAny_storeName_cell I.ok.kind hk hc z (fun h' hc' hs => ?_)
    obtain ⟨oc, hoc, hocd⟩ := id z
    refine h { s with heap := h' } ⟨I.ok, I.os, I.bare, ⟨fun b o e n hb hx => ?_, fun b o e n hb hx => ?_, I.base.free, fun b o e hx => ?_, I.base.tups, I.base.frzs, I.base.tbls⟩, ⟨m, hn.sameBut hs (Ne.symm (cne x c hc)), fun j y v' e1 e2 e3 => ?_⟩, fun y c' e => ?_, I.free, I.freeC, fun p hp => ?_, tracked ⟨oc, hoc, I.freeC x c hc⟩ hs, by simpa using I.len⟩ ⟨c, hs, .inr hc⟩
    · exact (hs.2 b (Nat.ne_of_lt (Nat.lt_of_lt_of_le (Heap.lt_size e) (I.ok.cab x c hfn hc)))).trans (I.base.keep b o e n hb hx)
    · obtain ⟨sl, e1⟩ := I.base.slot b o e n hb hx
      exact ⟨sl, (hs.2 b (Nat.ne_of_lt (Nat.lt_of_lt_of_le (Heap.lt_size e) (I.ok.cab x c hfn hc)))).trans e1⟩
    · obtain ⟨o', e1⟩ := I.base.there b o e hx
      exact ⟨o', (hs.2 b (Nat.ne_of_lt (Nat.lt_of_lt_of_le (Heap.lt_size e) (I.ok.cab x c hfn hc)))).trans e1⟩
    · by_cases hj : j = i
      · subst hj
        rw [hi] at e1; cases e1
        rw [List.getElem?_set_self hiσ] at e2
        cases e2
        exact ⟨u, r, .inr ⟨.inl hk, c, hc, hc'⟩⟩
      · rw [List.getElem?_set_ne (Ne.symm hj)] at e2
        obtain ⟨u', r', q⟩ := hl j y v' e1 e2 e3
        refine ⟨u', r', ?_⟩
        rcases q with q | ⟨k, c', e, z'⟩
        · exact .inl q
        · refine .inr ⟨k, c', e, z'.sameBut hs ?_⟩
          rintro rfl
          exact hj (nodup_ix hN e1 (I.ok.inj _ _ _ e hc ▸ hi))
    · by_cases hcc : c' = c
      · subst hcc; exact ⟨_, hc'⟩
      · obtain ⟨w2, z2⟩ := I.cell y c' e
        exact ⟨w2, z2.sameBut hs hcc⟩
    · obtain ⟨e, n, ne, nf, d⟩ := I.pin p hp
      refine ⟨(hs.2 p.1 ?_).trans e, n, ne, nf, d⟩
      intro q
      rw [q, hoc] at e
      have q' : oc = p.2 := Option.some.inj e
      exact d w' (by rw [← q']; exact hocd)
theorem store_ok {M : Model} {A : Around} {E : Value → Shared → Prop} {i : Nat} {x : Str} {v : V} {u : Value} {Q : Unit → Shared → Prop} (I : Inv X pins σ H s) (hN : X.N.Nodup) (hi : X.N[i]? = some x) (hx : Loc X.env.scope x) (r : RelV v u)
    (h : ∀ s', Inv X pins (σ.set i (some v)) H s' → Q () s') (hf : X.fn x = true ∨ X.env.scope.names.lookup x = some .local := by first | exact .inl rfl | exact .inr rfl | assumption) : wpAny M A (storeName X.env x u) Q E s :=
  store_ok2 I hN hi hx r (fun s' I' _ => h s' I') hf
theorem Inv.call' {s' : Shared} {ch : List Addr} (I : Inv X pins σ H s) (ho : s'.os = s.os) (u : Un (frs X.stack) ch H H' s.heap s'.heap) (hok : HOk X.prog X.w H' s'.heap) (hg : AllBare s'.gens)
    (hch : ∀ b ∈ ch, (b ∈ X.ex ∨ X.s_0.heap.objs.size ≤ b) ∧ b ≠ X.env.locals ∧ (∀ x c, X.env.cells.lookup x = some c → c ≠ b) ∧ ∀ p ∈ X.pn ++ pins, p.1 ≠ b) : Inv X pins σ H' s' := by
  obtain ⟨h', g', d', t', o'⟩ := s'
  have e : o' = s.os := ho
  subst e
  exact I.call (g' := g') (t' := t') (d' := d') u hok hg hch
end
abbrev XK := Value → Option Addr → Hp → Prop
abbrev St := List (Option V)
abbrev VK := V → Hp → Prop
abbrev TE := St → Hp → VK → Prop
abbrev TT := St → Hp → (Bool → Hp → Prop) → Prop
abbrev TA := St → Hp → (List V → Hp → Prop) → Prop
structure Ends where
  nx : St → Hp → Prop
  rt : VK
  bk : St → Hp → Prop := fun _ _ => False
  ct : St → Hp → Prop := fun _ _ => False
abbrev TS := Ends → St → Hp → Prop
def EP (X : Cx) (pins : List (Addr × Obj)) (σ : St) (Q : VK) (u : Value) (s' : Shared) : Prop := ∃ v H', Inv X pins σ H' s' ∧ RelV v u ∧ Q v H'
def TP (X : Cx) (pins : List (Addr × Obj)) (σ : St) (Q : Bool → Hp → Prop) (b : Bool) (s' : Shared) : Prop := ∃ H', Inv X pins σ H' s' ∧ Q b H'
def AP (X : Cx) (pins : List (Addr × Obj)) (σ : St) (Q : List V → Hp → Prop) (us : List Value) (s' : Shared) : Prop := ∃ vs H', Inv X pins σ H' s' ∧ Vals vs us ∧ Q vs H'
def SP (X : Cx) (pins : List (Addr × Obj)) (D : Ends) (f : Flow) (s' : Shared) : Prop :=
  match f with
  | .next => ∃ σ' H', Inv X pins σ' H' s' ∧ D.nx σ' H'
  | .brk => ∃ σ' H', Inv X pins σ' H' s' ∧ D.bk σ' H'
  | .cont => ∃ σ' H', Inv X pins σ' H' s' ∧ D.ct σ' H'
  | .ret u => ∃ v σ' H', Inv X pins σ' H' s' ∧ RelV v u ∧ D.rt v H'
def PE (X : Cx) (e : Expr) (t : TE) : Prop :=
  ∀ (pins : List (Addr × Obj)) (s : Shared) (σ : St) (H : Hp) (Q : VK), Inv X pins σ H s → t σ H Q → wpAny (model X.prog X.w) X.A (eval e X.env) (EP X pins σ Q) X.xe s
def PT (X : Cx) (e : Expr) (t : TT) : Prop :=
  ∀ (pins : List (Addr × Obj)) (s : Shared) (σ : St) (H : Hp) (Q : Bool → Hp → Prop), Inv X pins σ H s → t σ H Q → wpAny (model X.prog X.w) X.A (isTrue e X.env (eval e X.env)) (TP X pins σ Q) X.xe s
def PW (X : Cx) (e : Expr) (t : TT) : Prop :=
  ∀ (whole : Sem Value) (pins : List (Addr × Obj)) (s : Shared) (σ : St) (H : Hp) (Q : Bool → Hp → Prop), Inv X pins σ H s → t σ H Q → wpAny (model X.prog X.w) X.A (isTrue e X.env whole) (TP X pins σ Q) X.xe s
theorem PW.pt {X : Cx} {e : Expr} {t : TT} (h : PW X e t) : PT X e t := h _
def PA (X : Cx) (es : List Expr) (t : TA) : Prop :=
  ∀ (pos : Pos) (pins : List (Addr × Obj)) (s : Shared) (σ : St) (H : Hp) (Q : List V → Hp → Prop), Inv X pins σ H s → t σ H Q → wpAny (model X.prog X.w) X.A (spliced (backTo pos (starEach es X.env))) (AP X pins σ Q) X.xe s
def PS (X : Cx) (st : Stmt) (t : TS) : Prop :=
  ∀ (pins : List (Addr × Obj)) (s : Shared) (σ : St) (H : Hp) (D : Ends), Inv X pins σ H s → t D σ H → wpAny (model X.prog X.w) X.A (exec st X.env) (SP X pins D) X.xe s
def PSs (X : Cx) (st : List Stmt) (t : TS) : Prop :=
  ∀ (pins : List (Addr × Obj)) (s : Shared) (σ : St) (H : Hp) (D : Ends), Inv X pins σ H s → t D σ H → wpAny (model X.prog X.w) X.A (execs st X.env) (SP X pins D) X.xe s
theorem thn {α : Type} {t : Sem α} {Q Q' : α → Shared → Prop} {M : Model} {A : Around} {E : Value → Shared → Prop} {s : Shared} (h : wpAny M A t Q E s) (hQ : ∀ a s, Q a s → Q' a s) : wpAny M A t Q' E s := wpAny_mono h hQ fun _ _ x => x
end L2
namespace L2
open PySem PySem.Spec PyProof.Rows
section
variable {X : Cx}
theorem bin {a b : Expr} {ta tb : TE} (ha : PE X a ta) (hb : PE X b tb) {pins : List (Addr × Obj)} {s : Shared} {σ : St} {H : Hp} {R : V → V → Hp → Prop} (I : Inv X pins σ H s) (h : ta σ H fun x H1 => tb σ H1 fun y H2 => R x y H2)
    {α : Type} {Q : α → Shared → Prop} {f : Value → Value → Sem α}
    (hf : ∀ v u s2 x y H2, Inv X pins σ H2 s2 → RelV x v → RelV y u → R x y H2 → wpAny (model X.prog X.w) X.A (f v u) Q X.xe s2) :
    wpAny (model X.prog X.w) X.A (eval a X.env) (fun v s₁ => wpAny (model X.prog X.w) X.A (eval b X.env) (fun u s₂ => wpAny (model X.prog X.w) X.A (f v u) Q X.xe s₂) X.xe s₁) X.xe s := by
  refine thn (ha pins s σ H _ I h) fun v s1 ⟨x, H1, I1, r1, q1⟩ => ?_
  refine thn (hb pins s1 σ H1 _ I1 q1) fun u s2 ⟨y, H2, I2, r2, q2⟩ => ?_
  exact hf v u s2 x y H2 I2 r1 r2 q2
def tVar (i : Nat) : TE := fun σ H Q => ∃ v, σ[i]? = some (some v) ∧ Q v H
def tC (v : V) : TE := fun _ H Q => Q v H
theorem pe_var {i : Nat} {x : Str} {pos : Pos} (hN : X.N[i]? = some x) (hv : Vis X.env.scope x) (hd : (x == ("__debug__" : Str)) = false := by decide) (hcd : (x == ("__classdict__" : Str)) = false := by decide) : PE X (.Name x pos) (tVar i) := by
  intro pins s σ H Q I h
  obtain ⟨v, e, h⟩ := h
  obtain ⟨m, hn, hl⟩ := I.loc
  obtain ⟨u, r, l⟩ := hl i x v hN e hv
  have fin : EP X pins σ Q u s := ⟨v, H, I, r, h⟩
  rcases l with ⟨hk, hm⟩ | ⟨hk, c, hc, hcell⟩
  · exact wpAny_Name (wpAny_loadName_local I.ok.kind hk hn hm fin) hd
  · rcases hk with hk | hk
    · exact wpAny_Name (wpAny_loadName_cell I.ok.kind hk hc hcell fin) hd
    · exact wpAny_Name (wpAny_loadName_free I.ok.kind hk hc hcell fin hcd) hd
theorem pe_int {i j pos} : PE X (.Constant (.int i) j pos) (tC (.int i)) := fun _ _ _ H _ I h => wpAny_Constant_int ⟨.int i, H, I.tok _, ⟨_, rfl⟩, h⟩
theorem pe_bl {b j pos} : PE X (.Constant (.bool b) j pos) (tC (.bl b)) := fun _ _ _ H _ I h => Constant_bool ⟨.bl b, H, I, rfl, h⟩
theorem pe_non {j pos} : PE X (.Constant .none j pos) (tC .non) := fun _ _ _ H _ I h => Constant_none ⟨.non, H, I, rfl, h⟩
def Gl (X : Cx) (x : Str) : Prop := X.env.kindOf x = some .globalImplicit
theorem ld_glob {E : Value → Shared → Prop} {pins : List (Addr × Obj)} {s : Shared} {σ : St} {H : Hp} {x : Str} {u : Value} {pos : Pos} {Q : Value → Shared → Prop} (I : Inv X pins σ H s) (hg : Gl X x) (hm : X.mg x = some u) (h : Q u s)
    (hd : (x == ("__debug__" : Str)) = false := by decide) : wpAny (model X.prog X.w) X.A (eval (.Name x pos) X.env) Q E s :=
  Calls.Name_function_global I.ok.kind hg (Calls.loadGlobal_global (by rw [I.ok.glob]; exact I.mod.glob.keeps I.bk) hm h) hd
theorem ld_blt {E : Value → Shared → Prop} {pins : List (Addr × Obj)} {s : Shared} {σ : St} {H : Hp} {x : Str} {u : Value} {pos : Pos} {Q : Value → Shared → Prop} (I : Inv X pins σ H s) (hg : Gl X x) (hm : X.mg x = none) (hv : bootBuiltins x = some u) (h : Q u s)
    (hn : x ≠ "__name__" := by decide) (hd : (x == ("__debug__" : Str)) = false := by decide) : wpAny (model X.prog X.w) X.A (eval (.Name x pos) X.env) Q E s := by
  obtain ⟨mb, h1, h2⟩ := I.mod.blt
  exact Calls.Name_function_global I.ok.kind hg (Calls.loadGlobal_builtin (by rw [I.ok.glob]; exact I.mod.glob.keeps I.bk) hm (by rw [I.ok.blt]; exact h1.keeps I.bk) ((h2 x hn).trans hv) h) hd
theorem pe_glob {x : Str} {v : V} {u : Value} {pos : Pos} (hg : Gl X x) (hm : X.mg x = some u) (r : RelV v u) (hd : (x == ("__debug__" : Str)) = false := by decide) : PE X (.Name x pos) (tC v) :=
  fun _ _ _ H _ I h => ld_glob I hg hm ⟨v, H, I, r, h⟩ hd
def t2I (ta tb : TE) (k : Int → Int → Hp → Prop) : St → Hp → Prop := fun σ H => ta σ H fun x H1 => tb σ H1 fun y H2 => ∃ i j, x = .int i ∧ y = .int j ∧ k i j H2
variable {a b : Expr} {ta tb : TE} {pos : Pos}
def PC (X : Cx) (op : CmpOp) (a b : Expr) (t : TE) : Prop :=
  ∀ (pins : List (Addr × Obj)) (s : Shared) (σ : St) (H : Hp) (Q : VK), Inv X pins σ H s → t σ H Q →
    wpAny (model X.prog X.w) X.A (eval a X.env) (fun v s₁ => wpAny (model X.prog X.w) X.A (eval b X.env) (fun u s₂ => wpAny (model X.prog X.w) X.A (compareOp op v u) (EP X pins σ Q) X.xe s₂) X.xe s₁) X.xe s
theorem nobehind (b : Expr) {op : CmpOp} (h : op ≠ .In) (h2 : op ≠ .NotIn) : behindInMarks op b = false := by
  have e1 : (op == CmpOp.In) = false := by cases op <;> first | rfl | exact absurd rfl h
  have e2 : (op == CmpOp.NotIn) = false := by cases op <;> first | rfl | exact absurd rfl h2
  cases b <;> simp [behindInMarks, e1, e2]
def tCmp (p : Int → Int → Bool) (ta tb : TE) : TE := fun σ H Q => t2I ta tb (fun i j H2 => Q (.bl (p i j)) H2) σ H
abbrev tLt : TE → TE → TE := tCmp fun i j => decide (i < j)
abbrev tLe : TE → TE → TE := tCmp fun i j => decide (i ≤ j)
abbrev tGe : TE → TE → TE := tCmp fun i j => decide (j ≤ i)
abbrev tEqI : TE → TE → TE := tCmp fun i j => decide (i = j)
abbrev tNeI : TE → TE → TE := tCmp fun i j => !decide (i = j)
theorem pc_int {op : CmpOp} {p : Int → Int → Bool} (ha : PE X a ta) (hb : PE X b tb)
    (rule : ∀ (i j : Int) (t u : Tok) (Q : Value → Shared → Prop) (s : Shared), Q (.bool (p i j)) s → wpAny (model X.prog X.w) X.A (compareOp op (.int i t) (.int j u)) Q X.xe s) : PC X op a b (tCmp p ta tb) := by
  intro pins s σ H Q I h
  refine bin ha hb I h fun v u s2 x y H2 I2 rx ry q => ?_
  obtain ⟨i, j, rfl, rfl, q⟩ := q
  obtain ⟨t, rfl⟩ := rx
  obtain ⟨t', rfl⟩ := ry
  exact rule i j t t' _ s2 ⟨.bl _, H2, I2, rfl, q⟩
theorem pc_lt (ha : PE X a ta) (hb : PE X b tb) : PC X .Lt a b (tLt ta tb) := pc_int ha hb fun _ _ _ _ _ _ h => lt_int h
theorem pc_le (ha : PE X a ta) (hb : PE X b tb) : PC X .LtE a b (tLe ta tb) := pc_int ha hb fun _ _ _ _ _ _ h => le_int h
theorem pc_ge (ha : PE X a ta) (hb : PE X b tb) : PC X .GtE a b (tGe ta tb) := pc_int ha hb fun _ _ _ _ _ _ h => ge_int h
theorem pc_eqI (ha : PE X a ta) (hb : PE X b tb) : PC X .Eq a b (tEqI ta tb) := pc_int ha hb fun _ _ _ _ _ _ h => eq_int (by rw [Bool.beq_eq_decide_eq]; exact h)
theorem pc_neI (ha : PE X a ta) (hb : PE X b tb) : PC X .NotEq a b (tNeI ta tb) := pc_int ha hb fun _ _ _ _ _ _ h => ne_int (by rw [bne, Bool.beq_eq_decide_eq]; exact h)
def tIsN (ta : TE) : TE := fun σ H Q => ta σ H fun x H1 => Q (.bl (decide (x = .non))) H1
theorem RelV.none_iff {x : V} {v : Value} (r : RelV x v) : (v == Value.none) = decide (x = .non) := by
  cases x with
  | non => cases r; rfl
  | bl _ => cases r; rfl
  | int _ => obtain ⟨t, rfl⟩ := r; rfl
  | str _ => obtain ⟨t, rfl⟩ := r; rfl
  | byt _ => obtain ⟨t, rfl⟩ := r; rfl
  | flt _ => obtain ⟨t, rfl⟩ := r; rfl
  | ref _ => cases r; rfl
  | ty _ => cases r; rfl
theorem pc_isN {j pos'} (ha : PE X a ta) : PC X .Is a (.Constant .none j pos') (tIsN ta) := by
  intro pins s σ H Q I h
  refine thn (ha pins s σ H _ I h) fun v s1 ⟨x, H1, I1, r1, q1⟩ => ?_
  exact Constant_none (is_none_gen ⟨.bl _, H1, I1, by rw [r1.none_iff]; rfl, q1⟩)
def tB (t : TE) : TT := fun σ H Q => t σ H fun x H1 => ∃ c, x = .bl c ∧ Q c H1
theorem pe_cmp {op : CmpOp} {t : TE} (h : PC X op a b t) (h1 : behindInMarks op b = false := by first | exact nobehind _ (by decide) (by decide) | rfl) : PE X (.Compare a [op] [b] pos) t := fun pins s σ H Q I hw => wpAny_Compare1 (h pins s σ H Q I hw) h1
theorem pt_cmp {op : CmpOp} {t : TE} (h : PC X op a b t) (h1 : behindInMarks op b = false := by first | exact nobehind _ (by decide) (by decide) | rfl) : PT X (.Compare a [op] [b] pos) (tB t) := by
  intro pins s σ H Q I hw
  refine wpAny_isTrue_Compare1 (thn (h pins s σ H _ I hw) fun v s1 h1 => thn h1 fun u s2 h2 => thn h2 fun c s3 ⟨x, H1, I1, r1, q1⟩ => ?_) h1
  obtain ⟨d, rfl, q⟩ := q1
  cases r1
  exact wpAny_truthy_bool ⟨H1, I1, q⟩
variable {tA tB' : TT} {rest : List Expr}
def tAnd (t u : TT) : TT := fun σ H Q => t σ H fun c H1 => if c = true then u σ H1 Q else Q false H1
def tOr (t u : TT) : TT := fun σ H Q => t σ H fun c H1 => if c = true then Q true H1 else u σ H1 Q
def tNot (t : TT) : TT := fun σ H Q => t σ H fun c H1 => Q (!c) H1
theorem pw_and1 (ha : PT X a tA) : PW X (.BoolOp .And [a] pos) tA := by
  intro wh pins s σ H Q I h
  refine isTrue_and (thn (ha pins s σ H Q I h) fun c s1 e => ?_)
  cases c with
  | true => exact isTrue_and_nil e
  | false => exact e
theorem pw_or1 (ha : PT X a tA) : PW X (.BoolOp .Or [a] pos) tA := by
  intro wh pins s σ H Q I h
  refine isTrue_or (thn (ha pins s σ H Q I h) fun c s1 e => ?_)
  cases c with
  | false => exact isTrue_or_nil e
  | true => exact e
theorem pw_and (ha : PT X a tA) (hb : PW X (.BoolOp .And (b :: rest) pos) tB') : PW X (.BoolOp .And (a :: b :: rest) pos) (tAnd tA tB') := by
  intro wh pins s σ H Q I h
  refine isTrue_and (thn (ha pins s σ H _ I h) fun c s1 ⟨H1, I1, q1⟩ => ?_)
  cases c with
  | true => exact hb wh pins s1 σ H1 Q I1 q1
  | false => exact ⟨H1, I1, q1⟩
theorem pw_or (ha : PT X a tA) (hb : PW X (.BoolOp .Or (b :: rest) pos) tB') : PW X (.BoolOp .Or (a :: b :: rest) pos) (tOr tA tB') := by
  intro wh pins s σ H Q I h
  refine isTrue_or (thn (ha pins s σ H _ I h) fun c s1 ⟨H1, I1, q1⟩ => ?_)
  cases c with
  | true => exact ⟨H1, I1, q1⟩
  | false => exact hb wh pins s1 σ H1 Q I1 q1
theorem pt_not (ha : PT X a tA) : PT X (.UnaryOp .Not a pos) (tNot tA) := by
  intro pins s σ H Q I h
  exact isTrue_not (ha pins s σ H (fun c H1 => Q (!c) H1) I h)
def tAndV (ta tb : TE) : TE := fun σ H Q => ta σ H fun x H1 => ∃ c, x = .bl c ∧ if c = true then tb σ H1 Q else Q (.bl false) H1
def tOrV (ta tb : TE) : TE := fun σ H Q => ta σ H fun x H1 => ∃ c, x = .bl c ∧ if c = true then Q (.bl true) H1 else tb σ H1 Q
theorem pe_one {op} {t : TE} (h : PE X a t) : PE X (.BoolOp op [a] pos) t := fun pins s σ H Q I hw => BoolOp_one (h pins s σ H Q I hw)
theorem pe_and (ha : PE X a ta) (hb : PE X (.BoolOp .And (b :: rest) pos) tb) : PE X (.BoolOp .And (a :: b :: rest) pos) (tAndV ta tb) := by
  intro pins s σ H Q I h
  refine BoolOp_and (thn (ha pins s σ H _ I h) fun v s1 ⟨x, H1, I1, r1, q1⟩ => ?_)
  obtain ⟨c, rfl, q1⟩ := q1
  cases r1
  refine wpAny_truthy_bool ?_
  cases c with
  | true => exact hb pins s1 σ H1 Q I1 q1
  | false => exact ⟨.bl false, H1, I1, rfl, q1⟩
theorem pe_or (ha : PE X a ta) (hb : PE X (.BoolOp .Or (b :: rest) pos) tb) : PE X (.BoolOp .Or (a :: b :: rest) pos) (tOrV ta tb) := by
  intro pins s σ H Q I h
  refine BoolOp_or (thn (ha pins s σ H _ I h) fun v s1 ⟨x, H1, I1, r1, q1⟩ => ?_)
  obtain ⟨c, rfl, q1⟩ := q1
  cases r1
  refine wpAny_truthy_bool ?_
  cases c with
  | false => exact hb pins s1 σ H1 Q I1 q1
  | true => exact ⟨.bl true, H1, I1, rfl, q1⟩
def tIf (t : TT) (ta tb : TE) : TE := fun σ H Q => t σ H fun c H1 => if c = true then ta σ H1 Q else tb σ H1 Q
theorem pe_ifExp {c : Expr} (hc : PT X c tA) (ha : PE X a ta) (hb : PE X b tb) : PE X (.IfExp c a b pos) (tIf tA ta tb) := by
  intro pins s σ H Q I h
  refine wpAny_IfExp (thn (hc pins s σ H _ I h) fun d s1 ⟨H1, I1, q1⟩ => ?_)
  cases d with
  | true => exact ha pins s1 σ H1 Q I1 q1
  | false => exact hb pins s1 σ H1 Q I1 q1
end
end L2
namespace L2
open PySem PySem.Spec PyProof.Rows
def SqL (K : PySem.W.Frag) (H : Hp) (a : Addr) (xs : List V) : Prop :=
  Rd H a (.lst xs) ∨
    ∃ (o : Obj) (its : Array Value) (n : Nat), K.lookup a = some o ∧ o.cls = .type "list" ∧ o.dict = none ∧ o.data = .seq its n ∧ its.size ≤ sizeLine ∧ Vals xs its.toList
def SqT (K : PySem.W.Frag) (H : Hp) (a : Addr) (xs : List V) : Prop :=
  Rd H a (.tup xs) ∨
    ∃ (o : Obj) (its : Array Value) (n : Nat), K.lookup a = some o ∧ o.cls = .type "tuple" ∧ o.data = .seq its n ∧ its.size ≤ sizeLine ∧ Vals xs its.toList
def absV : Value → Option V
  | .none => some .non
  | .bool b => some (.bl b)
  | .int i _ => some (.int i)
  | .str x _ => some (.str x)
  | .bytes b _ => some (.byt b)
  | .float b _ => some (.flt b)
  | .ref a => some (.ref a)
  | .type n => some (.ty n)
  | _ => none
theorem RelV.abs {x : V} {u : Value} (r : RelV x u) : absV u = some x := by
  cases x with
  | non => cases r; rfl
  | bl _ => cases r; rfl
  | int _ => obtain ⟨t, rfl⟩ := r; rfl
  | str _ => obtain ⟨t, rfl⟩ := r; rfl
  | byt _ => obtain ⟨t, rfl⟩ := r; rfl
  | flt _ => obtain ⟨t, rfl⟩ := r; rfl
  | ref _ => cases r; rfl
  | ty _ => cases r; rfl
theorem RelV.inj {x y : V} {u : Value} (r : RelV x u) (q : RelV y u) : x = y := Option.some.inj (r.abs.symm.trans q.abs)
theorem Vals.inj : ∀ {xs ys : List V} {us : List Value}, Vals xs us → Vals ys us → xs = ys
  | _, _, _, .nil, .nil => rfl
  | _, _, _, .cons r t, .cons r' t' => by rw [r.inj r', Vals.inj t t']
section
variable {X : Cx} {pins : List (Addr × Obj)} {σ : St} {H : Hp} {s : Shared} {a : Addr} {xs ys : List V}
theorem SqL.of {K : PySem.W.Frag} (h : H a = some (.lst xs)) : SqL K H a xs := .inl (.inl h)
theorem SqT.of {K : PySem.W.Frag} (h : H a = some (.tup xs)) : SqT K H a xs := .inl (.inl h)
theorem Inv.list (I : Inv X pins σ H s) (h : SqL X.K H a xs) : ∃ its : List Value, Vals xs its ∧ PlainL s.heap a its.toArray ∧ xs.length ≤ sizeLine := by
  rcases h with h | ⟨o, its, n, hk, hc, hd, hs, hz, r⟩
  · obtain ⟨z, its, n, r, e⟩ := h.ok I.hok
    exact ⟨its, r, ⟨_, n, e, rfl, rfl, rfl⟩, z⟩
  · refine ⟨its.toList, r, ⟨o, n, I.kIn a o hk, hc, hd, by simpa using hs⟩, ?_⟩
    have e := r.length
    simp only [Array.length_toList] at e
    omega
theorem Inv.tuple (I : Inv X pins σ H s) (h : SqT X.K H a xs) : ∃ its : List Value, Vals xs its ∧ IsTup s.heap a its.toArray ∧ xs.length ≤ sizeLine := by
  rcases h with h | ⟨o, its, n, hk, hc, hs, hz, r⟩
  · obtain ⟨z, its, r, p⟩ := h.ok I.hok
    exact ⟨its, r, p, z⟩
  · refine ⟨its.toList, r, ⟨o, I.kIn a o hk, hc, n, by simpa using hs⟩, ?_⟩
    have e := r.length
    simp only [Array.length_toList] at e
    omega
theorem Inv.list_inj (I : Inv X pins σ H s) (h : SqL X.K H a xs) (h' : SqL X.K H a ys) : xs = ys := by
  obtain ⟨its, r, ⟨o, n, e, _, _, d⟩, _⟩ := I.list h
  obtain ⟨its', r', ⟨o', n', e', _, _, d'⟩, _⟩ := I.list h'
  rw [e] at e'; cases e'
  rw [d] at d'
  injection d' with d1 _
  have : its = its' := by simpa using congrArg Array.toList d1
  subst this
  exact r.inj r'
end
abbrev Cx.wish (X : Cx) (E : Value → Shared → Prop) : Cx := { X with xe := E }
abbrev Cx.nox (X : Cx) : Cx := X.wish fun _ _ => False
theorem Cx.Ok.wish {X : Cx} (ok : X.Ok) (E : Value → Shared → Prop) : (X.wish E).Ok :=
  ⟨ok.mod, ok.kind, ok.glob, ok.blt, ok.above, ok.inj, ok.has, ok.cab, ok.hd, ok.frames, ok.stk, ok.exf, ok.bs, ok.bsz, ok.noex, ok.exfs, ok.funs, ok.frf⟩
theorem Cx.Ok.unwish {X : Cx} {E : Value → Shared → Prop} (ok : (X.wish E).Ok) : X.Ok :=
  ⟨ok.mod, ok.kind, ok.glob, ok.blt, ok.above, ok.inj, ok.has, ok.cab, ok.hd, ok.frames, ok.stk, ok.exf, ok.bs, ok.bsz, ok.noex, ok.exfs, ok.funs, ok.frf⟩
section
variable {X : Cx} {pins : List (Addr × Obj)} {σ : St} {H : Hp} {s : Shared} {E : Value → Shared → Prop}
theorem Inv.wish (I : Inv X pins σ H s) (E : Value → Shared → Prop) : Inv (X.wish E) pins σ H s := ⟨I.ok.wish E, I.os, I.bare, I.base, I.loc, I.cell, I.free, I.freeC, I.pin, I.hok, I.len⟩
theorem Inv.unwish (I : Inv (X.wish E) pins σ H s) : Inv X pins σ H s := ⟨I.ok.unwish, I.os, I.bare, I.base, I.loc, I.cell, I.free, I.freeC, I.pin, I.hok, I.len⟩
theorem SP.unwish {D : Ends} {f : Flow} {s' : Shared} (h : SP (X.wish E) pins D f s') : SP X pins D f s' := by
  cases f with
  | next => obtain ⟨σ', H', I, q⟩ := h; exact ⟨σ', H', I.unwish, q⟩
  | brk => obtain ⟨σ', H', I, q⟩ := h; exact ⟨σ', H', I.unwish, q⟩
  | cont => obtain ⟨σ', H', I, q⟩ := h; exact ⟨σ', H', I.unwish, q⟩
  | ret u => obtain ⟨v, σ', H', I, r, q⟩ := h; exact ⟨v, σ', H', I.unwish, r, q⟩
theorem PSs.nox {st : List Stmt} {t : TS} (h : PSs X.nox st t) : PSs X st t := fun pins s σ H D I hw =>
  wpAny_mono (h pins s σ H D (I.wish _) hw) (fun _ _ q => q.unwish) fun _ _ z => False.elim z
end
section
variable {X : Cx} {st : Stmt} {rest : List Stmt} {t u : TS} {e : Expr} {te : TE} {pos : Pos}
def tNext : TS := fun D σ H => D.nx σ H
def tSeq (t u : TS) : TS := fun D σ H => t { D with nx := u D } σ H
theorem pss_nil : PSs X [] tNext := fun _ _ σ H _ I h => wpAny_execs_nil ⟨σ, H, I, h⟩
theorem pss_cons (h1 : PS X st t) (h2 : PSs X rest u) : PSs X (st :: rest) (tSeq t u) := by
  intro pins s σ H D I h
  refine wpAny_execs_cons (thn (h1 pins s σ H { D with nx := u D } I h) fun f s1 q => ?_)
  cases f with
  | next =>
    obtain ⟨σ', H', I', q⟩ := q
    exact h2 pins s1 σ' H' D I' q
  | ret v => exact q
  | brk => exact q
  | cont => exact q
theorem pss_one (h1 : PS X st t) : PSs X [st] t := by
  intro pins s σ H D I h
  refine wpAny_execs_cons (thn (h1 pins s σ H D I h) fun f s1 q => ?_)
  cases f with
  | next => exact wpAny_execs_nil q
  | ret v => exact q
  | brk => exact q
  | cont => exact q
theorem Inv.quiet {pins : List (Addr × Obj)} {σ : St} {H : Hp} {s : Shared} (I : Inv X pins σ H s) : interactive X.env = false := by simp [interactive, I.ok.kind]
def tDrop (te : TE) : TS := fun D σ H => te σ H fun _ H1 => D.nx σ H1
theorem ps_expr (he : PE X e te) (hs : swapsWith e none pos.line X.env = pure false := by rfl) : PS X (.Expr e pos) (tDrop te) := by
  intro pins s σ H D I h
  exact wpAny_Expr_any (thn (he pins s σ H _ I h) fun v s1 ⟨x, H1, I1, r1, q1⟩ => ⟨σ, H1, I1, q1⟩) I.quiet hs
def tRet (te : TE) : TS := fun D σ H => te σ H D.rt
theorem ps_ret (he : PE X e te) : PS X (.Return (some e) pos) (tRet te) := by
  intro pins s σ H D I h
  exact wpAny_Return_some (thn (he pins s σ H _ I h) fun v s1 ⟨x, H1, I1, r1, q1⟩ => ⟨x, σ, H1, I1, r1, q1⟩)
def tRetN : TS := fun D _ H => D.rt .non H
theorem ps_retN : PS X (.Return none pos) tRetN := fun _ _ σ H _ I h => wpAny_Return_none ⟨.non, σ, H, I, rfl, h⟩
def tIfS (c : TT) (t u : TS) : TS := fun D σ H => c σ H fun b H1 => if b = true then t D σ H1 else u D σ H1
theorem ps_if {c : Expr} {a b : List Stmt} {tc : TT} (hc : PT X c tc) (ha : PSs X a t) (hb : PSs X b u) : PS X (.If c a b pos) (tIfS tc t u) := by
  intro pins s σ H D I h
  refine wpAny_If (thn (hc pins s σ H _ I h) fun d s1 ⟨H1, I1, q1⟩ => ?_)
  cases d with
  | true => exact ha pins s1 σ H1 D I1 q1
  | false => exact hb pins s1 σ H1 D I1 q1
def tNever : TS := fun _ _ _ => False
theorem ps_never : PS X st tNever := fun _ _ _ _ _ _ h => h.elim
end
abbrev TG := V → St → Hp → (St → Hp → Prop) → Prop
def PG (X : Cx) (target : Expr) (t : TG) : Prop :=
  ∀ (pins : List (Addr × Obj)) (s : Shared) (σ : St) (H : Hp) (v : V) (u : Value) (Q : St → Hp → Prop), Inv X pins σ H s → RelV v u → t v σ H Q →
    wpAny (model X.prog X.w) X.A (assign target X.env u) (fun _ s' => ∃ σ' H', Inv X pins σ' H' s' ∧ Q σ' H') X.xe s
section
variable {X : Cx} {pos : Pos}
def gName (i : Nat) : TG := fun v σ H Q => Q (σ.set i (some v)) H
theorem pg_name {i : Nat} {x : Str} (hN : X.N.Nodup) (hi : X.N[i]? = some x) (hx : Loc X.env.scope x) (hf : X.fn x = true ∨ X.env.scope.names.lookup x = some .local := by first | exact .inl rfl | exact .inr rfl | assumption) : PG X (.Name x pos) (gName i) := by
  intro pins s σ H v u Q I r h
  exact wpAny_assign_Name (store_ok I hN hi hx r (fun s' I' => ⟨_, H, I', h⟩) hf)
def tAsg (te : TE) (g : TG) : TS := fun D σ H => te σ H fun x H1 => g x σ H1 D.nx
theorem ps_set {i : Nat} {x : Str} {e : Expr} {te : TE} {pos' : Pos} (hN : X.N.Nodup) (hi : X.N[i]? = some x) (hx : Loc X.env.scope x) (he : PE X e te) (hs : swapsWith e (some (.Name x pos')) pos.line X.env = pure false := by rfl) (hf : X.fn x = true ∨ X.env.scope.names.lookup x = some .local := by first | exact .inl rfl | exact .inr rfl | assumption) :
    PS X (.Assign [.Name x pos'] e pos) (tAsg te (gName i)) := by
  intro pins s σ H D I h
  refine wpAny_Assign_Name (thn (he pins s σ H _ I h) fun v s1 ⟨y, H1, I1, r1, q1⟩ => ?_) hs
  exact store_ok I1 hN hi hx r1 (fun s2 I2 => ⟨_, H1, I2, q1⟩) hf
end
section
variable {X : Cx} {pos : Pos}
def tWhile (c : TT) (tb : TS) : TS := fun D σ H => ∃ W : Nat → St → Hp → Prop, (∃ m, W m σ H) ∧ ∀ m σ H, W m σ H →
  c σ H fun b H1 => if b = true then ∃ N : St → Hp → Prop, (∀ σ' H', N σ' H' → ∃ m', m' < m ∧ W m' σ' H') ∧ tb { D with nx := N, ct := N, bk := D.nx } σ H1 else D.nx σ H1
theorem ps_while {c : Expr} {body : List Stmt} {tc : TT} {tb : TS} (hp : PassesOwn (model X.prog X.w) X.A X.env X.xe) (hc : PT X c tc) (hb : PSs X body tb) : PS X (.While c body [] pos) (tWhile tc tb) := by
  intro pins s σ H D I h
  obtain ⟨W, ⟨m0, w0⟩, turn⟩ := h
  refine wpAny_While (codeAny_whileLoop (fun n s' => ∃ σ' H', Inv X pins σ' H' s' ∧ W n σ' H') ?_ m0 ⟨σ, H, I, w0⟩)
  rintro n s1 ⟨σ1, H1, I1, w1⟩
  refine wpAny_passesOwn hp (thn (hc pins s1 σ1 H1 _ I1 (turn n σ1 H1 w1)) fun b s2 ⟨H2, I2, q2⟩ => ?_)
  cases b with
  | true =>
    obtain ⟨N, hN, q2⟩ := q2
    rw [if_pos rfl]
    refine wpAny_passesOwn hp (thn (hb pins s2 σ1 H2 _ I2 q2) fun f s3 q3 => ?_)
    cases f with
    | next =>
      obtain ⟨σ3, H3, I3, n3⟩ := q3
      obtain ⟨m', hm, w3⟩ := hN σ3 H3 n3
      exact ⟨m', hm, σ3, H3, I3, w3⟩
    | cont =>
      obtain ⟨σ3, H3, I3, n3⟩ := q3
      obtain ⟨m', hm, w3⟩ := hN σ3 H3 n3
      exact ⟨m', hm, σ3, H3, I3, w3⟩
    | brk => exact q3
    | ret v => exact q3
  | false =>
    rw [if_neg Bool.false_ne_true]
    exact wpAny_execs_nil ⟨σ1, H2, I2, q2⟩
end
structure It where
  go : Nat → Hp → Prop
  yld : Nat → Hp → V → Hp → Prop
  stop : Nat → Hp → Prop
def FpOk (X : Cx) (pins : List (Addr × Obj)) (H : Hp) (b : Addr) : Prop :=
  H b = none ∧ b ≠ X.env.locals ∧ b ∉ X.fs ∧ (b ∈ X.ex ∨ X.s_0.heap.objs.size ≤ b) ∧ (∀ x c, X.env.cells.lookup x = some c → c ≠ b) ∧ ∀ p ∈ X.pn ++ pins, p.1 ≠ b
theorem Inv.fpOk {X : Cx} {pins : List (Addr × Obj)} {σ : St} {H H' : Hp} {s : Shared} {b : Addr} (I : Inv X pins σ H s) (hb : s.heap.objs.size ≤ b) (hn : H' b = none) : FpOk X pins H' b := by
  refine ⟨hn, Nat.ne_of_gt (Nat.lt_of_lt_of_le I.lt hb), I.nofs hb, .inr (Nat.le_trans I.sz hb), fun x c e z => ?_, fun p hp z => ?_⟩
  · obtain ⟨v, q⟩ := I.cell x c e
    exact absurd (Nat.lt_of_lt_of_le q.lt (by rw [z]; exact hb)) (Nat.lt_irrefl _)
  · exact absurd (Nat.lt_of_lt_of_le (Heap.lt_size (I.pin p hp).1) (by rw [z]; exact hb)) (Nat.lt_irrefl _)
structure Turn (P : Program) (w : World) (K : PySem.W.Frag) (tg : Expr) (J : It) (fp : List Addr) (it : Addr) (tn : Nat → Heap → Prop) : Prop where
  mem : it ∈ fp
  obj : ∀ i h, tn i h → ∀ b ∈ fp, ∃ o, h.get? b = some o ∧ ∀ v, o.data ≠ .cell v
  keep : ∀ i h h', tn i h → (∀ b ∈ fp, ∀ o, h.get? b = some o → h'.get? b = some o) → tn i h'
  item : ∀ (X : Cx), X.prog = P → X.w = w → X.K = K → X.calm = true → ∀ (i : Nat) (pins : List (Addr × Obj)) (s : Shared) (σ : St) (H : Hp) (E : Value → Shared → Prop), Inv X pins σ H s → (∀ b ∈ fp, FpOk X pins H b) → tn i s.heap → J.go i H →
    wpAny (model P w) X.A (pyNext (.ref it)) (fun r s1 => ∃ u, r = some u ∧
      wpAny (model P w) X.A (letOwnedTupleGo tg (.ref it) u) (fun _ s2 => ∃ x H', Inv X pins σ H' s2 ∧ RelV x u ∧ J.yld i H x H' ∧ tn (i + 1) s2.heap ∧ ∀ b ∈ fp, H' b = none) E s1) E s
  done : ∀ (X : Cx), X.prog = P → X.w = w → X.K = K → X.calm = true → ∀ (i : Nat) (pins : List (Addr × Obj)) (s : Shared) (σ : St) (H : Hp) (E : Value → Shared → Prop), Inv X pins σ H s → (∀ b ∈ fp, FpOk X pins H b) → tn i s.heap → J.stop i H →
    wpAny (model P w) X.A (pyNext (.ref it)) (fun r s1 => r = none ∧ Inv X pins σ H s1) E s
  self : ∀ (A : Around) (i : Nat) (s : Shared) (Q : Value → Shared → Prop) (E : Value → Shared → Prop), tn i s.heap → Q (.ref it) s → wpAny (model P w) A (pyIter (.ref it)) Q E s
abbrev TI := St → Hp → (It → Hp → Prop) → Prop
def PIE (X : Cx) (pins : List (Addr × Obj)) (σ : St) (tg : Expr) (R : It → Hp → Prop) (itv : Value) (s2 : Shared) : Prop :=
  ∃ (it : Addr) (fp : List Addr) (tn : Nat → Heap → Prop) (J : It) (H' : Hp), itv = .ref it ∧ Inv X pins σ H' s2 ∧ Turn X.prog X.w X.K tg J fp it tn ∧ tn 0 s2.heap ∧ (∀ b ∈ fp, FpOk X pins H' b) ∧ R J H'
def PI (X : Cx) (tg iter : Expr) (wi : TI) : Prop :=
  ∀ (pins : List (Addr × Obj)) (s : Shared) (σ : St) (H : Hp) (R : It → Hp → Prop), Inv X pins σ H s → wi σ H R →
    wpAny (model X.prog X.w) X.A (eval iter X.env) (fun v s1 => wpAny (model X.prog X.w) X.A (pyIter v) (PIE X pins σ tg R) X.xe s1) X.xe s
theorem go_of {M : Model} {A : Around} {E : Value → Shared → Prop} {s : Shared} {tg : Expr} {it : Addr} {u : Value} {o : Obj} {n : String} {vs : Array Value} {Q : Unit → Shared → Prop} (ho : s.heap.get? it = some o) (hc : o.cls = .type n) (hd : o.data = .fields vs)
    (hn : ["enumerate", "zip", "dict_itemiterator", "dict_reverseitemiterator", "odict_iterator", "itertools.zip_longest", "itertools.pairwise"].contains n = false) (hQ : Q () s) : wpAny M A (letOwnedTupleGo tg (.ref it) u) Q E s := by
  unfold letOwnedTupleGo
  cases tg <;> first
    | exact wpAny_pure hQ
    | (cases u <;> first
        | exact wpAny_pure hQ
        | (refine wpAny_bind (wpAny_load ho ?_)
           rw [hc, hd]
           show wpAny M A (if (["enumerate", "zip", "dict_itemiterator", "dict_reverseitemiterator", "odict_iterator", "itertools.zip_longest", "itertools.pairwise"].contains n && vs[0]? == some (rawInt _)) = true then _ else _) Q E s
           rw [if_neg (by intro h; rw [hn, Bool.false_and] at h; cases h)]
           exact wpAny_pure hQ))
def Itl (K : PySem.W.Frag) (a : Addr) : It :=
  ⟨fun i H => ∃ xs x, SqL K H a xs ∧ xs[i]? = some x, fun i H x H' => H' = H ∧ ∀ xs, SqL K H a xs → xs[i]? = some x, fun i H => ∃ xs, SqL K H a xs ∧ xs.length ≤ i⟩
def Itr (lo : Int) (n : Nat) : It := ⟨fun i _ => i < n, fun i H x H' => H' = H ∧ x = .int (lo + i), fun i _ => n ≤ i⟩
theorem turn_list {P : Program} {w : World} {K : PySem.W.Frag} {tg : Expr} (a it : Addr) : Turn P w K tg (Itl K a) [it] it (fun i h => h.IsListIter it a i) where
  mem := by simp
  obj := fun i h st b hb => by
    have e : b = it := by simpa using hb
    subst e
    obtain ⟨o, e, c, d⟩ := st
    exact ⟨o, e, fun v z => by rw [d] at z; cases z⟩
  keep := fun i h h' st k => st.at fun o e => k it (by simp) o e
  item := by
    intro X hP hw hK hc i pins s σ H E I hf st hg
    subst hP hw hK
    obtain ⟨xs, x, hq, hx⟩ := hg
    obtain ⟨its, rv, p, hz⟩ := I.list hq
    obtain ⟨u, hu, ru⟩ := rv.get hx
    obtain ⟨f0, f1, f2, f3, f4, f5⟩ := hf it (by simp)
    refine wpAny_pyNext_list_item st p.isList (x := u) (by simpa using hu) fun h' st' sb => ?_
    have I1 : Inv X pins σ H { s with heap := h' } := I.turned (t' := s.toks) (fun b o hb e => (sb.2 b hb).trans e) f0 f1 f3 f4 f5
    obtain ⟨o, e, c, d⟩ := id st'
    exact ⟨u, rfl, go_of (s := { s with heap := h' }) e c d (by decide) ⟨x, H, I1, ru, ⟨rfl, fun ys hy => by rw [I.list_inj hy hq]; exact hx⟩, st', fun b hb => (hf b hb).1⟩⟩
  done := by
    intro X hP hw hK hc i pins s σ H E I hf st hg
    subst hP hw hK
    obtain ⟨xs, hq, hx⟩ := hg
    obtain ⟨its, rv, p, hz⟩ := I.list hq
    obtain ⟨f0, f1, f2, f3, f4, f5⟩ := hf it (by simp)
    have hl := rv.length
    exact wpAny_pyNext_list_end (I.ok.hd hc) st p.isList (by simp; omega) fun h' eb => ⟨rfl, I.turned (t' := s.toks) (fun b o hb e => eb b o hb e) f0 f1 f3 f4 f5⟩
  self := fun _ _ _ _ _ st h => wpAny_pyIter_listiter st h
theorem turn_range {P : Program} {w : World} {K : PySem.W.Frag} {tg : Expr} (it : Addr) (lo : Int) (n : Nat) : Turn P w K tg (Itr lo n) [it] it (fun i h => IsRangeIter h it (lo + (i : Nat) * 1) ((n : Int) - (i : Nat)) 1) where
  mem := by simp
  obj := fun i h st b hb => by
    have e : b = it := by simpa using hb
    subst e
    exact ⟨_, st, fun v z => by
      have z' : Data.fields _ = Data.cell v := z
      cases z'⟩
  keep := fun i h h' st k => k it (by simp) _ st
  item := by
    intro X hP hw hK hc i pins s σ H E I hf st hg
    subst hP hw hK
    obtain ⟨f0, f1, f2, f3, f4, f5⟩ := hf it (by simp)
    have W := Walks.range (prog := X.prog) (w := X.w) (I.ok.hd hc) it lo 1 n
    refine W.item i s _ _ hg st fun v h' tk hv st' kk => ?_
    obtain ⟨t, rfl⟩ := hv
    have I1 : Inv X pins σ H { s with heap := h', toks := tk } := I.turned (fun b o hb e => kk b o (by simpa using hb) e) f0 f1 f3 f4 f5
    refine ⟨_, rfl, go_of (s := { s with heap := h', toks := tk }) (n := "range_iterator") st' rfl rfl (by decide) ⟨.int (lo + i), H, I1, ⟨t, ?_⟩, ⟨rfl, rfl⟩, st', fun b hb => (hf b hb).1⟩⟩
    rw [Int.mul_one]
  done := by
    intro X hP hw hK hc i pins s σ H E I hf st hg
    subst hP hw hK
    obtain ⟨f0, f1, f2, f3, f4, f5⟩ := hf it (by simp)
    exact wpAny_pyNext_range_end (I.ok.hd hc) st (by have : n ≤ i := hg; omega) fun h' eb => ⟨rfl, I.turned (t' := s.toks) (fun b o hb e => eb b o hb e) f0 f1 f3 f4 f5⟩
  self := fun _ _ _ _ _ st h => wpAny_pyIter_rangeiter st h
end L2
namespace L2
open PySem PySem.Spec PyProof.Rows
section
variable {X : Cx} {tg : Expr}
def iList (K : PySem.W.Frag) (tl : TE) : TI := fun σ H R => tl σ H fun x H1 => ∃ a, x = .ref a ∧ (∃ xs, SqL K H1 a xs) ∧ R (Itl K a) H1
theorem pi_list {l : Expr} {tl : TE} (hl : PE X l tl) : PI X tg l (iList X.K tl) := by
  intro pins s σ H R I h
  refine thn (hl pins s σ H _ I h) fun v s1 ⟨x, H1, I1, r1, q1⟩ => ?_
  obtain ⟨a, e, ⟨xs, hq⟩, q⟩ := q1
  subst e
  cases r1
  obtain ⟨its, rv, p, hz⟩ := I1.list hq
  refine wpAny_pyIter_list p.isList ?_
  refine ⟨s1.heap.objs.size, [s1.heap.objs.size], _, _, H1, rfl, I1.kept (t' := s1.toks) fun b o e => Heap.get?_push_of_some _ e, turn_list a _, ⟨_, Heap.get?_push_size _ rfl, rfl, rfl⟩, fun b hb => ?_, q⟩
  have e : b = s1.heap.objs.size := by simpa using hb
  subst e
  exact I1.fpOk (Nat.le_refl _) (I1.hok.fresh (Nat.le_refl _))
theorem range_it {pins : List (Addr × Obj)} {σ : St} {H : Hp} {s : Shared} {R : It → Hp → Prop} {E : Value → Shared → Prop} {lo hi : Int} {t u v : Tok} {tk : Nat} (I : Inv X pins σ H s) (h1 : -(2 ^ 62) ≤ lo) (h2 : lo < 2 ^ 62) (h3 : -(2 ^ 62) ≤ hi) (h4 : hi < 2 ^ 62)
    (q : R (Itr lo (hi - lo).toNat) H) : wpAny (model X.prog X.w) X.A (pyIter (.ref s.heap.objs.size)) (PIE X pins σ tg R) E { s with heap := s.heap.push { cls := .type "range", data := .fields #[.int lo t, .int hi u, .int 1 v] }, toks := tk } := by
  refine wpAny_pyIter_range (IsRange.new ..) (small_one h1 h2 h3 h4) ?_
  have I1 : Inv X pins σ H { s with heap := s.heap.push { cls := .type "range", data := .fields #[.int lo t, .int hi u, .int 1 v] }, toks := tk } := I.kept fun b o e => Heap.get?_push_of_some _ e
  refine ⟨(s.heap.push { cls := .type "range", data := .fields #[.int lo t, .int hi u, .int 1 v] }).objs.size, [(s.heap.push { cls := .type "range", data := .fields #[.int lo t, .int hi u, .int 1 v] }).objs.size], _, _, H, rfl,
    I1.kept (t' := tk) fun b o e => Heap.get?_push_of_some _ e, turn_range _ lo (hi - lo).toNat, ?_, fun b hb => ?_, q⟩
  · have e1 : lo + ((0 : Nat) : Int) * 1 = lo := by simp
    have e2 : (((hi - lo).toNat : Nat) : Int) - ((0 : Nat) : Int) = Builtin.Range.rangeSize lo hi 1 := by rw [rangeSize_one]; split <;> omega
    show IsRangeIter _ _ (lo + ((0 : Nat) : Int) * 1) ((((hi - lo).toNat : Nat) : Int) - ((0 : Nat) : Int)) 1
    rw [e1, e2]
    exact Heap.get?_push_size _ rfl
  · have e : b = (s.heap.push { cls := .type "range", data := .fields #[.int lo t, .int hi u, .int 1 v] }).objs.size := by simpa using hb
    subst e
    exact I1.fpOk (Nat.le_refl _) (I1.hok.fresh (Nat.le_refl _))
def iRng1 (ta : TA) : TI := fun σ H R => ta σ H fun vs H1 => ∃ j : Int, vs = [.int j] ∧ -(2 ^ 62) ≤ j ∧ j < 2 ^ 62 ∧ R (Itr 0 j.toNat) H1
theorem pi_range1 {a : Expr} {ta : TA} {p pos : Pos} (hg : Gl X "range") (hm : X.mg "range" = none) (ha : PA X [a] ta) (hs : starEach [a] X.env = [(false, eval a X.env)] := by rfl) : PI X tg (.Call (.Name "range" p) [a] [] pos) (iRng1 ta) := by
  intro pins s σ H R I h
  refine Call_ (ld_blt I hg hm boot_range (PyProof.Rows.callWith_type1 (thn (ha pos pins s σ H _ I h) fun us s1 ⟨vs, H1, I1, r1, q1⟩ => ?_) hs rfl))
  obtain ⟨j, e, q1, q2, q⟩ := q1
  subst e
  cases r1 with
  | cons r rr =>
    cases rr
    obtain ⟨t, rfl⟩ := r
    exact call_range_1 (range_it I1 (by omega) (by omega) q1 q2 (by simpa using q))
def tFor (wi : TI) (g : TG) (tb : TS) : TS := fun D σ H => wi σ H fun J H1 => ∃ W : Nat → Nat → St → Hp → Prop, (∃ m, W 0 m σ H1) ∧ ∀ i m σ H, W i m σ H →
  (J.stop i H ∧ D.nx σ H) ∨ (J.go i H ∧ ∃ N : St → Hp → Prop, (∀ σ' H', N σ' H' → ∃ m', m' < m ∧ W (i + 1) m' σ' H') ∧ ∀ x H', J.yld i H x H' → g x σ H' fun σ2 H2 => tb { D with nx := N, ct := N, bk := D.nx } σ2 H2)
def pinsAt (fp : List Addr) (h : Heap) : List (Addr × Obj) := fp.filterMap fun b => (h.get? b).map fun o => (b, o)
theorem mem_pinsAt {fp : List Addr} {h : Heap} {b : Addr} {o : Obj} (hb : b ∈ fp) (e : h.get? b = some o) : (b, o) ∈ pinsAt fp h := List.mem_filterMap.mpr ⟨b, hb, by rw [e]; rfl⟩
theorem of_pinsAt {fp : List Addr} {h : Heap} {p : Addr × Obj} (hp : p ∈ pinsAt fp h) : p.1 ∈ fp ∧ h.get? p.1 = some p.2 := by
  obtain ⟨b, hb, e⟩ := List.mem_filterMap.mp hp
  cases q : h.get? b with
  | none => rw [q] at e; cases e
  | some o =>
    rw [q] at e
    have e' : (b, o) = p := Option.some.inj e
    subst e'
    exact ⟨hb, q⟩
theorem Inv.pinned {pins : List (Addr × Obj)} {σ : St} {H : Hp} {s : Shared} {fp : List Addr} (I : Inv X pins σ H s) (hf : ∀ b ∈ fp, FpOk X pins H b) (ho : ∀ b ∈ fp, ∃ o, s.heap.get? b = some o ∧ ∀ v, o.data ≠ .cell v) : Inv X (pins ++ pinsAt fp s.heap) σ H s :=
  I.pins_of fun p hp => (List.mem_append.mp hp).elim (fun z => I.pin p (List.mem_append_right _ z)) fun z => by
    obtain ⟨hb, e⟩ := of_pinsAt z
    obtain ⟨f0, f1, f2, _⟩ := hf p.1 hb
    obtain ⟨o, e', d⟩ := ho p.1 hb
    rw [e] at e'; cases e'
    exact ⟨e, f0, f1, f2, d⟩
theorem Inv.unpinned {pins pl : List (Addr × Obj)} {σ : St} {H : Hp} {s : Shared} (I : Inv X (pins ++ pl) σ H s) : Inv X pins σ H s := I.pins_of fun p hp => I.pin p (List.mem_append_right _ (List.mem_append_left _ hp))
theorem ps_for {iter : Expr} {body : List Stmt} {wi : TI} {g : TG} {tb : TS} {pos : Pos} (hp : PassesOwn (model X.prog X.w) X.A X.env X.xe) (hc : X.calm = true) (hi : PI X tg iter wi) (hg : PG X tg g) (hb : PSs X body tb)
    (hs : ∀ x, foldedSetIterable iter X.env x = pure x := by intro _; rfl) : PS X (.For tg iter body [] pos) (tFor wi g tb) := by
  intro pins s σ H D I h
  refine wpAny_For (thn (hi pins s σ H _ I h) fun v s1 h1 => thn h1 fun itv s2 h2 => ?_) hs
  obtain ⟨it, fp, tn, J, H2, e, I2, T, st2, f2, W, ⟨m0, w0⟩, turn⟩ := h2
  subst e
  have stat : ∀ {H' : Hp}, (∀ b ∈ fp, H' b = none) → ∀ b ∈ fp, FpOk X pins H' b := fun hn b hb => ⟨hn b hb, (f2 b hb).2⟩
  refine codeAny_forLoop_any (fun n s' => ∃ i σ' H', Inv X pins σ' H' s' ∧ tn i s'.heap ∧ (∀ b ∈ fp, H' b = none) ∧ W i n σ' H') ?_ m0 ⟨0, σ, H2, I2, st2, fun b hb => (f2 b hb).1, w0⟩
  rintro n s3 ⟨i, σ3, H3, I3, st3, fr3, w3⟩
  rcases turn i n σ3 H3 w3 with ⟨stop, qn⟩ | ⟨go, N, hN, step⟩
  · refine wpAny_passesOwn hp (thn (T.done X rfl rfl rfl hc i pins s3 σ3 H3 X.xe I3 (stat fr3) st3 stop) fun r s4 ⟨hr, I4⟩ => ?_)
    subst hr
    exact wpAny_execs_nil ⟨σ3, H3, I4, qn⟩
  · refine wpAny_passesOwn hp (thn (T.item X rfl rfl rfl hc i pins s3 σ3 H3 X.xe I3 (stat fr3) st3 go) fun r s4 ⟨u, hr, h4⟩ => ?_)
    subst hr
    refine wpAny_passesOwn hp (thn h4 fun _ s5 ⟨x, H5, I5, r5, y5, st5, fr5⟩ => ?_)
    have I5' := I5.pinned (stat fr5) (T.obj _ _ st5)
    refine wpAny_passesOwn hp (thn (hg _ s5 σ3 H5 x u _ I5' r5 (step x H5 y5)) fun _ s6 ⟨σ6, H6, I6, q6⟩ => ?_)
    refine wpAny_passesOwn hp (thn (hb _ s6 σ6 H6 _ I6 q6) fun f s7 q7 => ?_)
    have again : ∀ {σ7 : St} {H7 : Hp}, Inv X (pins ++ pinsAt fp s5.heap) σ7 H7 s7 → N σ7 H7 → ∃ m, m < n ∧ ∃ i σ' H', Inv X pins σ' H' s7 ∧ tn i s7.heap ∧ (∀ b ∈ fp, H' b = none) ∧ W i m σ' H' := fun {σ7 H7} I7 n7 => by
      obtain ⟨m', hm, w7⟩ := hN σ7 H7 n7
      refine ⟨m', hm, i + 1, σ7, H7, I7.unpinned, T.keep _ _ _ st5 fun b hb o e => (I7.pin (b, o) (List.mem_append_right _ (List.mem_append_right _ (mem_pinsAt hb e)))).1, fun b hb => ?_, w7⟩
      obtain ⟨o, e, d⟩ := T.obj _ _ st5 b hb
      exact (I7.pin (b, o) (List.mem_append_right _ (List.mem_append_right _ (mem_pinsAt hb e)))).2.1
    cases f with
    | next => obtain ⟨σ7, H7, I7, n7⟩ := q7; exact again I7 n7
    | cont => obtain ⟨σ7, H7, I7, n7⟩ := q7; exact again I7 n7
    | brk => obtain ⟨σ7, H7, I7, q7⟩ := q7; exact ⟨σ7, H7, I7.unpinned, q7⟩
    | ret v => obtain ⟨x7, σ7, H7, I7, r7, q7⟩ := q7; exact ⟨x7, σ7, H7, I7.unpinned, r7, q7⟩
end
theorem for_list {K : PySem.W.Frag} {a : Addr} {xs : List V} {g : TG} {tb : TS} {D : Ends} {σ : St} {H : Hp} (Pv : Nat → St → Hp → Prop) (h0 : Pv 0 σ H) (hl : ∀ i σ H, i ≤ xs.length → Pv i σ H → SqL K H a xs)
    (hs : ∀ i x σ H, xs[i]? = some x → Pv i σ H → g x σ H fun σ2 H2 => tb { D with nx := Pv (i + 1), ct := Pv (i + 1), bk := D.nx } σ2 H2) (hd : ∀ σ H, Pv xs.length σ H → D.nx σ H) :
    ∃ W : Nat → Nat → St → Hp → Prop, (∃ m, W 0 m σ H) ∧ ∀ i m σ H, W i m σ H →
      ((Itl K a).stop i H ∧ D.nx σ H) ∨ ((Itl K a).go i H ∧ ∃ N : St → Hp → Prop, (∀ σ' H', N σ' H' → ∃ m', m' < m ∧ W (i + 1) m' σ' H') ∧ ∀ x H', (Itl K a).yld i H x H' → g x σ H' fun σ2 H2 => tb { D with nx := N, ct := N, bk := D.nx } σ2 H2) := by
  refine ⟨fun i m σ H => m = xs.length - i ∧ i ≤ xs.length ∧ Pv i σ H, ⟨xs.length, by simp, Nat.zero_le _, h0⟩, ?_⟩
  rintro i m σ H ⟨rfl, hi, p⟩
  have q := hl i σ H hi p
  by_cases hlt : i < xs.length
  · refine .inr ⟨⟨xs, xs[i], q, by simp [hlt]⟩, Pv (i + 1), fun σ' H' p' => ⟨xs.length - (i + 1), by omega, rfl, hlt, p'⟩, fun x H' y => ?_⟩
    obtain ⟨e, y⟩ := y
    subst e
    exact hs i x σ _ (y xs q) p
  · have e : i = xs.length := by omega
    subst e
    exact .inl ⟨⟨xs, q, Nat.le_refl _⟩, hd σ H p⟩
theorem for_range {lo : Int} {n : Nat} {g : TG} {tb : TS} {D : Ends} {σ : St} {H : Hp} (Pv : Nat → St → Hp → Prop) (h0 : Pv 0 σ H)
    (hs : ∀ i σ H, i < n → Pv i σ H → g (.int (lo + i)) σ H fun σ2 H2 => tb { D with nx := Pv (i + 1), ct := Pv (i + 1), bk := D.nx } σ2 H2) (hd : ∀ σ H, Pv n σ H → D.nx σ H) :
    ∃ W : Nat → Nat → St → Hp → Prop, (∃ m, W 0 m σ H) ∧ ∀ i m σ H, W i m σ H →
      ((Itr lo n).stop i H ∧ D.nx σ H) ∨ ((Itr lo n).go i H ∧ ∃ N : St → Hp → Prop, (∀ σ' H', N σ' H' → ∃ m', m' < m ∧ W (i + 1) m' σ' H') ∧ ∀ x H', (Itr lo n).yld i H x H' → g x σ H' fun σ2 H2 => tb { D with nx := N, ct := N, bk := D.nx } σ2 H2) := by
  refine ⟨fun i m σ H => m = n - i ∧ i ≤ n ∧ Pv i σ H, ⟨n, by simp, Nat.zero_le _, h0⟩, ?_⟩
  rintro i m σ H ⟨rfl, hi, p⟩
  by_cases hlt : i < n
  · refine .inr ⟨hlt, Pv (i + 1), fun σ' H' p' => ⟨n - (i + 1), by omega, rfl, hlt, p'⟩, fun x H' y => ?_⟩
    obtain ⟨e, y⟩ := y
    subst e y
    exact hs i σ _ hlt p
  · have e : i = n := by omega
    subst e
    exact .inl ⟨Nat.le_refl _, hd σ H p⟩
end L2
namespace L2
open PySem PySem.Spec PyProof.Rows
abbrev R2 := V → V → Hp → VK → Prop
def OpR (X : Cx) (f : Value → Value → Sem Value) (r : R2) : Prop :=
  ∀ (pins : List (Addr × Obj)) (s : Shared) (σ : St) (H : Hp) (x y : V) (v u : Value) (Q : VK), Inv X pins σ H s → RelV x v → RelV y u → r x y H Q →
    wpAny (model X.prog X.w) X.A (f v u) (EP X pins σ Q) X.xe s
def UnR (X : Cx) (f : Value → Sem Value) (r : V → Hp → VK → Prop) : Prop :=
  ∀ (pins : List (Addr × Obj)) (s : Shared) (σ : St) (H : Hp) (x : V) (v : Value) (Q : VK), Inv X pins σ H s → RelV x v → r x H Q →
    wpAny (model X.prog X.w) X.A (f v) (EP X pins σ Q) X.xe s
def CallR (X : Cx) (f : Value) (r : List V → Hp → VK → Prop) : Prop :=
  ∀ (pins : List (Addr × Obj)) (s : Shared) (σ : St) (H : Hp) (xs : List V) (us : List Value) (Q : VK), Inv X pins σ H s → Vals xs us → r xs H Q →
    wpAny (model X.prog X.w) X.A (call f us) (EP X pins σ Q) X.xe s
def TruR (X : Cx) (r : V → Hp → (Bool → Hp → Prop) → Prop) : Prop :=
  ∀ (pins : List (Addr × Obj)) (s : Shared) (σ : St) (H : Hp) (x : V) (v : Value) (Q : Bool → Hp → Prop), Inv X pins σ H s → RelV x v → r x H Q →
    wpAny (model X.prog X.w) X.A (truthy v) (TP X pins σ Q) X.xe s
def tOp (r : R2) (ta tb : TE) : TE := fun σ H Q => ta σ H fun x H1 => tb σ H1 fun y H2 => r x y H2 Q
def tUn (r : V → Hp → VK → Prop) (ta : TE) : TE := fun σ H Q => ta σ H fun x H1 => r x H1 Q
def rI0 (g : Int → Int → V) : R2 := fun x y H Q => ∃ i j, x = .int i ∧ y = .int j ∧ Q (g i j) H
def rU (g : Int → V) : V → Hp → VK → Prop := fun x H Q => ∃ i, x = .int i ∧ Q (g i) H
section
variable {X : Cx} {a b c : Expr} {ta tb tc : TE} {pos : Pos}
theorem binT (ha : PE X a ta) (hb : PE X b tb) {pins : List (Addr × Obj)} {s : Shared} {σ : St} {H : Hp} {R : V → V → Hp → Prop} (I : Inv X pins σ H s)
    (h : ta σ H fun x H1 => tb σ H1 fun y H2 => R x y H2) {Q : Value → Shared → Prop} {f : Value → Value → Sem Value}
    (hf : ∀ v u s2 x y H2, Inv X pins σ H2 s2 → RelV x v → RelV y u → R x y H2 → wpAny (model X.prog X.w) X.A (f v u) Q X.xe s2) :
    wpAny (model X.prog X.w) X.A (eval a X.env) (fun v s₁ => wpAny (model X.prog X.w) X.A (eval b X.env) (fun u s₂ => wpAny (model X.prog X.w) X.A (f v u) Q X.xe s₂) X.xe s₁) X.xe s := by
  refine thn (ha pins s σ H _ I h) fun v s1 ⟨x, H1, I1, r1, q1⟩ => ?_
  refine thn (hb pins s1 σ H1 _ I1 q1) fun u s2 ⟨y, H2, I2, r2, q2⟩ => ?_
  exact hf v u s2 x y H2 I2 r1 r2 q2
theorem pe_op {op : Operator} {r : R2} (ho : OpR X (binaryOp op) r) (ha : PE X a ta) (hb : PE X b tb) : PE X (.BinOp a op b pos) (tOp r ta tb) := by
  intro pins s σ H Q I h
  exact wpAny_BinOp (binT ha hb I h fun v u s2 x y H2 I2 rx ry q => ho pins s2 σ H2 x y v u Q I2 rx ry q)
theorem pe_un {op : UnaryOp} {r : V → Hp → VK → Prop} (ho : UnR X (unaryOp op) r) (ha : PE X a ta) : PE X (.UnaryOp op a pos) (tUn r ta) := by
  intro pins s σ H Q I h
  exact UnaryOp_ (thn (ha pins s σ H _ I h) fun v s1 ⟨x, H1, I1, r1, q1⟩ => ho pins s1 σ H1 x v Q I1 r1 q1)
theorem opI0 {f : Value → Value → Sem Value} {g : Int → Int → Int}
    (rule : ∀ (i j : Int) (t u : Tok) (s : Shared) (Q : Value → Shared → Prop) (E : Value → Shared → Prop), Q (.int (g i j) s.toks) { s with toks := s.toks + 1 } → wpAny (model X.prog X.w) X.A (f (.int i t) (.int j u)) Q E s) :
    OpR X f (rI0 fun i j => .int (g i j)) := by
  intro pins s σ H x y v u Q I rx ry h
  obtain ⟨i, j, rfl, rfl, q⟩ := h
  obtain ⟨t, rfl⟩ := rx
  obtain ⟨t', rfl⟩ := ry
  exact rule i j t t' s _ _ ⟨.int (g i j), H, I.tok _, ⟨_, rfl⟩, q⟩
theorem opB0 {f : Value → Value → Sem Value} {g : Int → Int → Bool}
    (rule : ∀ (i j : Int) (t u : Tok) (s : Shared) (Q : Value → Shared → Prop) (E : Value → Shared → Prop), Q (.bool (g i j)) s → wpAny (model X.prog X.w) X.A (f (.int i t) (.int j u)) Q E s) :
    OpR X f (rI0 fun i j => .bl (g i j)) := by
  intro pins s σ H x y v u Q I rx ry h
  obtain ⟨i, j, rfl, rfl, q⟩ := h
  obtain ⟨t, rfl⟩ := rx
  obtain ⟨t', rfl⟩ := ry
  exact rule i j t t' s _ _ ⟨.bl (g i j), H, I, rfl, q⟩
theorem op_add : OpR X (binaryOp .Add) (rI0 fun i j => .int (i + j)) := opI0 fun _ _ _ _ _ _ _ q => add_int q
theorem op_sub : OpR X (binaryOp .Sub) (rI0 fun i j => .int (i - j)) := opI0 fun _ _ _ _ _ _ _ q => sub_int q
theorem unI {f : Value → Sem Value} {g : Int → Int}
    (rule : ∀ (i : Int) (t : Tok) (s : Shared) (Q : Value → Shared → Prop) (E : Value → Shared → Prop), Q (.int (g i) s.toks) { s with toks := s.toks + 1 } → wpAny (model X.prog X.w) X.A (f (.int i t)) Q E s) :
    UnR X f (rU fun i => .int (g i)) := by
  intro pins s σ H x v Q I rx h
  obtain ⟨i, rfl, q⟩ := h
  obtain ⟨t, rfl⟩ := rx
  exact rule i t s _ _ ⟨.int (g i), H, I.tok _, ⟨_, rfl⟩, q⟩
theorem un_neg : UnR X (unaryOp .USub) (rU fun i => .int (-i)) := unI fun _ _ _ _ _ q => neg_int q
end
section
variable {X : Cx} {a b c : Expr} {ta tb tc : TE} {pos : Pos}
theorem op_lt : OpR X (compareOp .Lt) (rI0 fun i j => .bl (decide (i < j))) := opB0 fun _ _ _ _ _ _ _ q => lt_int q
theorem op_le : OpR X (compareOp .LtE) (rI0 fun i j => .bl (decide (i ≤ j))) := opB0 fun _ _ _ _ _ _ _ q => le_int q
def tTest (t : TE) : TT := fun σ H Q => t σ H fun x H' => ∃ k, x = .bl k ∧ Q k H'
def tChain (r r' : R2) (ta tb tc : TE) : TE := fun σ H Q => ta σ H fun x H1 => tb σ H1 fun y H2 => r x y H2 fun z H3 => ∃ k, z = .bl k ∧
  (if k = true then tc σ H3 fun w' H4 => r' y w' H4 Q else Q (.bl false) H3)
theorem pe_chain {op op' : CmpOp} {r r' : R2} (ho : OpR X (compareOp op) r) (ho' : OpR X (compareOp op') r') (ha : PE X a ta) (hb : PE X b tb) (hc : PE X c tc)
    (hm : lastMarks [op, op'] [b, c] = false := by with_unfolding_all rfl) : PE X (.Compare a [op, op'] [b, c] pos) (tChain r r' ta tb tc) := by
  intro pins s σ H Q I h
  refine Compare_chain (thn (ha pins s σ H _ I h) fun v s1 ⟨x, H1, I1, r1, q1⟩ => chain_link (thn (hb pins s1 σ H1 _ I1 q1) fun u s2 ⟨y, H2, I2, r2, q2⟩ =>
    thn (ho pins s2 σ H2 x y v u _ I2 r1 r2 q2) fun d s3 ⟨z, H3, I3, r3, k, e, q3⟩ => ?_)) hm
  subst e
  cases r3
  refine wpAny_truthy_bool ?_
  cases k with
  | false => exact ite_ff ⟨.bl false, H3, I3, rfl, q3⟩
  | true => exact ite_tt (chain_last (thn (hc pins s3 σ H3 _ I3 q3) fun w' s4 ⟨z', H4, I4, r4, q4⟩ => ho' pins s4 σ H4 y z' u w' Q I4 r2 r4 q4))
theorem pt_chain {op op' : CmpOp} {r r' : R2} (ho : OpR X (compareOp op) r) (ho' : OpR X (compareOp op') r') (ha : PE X a ta) (hb : PE X b tb) (hc : PE X c tc)
    (hm : lastMarks [op, op'] [b, c] = false := by with_unfolding_all rfl) : PT X (.Compare a [op, op'] [b, c] pos) (tTest (tChain r r' ta tb tc)) := by
  intro pins s σ H Q I h
  refine isTrue_chain (thn (ha pins s σ H _ I h) fun v s1 ⟨x, H1, I1, r1, q1⟩ => test_link (thn (hb pins s1 σ H1 _ I1 q1) fun u s2 ⟨y, H2, I2, r2, q2⟩ =>
    thn (ho pins s2 σ H2 x y v u _ I2 r1 r2 q2) fun d s3 ⟨z, H3, I3, r3, k, e, q3⟩ => ?_)) hm
  subst e
  cases r3
  refine wpAny_truthy_bool ?_
  cases k with
  | false =>
    obtain ⟨k', e', q'⟩ := q3
    cases e'
    exact ite_ff ⟨H3, I3, q'⟩
  | true =>
    refine ite_tt (test_last (thn (hc pins s3 σ H3 _ I3 q3) fun w' s4 ⟨z', H4, I4, r4, q4⟩ => thn (ho' pins s4 σ H4 y z' u w' _ I4 r2 r4 q4) fun d' s5 ⟨z2, H5, I5, r5, k2, e2, q5⟩ => ?_))
    subst e2
    cases r5
    exact wpAny_truthy_bool ⟨H5, I5, q5⟩
def TruV (K : PySem.W.Frag) (x : V) (H : Hp) (k : Bool) : Prop :=
  match x with
  | .non => k = false
  | .bl b => k = b
  | .int i => k = (i != 0)
  | .str y => y.length ≤ sizeLine ∧ k = ((y.length : Int) != 0)
  | .byt y => y.size ≤ sizeLine ∧ k = ((y.size : Int) != 0)
  | .ref p => (∃ xs, SqL K H p xs ∧ k = !xs.isEmpty) ∨ (∃ xs, SqT K H p xs ∧ k = !xs.isEmpty) ∨ ∃ kvs, H p = some (.dK kvs) ∧ k = !kvs.isEmpty
  | _ => False
theorem isEmpty_kv {κ : Type} {kvs : List (κ × V)} {vs : List (κ × Value)} (r : KV kvs vs) : (!vs.isEmpty) = !kvs.isEmpty := by
  cases r <;> rfl
theorem isEmpty_of {xs : List V} {its : List Value} (r : Vals xs its) : (!its.toArray.isEmpty) = !xs.isEmpty := by
  cases r <;> simp
theorem line63 : (sizeLine : Nat) < 2 ^ 63 := by rw [sizeLine_eq]; decide
theorem tru_ok : TruR X (fun x H Q => ∃ k, TruV X.K x H k ∧ Q k H) := by
  intro pins s σ H x v Q I rx h
  obtain ⟨k, e, q⟩ := h
  have hl := line63
  have hs : sizeLine = 16777216 := sizeLine_eq
  cases x with
  | non =>
    cases rx
    have e' : k = false := e
    subst e'
    exact truthy_none ⟨H, I, q⟩
  | bl b =>
    cases rx
    have e' : k = b := e
    subst e'
    exact wpAny_truthy_bool ⟨H, I, q⟩
  | int i =>
    obtain ⟨t, rfl⟩ := rx
    have e' : k = (i != 0) := e
    subst e'
    exact PySem.P.truthy_int ⟨H, I, q⟩
  | str y =>
    obtain ⟨t, rfl⟩ := rx
    obtain ⟨hy, e'⟩ : y.length ≤ sizeLine ∧ k = ((y.length : Int) != 0) := e
    subst e'
    exact PySem.P.truthy_str (by omega) ⟨H, I.tok _, q⟩
  | byt y =>
    obtain ⟨t, rfl⟩ := rx
    obtain ⟨hy, e'⟩ : y.size ≤ sizeLine ∧ k = ((y.size : Int) != 0) := e
    subst e'
    exact PySem.W.truthy_bytes (by omega) ⟨H, I.tok _, q⟩
  | ref p =>
    cases rx
    have e' : (∃ xs, SqL X.K H p xs ∧ k = !xs.isEmpty) ∨ (∃ xs, SqT X.K H p xs ∧ k = !xs.isEmpty) ∨ ∃ kvs, H p = some (.dK kvs) ∧ k = !kvs.isEmpty := e
    rcases e' with ⟨xs, hx, e'⟩ | ⟨xs, hx, e'⟩ | ⟨kvs, hx, e'⟩
    · subst e'
      obtain ⟨its, r, pl, hz⟩ := I.list hx
      have hlen := r.length
      exact wpAny_truthy_list pl.isList (by simp only [List.size_toArray]; omega) ⟨H, I.tok _, by rw [isEmpty_of r]; exact q⟩
    · subst e'
      obtain ⟨its, r, pl, hz⟩ := I.tuple hx
      have hlen := r.length
      exact truthy_tuple pl (by simp only [List.size_toArray]; omega) ⟨H, I.tok _, by rw [isEmpty_of r]; exact q⟩
    · subst e'
      obtain ⟨hz, hS, vs, r, m⟩ : kvs.length ≤ sizeLine ∧ (p == sysModules) = false ∧ ∃ vs, KV kvs vs ∧ s.heap.DictOf (mixKind X.prog X.w) p vs := I.hok p _ hx
      have hlen : kvs.length = vs.length := Paired.length r
      exact wpAny_truthy_dict hS m (by omega) ⟨H, I.tok _, by rw [isEmpty_kv r]; exact q⟩
  | _ => exact (show False from e).elim
theorem pt_truth (ha : PE X a ta) (he : ∀ whole, isTrue a X.env whole = (do let v ← whole; standAt a.pos; holding [v] (truthy v))) :
    PT X a (fun σ H Q => ta σ H fun x H' => ∃ k, TruV X.K x H' k ∧ Q k H') := by
  intro pins s σ H Q I h
  exact isTrue_plain (thn (ha pins s σ H _ I h) fun v s1 ⟨x, H1, I1, r1, q1⟩ => tru_ok pins s1 σ H1 x v Q I1 r1 q1) (he _)
theorem vals1 {x : V} {us : List Value} (r : Vals [x] us) : ∃ u, us = [u] ∧ RelV x u := by
  cases r with
  | cons r1 r2 => cases r2; exact ⟨_, rfl, r1⟩
theorem vals2 {x y : V} {us : List Value} (r : Vals [x, y] us) : ∃ u w', us = [u, w'] ∧ RelV x u ∧ RelV y w' := by
  cases r with
  | cons r1 r2 =>
    cases r2 with
    | cons r3 r4 => cases r4; exact ⟨_, _, rfl, r1, r3⟩
theorem call_max2 (hc : X.calm = true) : CallR X (.builtin "max") (fun xs H Q => ∃ i j, xs = [.int i, .int j] ∧ Q (.int (if j > i then j else i)) H) := by
  intro pins s σ H xs us Q I r h
  obtain ⟨i, j, rfl, q⟩ := h
  obtain ⟨u, w', rfl, ⟨t, rfl⟩, ⟨t', rfl⟩⟩ := vals2 r
  refine max_two_ints (I.ok.hd hc) fun h' tk k => ⟨_, H, I.kept k, ?_, q⟩
  by_cases hj : j > i
  · rw [if_pos hj, if_pos hj]; exact ⟨_, rfl⟩
  · rw [if_neg hj, if_neg hj]; exact ⟨_, rfl⟩
theorem call_min2 (hc : X.calm = true) : CallR X (.builtin "min") (fun xs H Q => ∃ i j, xs = [.int i, .int j] ∧ Q (.int (if j < i then j else i)) H) := by
  intro pins s σ H xs us Q I r h
  obtain ⟨i, j, rfl, q⟩ := h
  obtain ⟨u, w', rfl, ⟨t, rfl⟩, ⟨t', rfl⟩⟩ := vals2 r
  refine min_two_ints (I.ok.hd hc) fun h' tk k => ⟨_, H, I.kept k, ?_, q⟩
  by_cases hj : j < i
  · rw [if_pos hj, if_pos hj]; exact ⟨_, rfl⟩
  · rw [if_neg hj, if_neg hj]; exact ⟨_, rfl⟩
end
end L2
namespace L2
open PySem PySem.Spec PyProof.Rows
structure ObjM (h : Heap) (x dx C : Addr) (mA : Str → Option Value) : Prop where
  obj : h.get? x = some (PySem.W.instObj C dx)
  ns : h.Ns1 dx mA
  ne : dx ≠ x
theorem lookIn_ns {h : Heap} {dx : Addr} {mA : Str → Option Value} (n : h.Ns1 dx mA) : ∃ od, h.get? dx = some od ∧ ∀ name, PySem.W.lookIn name od = some (mA name) := by
  obtain ⟨o, es, ep, ho, hd, hk, _, hm⟩ := n
  refine ⟨o, ho, fun name => ?_⟩
  have e := hm name
  unfold nsFind findBy at e
  rw [← Array.find?_toList] at e
  unfold PySem.W.lookIn
  rw [hd]
  dsimp only
  split
  · rename_i y q
    rw [q] at e
    exact congrArg some e
  · rename_i q
    rw [q] at e
    have a : es.toList.any (·.refKey) = false := by
      rw [List.any_eq_false]
      intro y hy
      obtain ⟨z, t, hkey⟩ := hk y (Array.mem_toList_iff.mp hy)
      simp [DictEntry.refKey, hkey]
    have a' : ¬ es.toList.any (·.refKey) = true := by rw [a]; exact Bool.false_ne_true
    rw [if_neg a']
    exact congrArg some e
theorem ObjM.look {h : Heap} {x dx C : Addr} {mA : Str → Option Value} (I : ObjM h x dx C mA) : ∃ od, PySem.W.InstAt h x (PySem.W.instObj C dx) C (some od) ∧ ∀ name, PySem.W.lookIn name od = some (mA name) :=
  let ⟨od, ho, hl⟩ := lookIn_ns I.ns
  ⟨od, ⟨I.obj, rfl, rfl, ho⟩, hl⟩
section
variable {prog : Program} {w : World} {A : Around} {E : Value → Shared → Prop} {s : Shared} {K : PySem.W.Frag} {x dx C f : Addr} {mA : Str → Option Value} {name : Str} {v : Value}
theorem get_map {expr : Bool} {Q : Value → Shared → Prop} (X : K.In s.heap) (I : ObjM s.heap x dx C mA) (hg : PySem.W.plainGet K C name = true) (hh : PySem.W.hasDictIn K C = true)
    (ha : PySem.W.findIn K (.ref C) name = some none) (hv : mA name = some v) (hv' : PySem.W.handedIn v = true) (h : Q v { s with toks := s.toks + 1 }) :
    wpAny (model prog w) A (getAttr (.ref x) name expr) Q E s := by
  obtain ⟨od, J, hl⟩ := I.look
  exact PySem.W.get_value X J (PySem.W.plainGet_of hg).1 (PySem.W.findObj_own hh ha rfl (by rw [hl, hv])) hv' h
theorem get_meth {pl : Sem Bool} {Q : Value × List Value → Shared → Prop} (X : K.In s.heap) (I : ObjM s.heap x dx C mA) (hg : PySem.W.plainGet K C name = true)
    (hf : PySem.W.findIn K (.ref C) name = some (some (.ref f))) (ht : PySem.W.isFn K (.ref f) = true) (hv : mA name = none) (h : Q (.ref f, [.ref x]) s) :
    wpAny (model prog w) A (getMethod (.ref x) name pl) Q E s := by
  obtain ⟨od, J, hl⟩ := I.look
  exact PySem.W.method_fn X J (PySem.W.plainGet_of hg).1 (PySem.W.plainGet_of hg).2 hf (beq_iff_eq.mp ht) (by show (PySem.W.lookIn name od).map (·.isSome) = some false; rw [hl, hv]; rfl) h
theorem set_map {ns : List Str} {Q : Unit → Shared → Prop} (X : K.In s.heap) (I : ObjM s.heap x dx C mA)
    (hs : PySem.W.findIn K (.ref C) "__setattr__" = some (some (.builtin "object.__setattr__"))) (hp : PySem.W.plainOver K C = true) (ht : PySem.W.takerIn K C name = some none) (hh : PySem.W.hasDictIn K C = true)
    (hw : PySem.Within mA ns) (hsz : ns.length ≤ sizeLine)
    (h : ∀ h', ObjM h' x dx C (fun y => if y = name then some v else mA y) → Heap.SameBut dx s.heap h' → Q () { s with heap := h', toks := s.toks + 2 }) :
    wpAny (model prog w) A (setAttr (.ref x) name v) Q E s := by
  obtain ⟨od, J, hl⟩ := I.look
  refine PySem.W.set_plain X J hs (PySem.W.osa_open (s := { s with toks := s.toks + 1 }) (r := none) X J hp ht fun b => ?_)
  obtain ⟨cd, hc, hd'⟩ := PySem.W.any_some hh
  have hx : s.heap.get? x = some ⟨.ref C, some dx, .plain, #[]⟩ := I.obj
  refine wpAny_bind (wpAny_pure (wpAny_bind (wpAny_bind (wpAny_loadPart hx (wpAny_bind (PySem.W.Looks.here (s := { s with toks := s.toks + 1 }) (PySem.W.looks_clsIn X hc) ?_))))))
  rw [hd']
  refine wpAny_pure (a := some dx) (wpAny_bind (wpAny_pure (wpAny_bind ?_)))
  refine wpAny_nsSet1 (s := { s with toks := s.toks + 1 }) I.ns fun h' hn2 hs2 => ?_
  obtain ⟨oD, esD, epD, hoD, hdD, hcD⟩ := hn2.count (PySem.Within.cons name v hw)
  refine wpAny_bind (wpAny_lookBehind hoD (by rw [hdD]; exact pastItsLine_dict (Nat.le_trans hcD (by rw [List.length_cons]; omega))) ?_)
  exact wpAny_pure (h _ ⟨(hs2.2 _ (Ne.symm I.ne)).trans I.obj, hn2, I.ne⟩ hs2)
theorem make_map {R : Result → Shared → Prop} {vs : List Value} {kw : List (Str × Value)} (X : K.In s.heap) (hm : PySem.W.makesIn K C = true)
    (hi : PySem.W.findIn K (.ref C) "__init__" = some (some (.ref f))) (hf : PySem.W.typeIn K (.ref f) = some (.type "function"))
    (h : codeAny (model prog w) (A.under (.builtin "type.__call__" ⟨.ref C :: vs, kw⟩)) (.call (.ref f) ⟨.ref (s.heap.objs.size + 1) :: vs, kw⟩) (PySem.W.InitBack (s.heap.objs.size + 1) R)
      { s with heap := (s.heap.push PySem.W.emptyDict).push (PySem.W.instObj C s.heap.objs.size) }) :
    codeAny (model prog w) A (.call (.ref C) ⟨vs, kw⟩) R s := by
  obtain ⟨hh, g, d, t, os⟩ := s
  exact PySem.W.make_core (PySem.W.makes_of X hm) (PySem.W.looks_findIn X hi) (fun self => PySem.W.bind_fn X self hf) (.inl rfl) h
end
def putF (f : Str) (v : V) : List (Str × V) → List (Str × V)
  | [] => [(f, v)]
  | (g, x) :: r => if g = f then (g, v) :: r else (g, x) :: putF f v r
theorem lookup_putF (f g : Str) (v : V) : ∀ fs : List (Str × V), (putF f v fs).lookup g = if g = f then some v else fs.lookup g
  | [] => by
    show List.lookup g [(f, v)] = _
    by_cases h : g = f
    · have hb : (g == f) = true := beq_iff_eq.mpr h
      simp only [List.lookup, hb, if_pos h]
    · have hb : (g == f) = false := beq_eq_false_iff_ne.mpr h
      simp only [List.lookup, hb, if_neg h]
  | (k, x) :: r => by
    have ih := lookup_putF f g v r
    rw [show putF f v ((k, x) :: r) = (if k = f then (k, v) :: r else (k, x) :: putF f v r) from rfl]
    by_cases hk : k = f
    · rw [if_pos hk]
      by_cases h : g = k
      · have hb : (g == k) = true := beq_iff_eq.mpr h
        simp only [List.lookup, hb, if_pos (h.trans hk)]
      · have hb : (g == k) = false := beq_eq_false_iff_ne.mpr h
        simp only [List.lookup, hb, if_neg (fun e : g = f => h (e.trans hk.symm))]
    · rw [if_neg hk]
      by_cases h : g = k
      · have hb : (g == k) = true := beq_iff_eq.mpr h
        simp only [List.lookup, hb, if_neg (fun e : g = f => hk (h.symm.trans e))]
      · have hb : (g == k) = false := beq_eq_false_iff_ne.mpr h
        simp only [List.lookup, hb]
        exact ih
theorem keys_putF (f : Str) (v : V) : ∀ fs : List (Str × V), f ∈ (putF f v fs).map (·.1) ∧ ∀ g, g ∈ fs.map (·.1) → g ∈ (putF f v fs).map (·.1)
  | [] => ⟨by simp [putF], fun g h => by simp at h⟩
  | (k, x) :: r => by
    obtain ⟨i1, i2⟩ := keys_putF f v r
    rw [show putF f v ((k, x) :: r) = (if k = f then (k, v) :: r else (k, x) :: putF f v r) from rfl]
    by_cases hk : k = f
    · rw [if_pos hk]
      subst hk
      exact ⟨by simp, fun g h => by simpa using h⟩
    · rw [if_neg hk]
      refine ⟨?_, fun g h => ?_⟩
      · rw [List.map_cons]
        exact List.mem_cons_of_mem _ i1
      · rw [List.map_cons] at h ⊢
        rcases List.mem_cons.mp h with e | e
        · exact List.mem_cons.mpr (.inl e)
        · exact List.mem_cons_of_mem _ (i2 g e)
theorem length_putF (f : Str) (v : V) : ∀ fs : List (Str × V), (putF f v fs).length ≤ fs.length + 1
  | [] => by simp [putF]
  | (k, x) :: r => by
    have ih := length_putF f v r
    rw [show putF f v ((k, x) :: r) = (if k = f then (k, v) :: r else (k, x) :: putF f v r) from rfl]
    by_cases hk : k = f
    · rw [if_pos hk, List.length_cons, List.length_cons]; omega
    · rw [if_neg hk, List.length_cons, List.length_cons]; omega
theorem RelO.some_of {v : V} {o : Option Value} (r : RelO (some v) o) : ∃ u, o = some u ∧ RelV v u := by
  cases o with
  | none => exact (show False from r).elim
  | some u => exact ⟨u, rfl, r⟩
theorem RelO.none_of {o : Option Value} (r : RelO none o) : o = none := by
  cases o with
  | none => rfl
  | some u => exact (show False from r).elim
theorem handed_of {v : V} {u : Value} (r : RelV v u) : PySem.W.handedIn u = true := by
  cases v with
  | non => cases (show u = Value.none from r); rfl
  | bl b => cases (show u = Value.bool b from r); rfl
  | int i => obtain ⟨t, e⟩ := (show ∃ t, u = Value.int i t from r); cases e; rfl
  | str x => obtain ⟨t, e⟩ := (show ∃ t, u = Value.str x t from r); cases e; rfl
  | byt b => obtain ⟨t, e⟩ := (show ∃ t, u = Value.bytes b t from r); cases e; rfl
  | flt b => obtain ⟨t, e⟩ := (show ∃ t, u = Value.float b t from r); cases e; rfl
  | ref a => cases (show u = Value.ref a from r); rfl
  | ty n => cases (show u = Value.type n from r); rfl
section
variable {P : Program} {w : World} {H H' : Hp} {h h' : Heap} {a C dx : Addr} {fs fs' : List (Str × V)}
theorem ins_get (hok : HOk P w H h) (e : H a = some (.ins C dx fs)) : ∃ mA, ObjM h a dx C mA ∧ (∀ f, RelO (fs.lookup f) (mA f)) ∧ PySem.Within mA (fs.map (·.1)) ∧ fs.length ≤ 1000 ∧ H dx = some (.own a) := by
  obtain ⟨d, z, ne, ob, mA, n, r, q⟩ := (show ObjOk P w H h a (.ins C dx fs) from hok a _ e)
  exact ⟨mA, ⟨ob, n, ne⟩, r, q, z, d⟩
end
structure Cls (K : PySem.W.Frag) (C : Addr) : Prop where
  pg : PySem.W.plainGet K C Str.empty = true
  hd : PySem.W.hasDictIn K C = true
  po : PySem.W.plainOver K C = true
  sa : PySem.W.findIn K (.ref C) "__setattr__" = some (some (.builtin "object.__setattr__"))
theorem Cls.get {K : PySem.W.Frag} {C : Addr} (c : Cls K C) (f : Str) : PySem.W.plainGet K C f = true := c.pg
def NoAttr (K : PySem.W.Frag) (C : Addr) (f : Str) : Prop := PySem.W.findIn K (.ref C) f = some none
theorem NoAttr.taker {K : PySem.W.Frag} {C : Addr} {f : Str} (n : NoAttr K C f) : PySem.W.takerIn K C f = some none := by
  unfold PySem.W.takerIn
  rw [show PySem.W.findIn K (.ref C) f = some none from n]
  rfl
structure Meth (K : PySem.W.Frag) (C : Addr) (m : Str) (f : Addr) : Prop where
  at_ : PySem.W.findIn K (.ref C) m = some (some (.ref f))
  fn : PySem.W.isFn K (.ref f) = true
  kp : PySem.W.keepIn K (.ref f) = true
section
variable {X : Cx} {pins : List (Addr × Obj)} {σ : St} {H : Hp} {s : Shared} {a C dx : Addr} {fs : List (Str × V)} {f : Str} {v : V} {A : Around} {E : Value → Shared → Prop}
theorem getattr_ok {b : Bool} {Q : Value → Shared → Prop} (I : Inv X pins σ H s) (e : H a = some (.ins C dx fs)) (c : Cls X.K C) (n : NoAttr X.K C f) (l : fs.lookup f = some v)
    (h : ∀ u s', Inv X pins σ H s' → RelV v u → Q u s') : wpAny (model X.prog X.w) A (getAttr (.ref a) f b) Q E s := by
  obtain ⟨mA, O, r, _, _, _⟩ := ins_get I.hok e
  obtain ⟨u, hu, ru⟩ := RelO.some_of (v := v) (o := mA f) (by rw [← l]; exact r f)
  exact get_map I.kIn O (c.get f) c.hd n hu (handed_of ru) (h u _ (I.tok _) ru)
theorem getmeth_ok {m : Str} {g : Addr} {pl : Sem Bool} {Q : Value × List Value → Shared → Prop} (I : Inv X pins σ H s) (e : H a = some (.ins C dx fs)) (c : Cls X.K C) (k : Meth X.K C m g) (l : fs.lookup m = none)
    (h : Q (.ref g, [.ref a]) s) : wpAny (model X.prog X.w) A (getMethod (.ref a) m pl) Q E s := by
  obtain ⟨mA, O, r, _, _, _⟩ := ins_get I.hok e
  have hn : mA m = none := RelO.none_of (by rw [← l]; exact r m)
  exact get_meth I.kIn O (c.get m) k.at_ k.fn hn h
theorem setattr_ok {y : V} {u : Value} {Q : Unit → Shared → Prop} (I : Inv X pins σ H s) (e : H a = some (.ins C dx fs)) (c : Cls X.K C) (n : NoAttr X.K C f) (hl : fs.length < 1000) (ry : RelV y u)
    (h : ∀ s', Inv X pins σ (upd H a (.ins C dx (putF f y fs))) s' → Q () s') : wpAny (model X.prog X.w) A (setAttr (.ref a) f u) Q E s := by
  obtain ⟨mA, O, r, wi, _, ho⟩ := ins_get I.hok e
  have hz : (fs.map (·.1)).length ≤ sizeLine := by rw [List.length_map, sizeLine_eq]; omega
  refine set_map I.kIn O c.sa c.po n.taker c.hd wi hz fun h' O' sb => h _ ?_
  have hd : ∃ o, h'.get? dx = some o := let ⟨o, _, _, e', _⟩ := O'.ns; ⟨o, e'⟩
  refine I.write (x := a) (e := dx) (by rw [e]; exact True.intro) (.inr ho) (fun b q hb z => (sb.2 b hb).trans z) hd ?_
  refine ⟨by rw [upd_ne O.ne]; exact ho, ?_, O.ne, O'.obj, _, O'.ns, fun g => ?_, fun g hg => ?_⟩
  · have := length_putF f y fs; omega
  · show RelO ((putF f y fs).lookup g) (if g = f then some u else mA g)
    rw [lookup_putF]
    by_cases q : g = f
    · rw [if_pos q, if_pos q]; exact ry
    · rw [if_neg q, if_neg q]; exact r g
  · by_cases q : g = f
    · rw [q]; exact (keys_putF f y fs).1
    · refine (keys_putF f y fs).2 g (wi g fun z => hg ?_)
      show (if g = f then some u else mA g) = none
      rw [if_neg q]; exact z
theorem Inv.made (I : Inv X pins σ H s) : Inv X pins σ (upd (upd H s.heap.objs.size (.own (s.heap.objs.size + 1))) (s.heap.objs.size + 1) (.ins C s.heap.objs.size []))
    { s with heap := (s.heap.push PySem.W.emptyDict).push (PySem.W.instObj C s.heap.objs.size) } := by
  have e1 : (s.heap.push PySem.W.emptyDict).get? s.heap.objs.size = some PySem.W.emptyDict := Heap.get?_push_size s.heap rfl
  have e2 : ((s.heap.push PySem.W.emptyDict).push (PySem.W.instObj C s.heap.objs.size)).get? (s.heap.objs.size + 1) = some (PySem.W.instObj C s.heap.objs.size) := by
    have := Heap.get?_push_size (s.heap.push PySem.W.emptyDict) (o := PySem.W.instObj C s.heap.objs.size) rfl
    rwa [Heap.size_push] at this
  have e3 : (s.heap.push PySem.W.emptyDict).Ns s.heap.objs.size (fun _ => none) := ⟨PySem.W.emptyDict, #[], _, e1, rfl, (fun e he => absurd he (by simp)), fun _ => rfl⟩
  have I1 := I.laid (a := s.heap.objs.size) (o := .own (s.heap.objs.size + 1)) (h' := s.heap.push PySem.W.emptyDict) (t' := s.toks) (fun b u q => Heap.get?_push_of_some _ q) (Nat.le_refl _) ⟨_, e1⟩
  refine I1.laid (a := s.heap.objs.size + 1) (o := .ins C s.heap.objs.size []) (t' := s.toks) (fun b u q => Heap.get?_push_of_some _ q) (Nat.le_of_eq (Heap.size_push _ _)) ?_
  have ne : s.heap.objs.size ≠ s.heap.objs.size + 1 := Nat.ne_of_lt (Nat.lt_succ_self _)
  refine ⟨by rw [upd_ne ne, upd_same], Nat.zero_le _, ne, e2, fun _ => none, (Heap.Ns1.of_empty e3).at fun o q => Heap.get?_push_of_some _ q, fun _ => True.intro, fun y hy => absurd rfl hy⟩
theorem attr_of {prog : Program} {w : World} {env : Env} {e : Expr} {f : Str} {pos : Pos} {s : Shared} {Q : Value → Shared → Prop} (hb : attributeBase e f env (eval e env) = eval e env)
    (h : wpAny (model prog w) A (eval e env) (fun o s₁ => wpAny (model prog w) A (getAttr o f true) Q E s₁) E s) : wpAny (model prog w) A (eval (.Attribute e f pos) env) Q E s :=
  Attribute_any_ h (by rw [arm_eval_Attribute, hb])
end
def tFld (K : PySem.W.Frag) (ta : TE) (f : Str) : TE := fun σ H Q => ta σ H fun x H1 => ∃ a C dx fs v, x = .ref a ∧ H1 a = some (.ins C dx fs) ∧ Cls K C ∧ NoAttr K C f ∧ fs.lookup f = some v ∧ Q v H1
def sFld (K : PySem.W.Frag) (ta tv : TE) (f : Str) : TS := fun D σ H => tv σ H fun y H1 => ta σ H1 fun x H2 => ∃ a C dx fs, x = .ref a ∧ H2 a = some (.ins C dx fs) ∧ Cls K C ∧ NoAttr K C f ∧ fs.length < 1000 ∧
  D.nx σ (upd H2 a (.ins C dx (putF f y fs)))
section
variable {X : Cx} {o e value : Expr} {f : Str} {pos pos' tpos : Pos} {ta tv : TE}
theorem pe_fld (he : PE X e ta) (hb : attributeBase e f X.env (eval e X.env) = eval e X.env) : PE X (.Attribute e f pos) (tFld X.K ta f) := by
  intro pins s σ H Q I h
  refine attr_of hb (thn (he pins s σ H _ I h) fun u s1 ⟨x, H1, I1, rx, a, C, dx, fs, v, ex, ea, c, n, l, q⟩ => ?_)
  subst ex
  obtain rfl : u = Value.ref a := rx
  exact getattr_ok I1 ea c n l fun u' s2 I2 ru => ⟨v, H1, I2, ru, q⟩
theorem ps_fld (ha : PE X o ta) (hv : PE X value tv) (hs : swapsWith value (some (.Attribute o f pos')) pos.line X.env = pure false) : PS X (.Assign [.Attribute o f pos'] value pos) (sFld X.K ta tv f) := by
  intro pins s σ H D I h
  refine plainObj_wpAny_Assign_Attribute (thn (hv pins s σ H _ I h) fun u s1 ⟨y, H1, I1, ry, q⟩ => thn (ha pins s1 σ H1 _ I1 q) fun ov s2 ⟨x, H2, I2, rx, a, C, dx, fs, ex, ea, c, n, l, q2⟩ => ?_) hs
  subst ex
  obtain rfl : ov = Value.ref a := rx
  exact setattr_ok I2 ea c n l ry fun s3 I3 => ⟨σ, _, I3, q2⟩
end
section
variable {X : Cx} {pins : List (Addr × Obj)} {σ : St} {H : Hp} {s : Shared} {A : Around} {E : Value → Shared → Prop} {Q : Value → Shared → Prop} {c : Value} {b : Bool}
end
end L2
namespace L2
open PySem PySem.Spec PyProof.Rows
structure Room (k : Nat) (A : Around) : Prop where
  hd : A.handled = none
  dp : A.depth + 3 * k + 5 < recursionLimit
  un : A.units + 16 * k + 200 < cLine
theorem Room.mono {j k : Nat} {A : Around} (r : Room k A) (h : j ≤ k) : Room j A := ⟨r.hd, by have := r.dp; omega, by have := r.un; omega⟩
theorem Room.deeper {k : Nat} {A : Around} (r : Room (k + 1) A) (env : Env) : Room k (A.deeper env) :=
  ⟨r.hd, by have := r.dp; show A.depth + 1 + 3 * k + 5 < _; omega, by have := r.un; show A.units + 3 + 16 * k + 200 < _; omega⟩
theorem make_depth {A : Around} {C : Addr} {us : List Value} {kw : List (Str × Value)} : (A.under (.builtin "type.__call__" ⟨.ref C :: us, kw⟩)).depth = A.depth + 1 := by
  first | rfl | simp [Around.under, Code.weight, Code.isCreation, Code.isGuard, Code.isCaller, Code.frames, Code.isFrame, guardIds]
theorem make_units {A : Around} {C : Addr} {us : List Value} {kw : List (Str × Value)} : (A.under (.builtin "type.__call__" ⟨.ref C :: us, kw⟩)).units = A.units + 1 := by
  first | rfl | simp [Around.under, Code.cUnits, Code.frames, Code.isFrame]
theorem Room.make {k : Nat} {A : Around} (r : Room (k + 1) A) (C : Addr) (us : List Value) (kw : List (Str × Value)) : Room k (A.under (.builtin "type.__call__" ⟨.ref C :: us, kw⟩)) :=
  ⟨r.hd, by have := r.dp; rw [make_depth]; omega, by have := r.un; rw [make_units]; omega⟩
theorem Room.depth {k : Nat} {A : Around} (r : Room k A) : A.depth < recursionLimit := by have := r.dp; omega
theorem Room.units {k : Nat} {A : Around} (r : Room k A) : A.units + 64 < cLine := by have := r.un; omega
def tNil : TA := fun _ H Q => Q [] H
def tCons (ta : TE) (tr : TA) : TA := fun σ H Q => ta σ H fun x H1 => tr σ H1 fun xs H2 => Q (x :: xs) H2
section
variable {X : Cx} {e : Expr} {es : List Expr} {te : TE} {t : TA} {pos : Pos}
theorem pa_nil : PA X [] tNil := fun _ _ _ _ H Q I h => Calls.spliced_nil ⟨[], H, I, .nil, h⟩
theorem pa_cons (ha : PE X e te) (hr : PA X es t) (hs : starEach (e :: es) X.env = (false, eval e X.env) :: starEach es X.env := by rfl) : PA X (e :: es) (tCons te t) := by
  intro pos pins s σ H Q I h
  rw [hs]
  show wpAny _ _ (spliced ((false, eval e X.env) :: backTo pos (starEach es X.env))) _ _ s
  refine Calls.spliced_cons (thn (ha pins s σ H _ I h) fun u s1 ⟨x, H1, I1, r1, q1⟩ => ?_)
  exact thn (hr pos pins s1 σ H1 _ I1 q1) fun us s2 ⟨xs, H2, I2, r2, q2⟩ => ⟨x :: xs, H2, I2, .cons r1 r2, q2⟩
def tTup (t : TA) : TE := fun σ H Q => t σ H fun xs H1 => xs.length ≤ sizeLine ∧ ∀ p, H1 p = none → Q (.ref p) (upd H1 p (.tup xs))
def tLst (t : TA) : TE := fun σ H Q => t σ H fun xs H1 => xs.length ≤ sizeLine ∧ ∀ p, H1 p = none → Q (.ref p) (upd H1 p (.lst xs))
theorem pe_tup {x1} (h : PA X es t) : PE X (.Tuple es x1 pos) (tTup t) := by
  intro pins s σ H Q I hq
  refine wpAny_Tuple_spliced (thn (h pos pins s σ H _ I hq) fun us s1 ⟨xs, H1, I1, r, z, q⟩ => ⟨by rw [← r.length]; exact z, ?_⟩)
  have hf : H1 s1.heap.objs.size = none := I1.hok.fresh (Nat.le_refl _)
  refine ⟨.ref s1.heap.objs.size, upd H1 s1.heap.objs.size (.tup xs), I1.laid (t' := s1.toks) (fun b u e => Heap.get?_push_of_some _ e) (Nat.le_refl _) ?_, rfl, q _ hf⟩
  exact ⟨z, us, r, ⟨_, Heap.get?_push_size _ rfl, rfl, _, rfl⟩⟩
theorem pe_lst (h : PA X es t) : PE X (.List es pos) (tLst t) := by
  intro pins s σ H Q I hq
  refine wpAny_List_spliced (thn (h pos pins s σ H _ I hq) fun us s1 ⟨xs, H1, I1, r, z, q⟩ => ⟨by rw [← r.length]; exact z, ?_⟩)
  have hf : H1 s1.heap.objs.size = none := I1.hok.fresh (Nat.le_refl _)
  refine ⟨.ref s1.heap.objs.size, upd H1 s1.heap.objs.size (.lst xs), I1.laid (t' := s1.toks) (fun b u e => Heap.get?_push_of_some _ e) (Nat.le_refl _) ?_, rfl, q _ hf⟩
  exact ⟨z, us, 0, r, Heap.get?_push_size _ rfl⟩
end
abbrev Sp := List V → Hp → VK → XK → Prop
abbrev CXT := List Env → Hp → Shared → XK → Value → Shared → Prop
structure Env0 (P : Program) (w : World) (K : PySem.W.Frag) (mg : Str → Option Value) (base : Heap) (A : Around) (outer : List Env) (s : Shared) (H : Hp) : Prop where
  frames : A.frames = some outer
  mod : Mod K mg base
  bs : ∀ b o, base.get? b = some o → s.heap.get? b = some o ∧ H b = none
  bsz : base.objs.size ≤ s.heap.objs.size
  funs : s.heap.FunFrames base outer
  frf : ∀ b ∈ frs outer, H b = none
  hok : HOk P w H s.heap
  bare : AllBare s.gens
def CE (outer : List Env) (P : Program) (w : World) (H : Hp) (s : Shared) (Q : VK) (u : Value) (s' : Shared) : Prop :=
  ∃ v H', s'.os = s.os ∧ AllBare s'.gens ∧ Un (frs outer) [] H H' s.heap s'.heap ∧ HOk P w H' s'.heap ∧ RelV v u ∧ Q v H'
def CR (CX : CXT) (outer : List Env) (P : Program) (w : World) (H : Hp) (s : Shared) (Q : VK) (E : XK) (r : Result) (s' : Shared) : Prop :=
  match r with
  | .ok (.ret u) => CE outer P w H s Q u s'
  | .ok _ => False
  | .error e => CX outer H s E e s'
structure FnOk (P : Program) (w : World) (K : PySem.W.Frag) (mg : Str → Option Value) (base : Heap) (CX : CXT) (k : Nat) (f : Addr) (fd : FuncData) (ps : List Str) (sp : Sp) : Prop where
  len : ∀ vs H Q E, sp vs H Q E → vs.length = ps.length
  run : ∀ (A : Around) (outer : List Env) (s : Shared) (H : Hp) (args : Args) (us : List Value) (vs : List V) (Q : VK) (E : XK), Room k A → Env0 P w K mg base A outer s H → BindsTo s fd args (ps.zip us) → Vals vs us → sp vs H Q E →
    codeAny (model P w) A (.call (.ref f) args) (CR CX outer P w H s Q E) s
theorem Env0.make {P : Program} {w : World} {K : PySem.W.Frag} {mg : Str → Option Value} {base : Heap} {A : Around} {outer : List Env} {s : Shared} {H : Hp} (e : Env0 P w K mg base A outer s H) (C : Addr) (us : List Value) (kw : List (Str × Value)) :
    Env0 P w K mg base (A.under (.builtin "type.__call__" ⟨.ref C :: us, kw⟩)) outer s H := ⟨by first | exact e.frames | (simpa [Around.under, Code.envs, Code.isFrame, pushEnvs] using e.frames), e.mod, e.bs, e.bsz, e.funs, e.frf, e.hok, e.bare⟩
section
variable {X : Cx} {pins : List (Addr × Obj)} {σ : St} {H : Hp} {s s' : Shared}
theorem Inv.env0 (I : Inv X pins σ H s) : Env0 X.prog X.w X.K X.mg X.base X.A X.stack s H :=
  ⟨I.ok.frames, I.ok.mod, I.bs, Nat.le_trans I.ok.bsz I.sz, I.stack, I.stkFree, I.hok, I.bare⟩
theorem Inv.after {Q : VK} {u : Value} (I : Inv X pins σ H s) (h : CE X.stack X.prog X.w H s Q u s') : EP X pins σ Q u s' := by
  obtain ⟨v, H', os, bare, un, hok, r, q⟩ := h
  obtain ⟨hh, g, d, t, os'⟩ := s'
  obtain rfl : os' = s.os := os
  exact ⟨v, H', I.call (h' := hh) (g' := g) (d' := d) (t' := t) (ch := []) un hok bare (fun b z => absurd z (by simp)), r, q⟩
end
def tCall (sp : Sp) (dvs : List V) (E : XK) (t : TA) : TE := fun σ H Q => t σ H fun vs H1 => sp (vs ++ dvs) H1 Q E
def tMeth (C : Addr) (m : Str) (sp : Sp) (dvs : List V) (E : XK) (ta : TE) (t : TA) : TE := fun σ H Q => ta σ H fun x H1 => ∃ a dx fs, x = .ref a ∧ H1 a = some (.ins C dx fs) ∧ fs.lookup m = none ∧
  t σ H1 fun vs H2 => sp (x :: (vs ++ dvs)) H2 Q E
def tMake (C : Addr) (sp : Sp) (dvs : List V) (E : XK) (t : TA) : TE := fun σ H Q => t σ H fun vs H1 => ∀ x dx, H1 x = none → H1 dx = none → dx ≠ x →
  sp (.ref x :: (vs ++ dvs)) (upd (upd H1 dx (.own x)) x (.ins C dx [])) (fun v H2 => v = .non ∧ Q (.ref x) H2) E
def Binds (K : PySem.W.Frag) (fd : FuncData) (ps : List Str) (ds : List Value) : Prop :=
  ∀ (s : Shared) (us : List Value), K.In s.heap → (us ++ ds).length = ps.length → BindsTo s fd ⟨us, []⟩ (ps.zip (us ++ ds))
theorem Binds.all {K : PySem.W.Frag} {fd : FuncData} {ps : List Str} (h : ∀ us : List Value, us.length = ps.length → bindArgs fd ⟨us, []⟩ = pure (ps.zip us)) : Binds K fd ps [] := fun s us _ hl => by
  rw [List.append_nil] at hl ⊢
  exact .of_eq (h us hl)
def Passes (CX : CXT) (X : Cx) (E : XK) : Prop := ∀ (pins : List (Addr × Obj)) (σ : St) (H : Hp) (s : Shared) (e : Value) (s' : Shared), Inv X pins σ H s → CX X.stack H s E e s' → X.xe e s'
section
variable {X : Cx} {CX : CXT} {k : Nat} {f C : Addr} {fd : FuncData} {ps : List Str} {sp : Sp} {dvs : List V} {ds : List Value} {E : XK} {x m : Str} {p pos apos : Pos} {e o : Expr} {es : List Expr} {ta : TE} {t : TA}
theorem run_fn {pins : List (Addr × Obj)} {σ : St} {H : Hp} {s : Shared} {Q : VK} {us : List Value} {vs : List V} (F : FnOk X.prog X.w X.K X.mg X.base CX k f fd ps sp) (hr : Room k X.A) (hb : Binds X.K fd ps ds) (hd : Vals dvs ds) (hx : Passes CX X E)
    (I : Inv X pins σ H s) (r : Vals vs us) (h : sp (vs ++ dvs) H Q E) : wpAny (model X.prog X.w) X.A (call (.ref f) us) (EP X pins σ Q) X.xe s := by
  have r2 : Vals (vs ++ dvs) (us ++ ds) := r.append hd
  have hl : (us ++ ds).length = ps.length := by rw [← r2.length]; exact F.len _ _ _ _ h
  refine wpAny_call (codeAny_mono (F.run X.A X.stack s H ⟨us, []⟩ (us ++ ds) (vs ++ dvs) Q E hr I.env0 (hb s us I.kIn hl) r2 h) fun r s' hq => ?_)
  cases r with
  | error e => exact hx pins σ H s e s' I hq
  | ok fl =>
    cases fl with
    | ret u => exact I.after hq
    | next => exact False.elim hq
    | brk => exact False.elim hq
    | cont => exact False.elim hq
theorem pe_call (F : FnOk X.prog X.w X.K X.mg X.base CX k f fd ps sp) (hr : Room k X.A) (hg : Gl X x) (hm : X.mg x = some (.ref f)) (hk : PySem.W.keepIn X.K (.ref f) = true) (hb : Binds X.K fd ps ds) (hd : Vals dvs ds) (hx : Passes CX X E)
    (ha : PA X (e :: es) t) (hdb : (x == ("__debug__" : Str)) = false := by decide) (he : starEach (e :: es) X.env = (false, eval e X.env) :: starEach es X.env := by rfl) (hpl : (backTo pos (starEach es X.env)).any (·.1) = false := by rfl) :
    PE X (.Call (.Name x p) (e :: es) [] pos) (tCall sp dvs E t) := by
  intro pins s σ H Q I h
  refine wpAny_Call_Name_kw (ld_glob I hg hm ?_ hdb)
  refine PySem.W.callWith_K (h₀ := X.base) I.ok.mod.kin hk (thn (ha pos pins s σ H _ I h) fun us s1 ⟨vs, H1, I1, r, q⟩ => ⟨I1.kIn, ?_⟩) he hpl
  exact run_fn F hr hb hd hx I1 r q
theorem pe_call0 (F : FnOk X.prog X.w X.K X.mg X.base CX k f fd ps sp) (hr : Room k X.A) (hg : Gl X x) (hm : X.mg x = some (.ref f)) (hk : PySem.W.keepIn X.K (.ref f) = true) (hb : Binds X.K fd ps ds) (hd : Vals dvs ds) (hx : Passes CX X E)
    (hdb : (x == ("__debug__" : Str)) = false := by decide) : PE X (.Call (.Name x p) [] [] pos) (tCall sp dvs E tNil) := by
  intro pins s σ H Q I h
  refine wpAny_Call_Name_kw (ld_glob I hg hm ?_ hdb)
  exact PySem.W.callWith_K0 I.kIn hk (run_fn (us := []) F hr hb hd hx I .nil h)
theorem pe_meth {pl : Sem Bool} (he : PE X o ta) (c : Cls X.K C) (hm : Meth X.K C m f) (F : FnOk X.prog X.w X.K X.mg X.base CX k f fd ps sp) (hr : Room k X.A) (hb : Binds X.K fd ps ds) (hd : Vals dvs ds) (hx : Passes CX X E) (ha : PA X (e :: es) t)
    (hst : starEach (e :: es) X.env = (false, eval e X.env) :: starEach es X.env := by rfl) (hpl : (backTo pos (starEach es X.env)).any (·.1) = false := by rfl)
    (ht : eval (.Call (.Attribute o m apos) (e :: es) [] pos) X.env = (do
      let ov ← eval o X.env
      standAt apos.atName
      let (f, first) ← holding [ov] (getMethod ov m pl)
      callWith pos f first (backTo pos (starEach (e :: es) X.env)) (backToKw pos (keywordEach [] X.env))) := by rfl) :
    PE X (.Call (.Attribute o m apos) (e :: es) [] pos) (tMeth C m sp dvs E ta t) := by
  intro pins s σ H Q I h
  refine PySem.W.methodCall_KW (pl := pl) (thn (he pins s σ H _ I h) fun u s1 ⟨x, H1, I1, rx, a, dx, fs, ex, ea, l, q⟩ => ?_) ht
  subst ex
  obtain rfl : u = Value.ref a := rx
  refine getmeth_ok I1 ea c hm l ?_
  refine PySem.W.callWith_K (first := [.ref a]) (h₀ := X.base) I.ok.mod.kin hm.kp (thn (ha pos pins s1 σ H1 _ I1 q) fun us s2 ⟨vs, H2, I2, r, q2⟩ => ⟨I2.kIn, ?_⟩) hst hpl
  exact run_fn (us := .ref a :: us) (vs := .ref a :: vs) F hr hb hd hx I2 (.cons rfl r) q2
theorem pe_meth0 {pl : Sem Bool} (he : PE X o ta) (c : Cls X.K C) (hm : Meth X.K C m f) (F : FnOk X.prog X.w X.K X.mg X.base CX k f fd ps sp) (hr : Room k X.A) (hb : Binds X.K fd ps ds) (hd : Vals dvs ds) (hx : Passes CX X E)
    (ht : eval (.Call (.Attribute o m apos) [] [] pos) X.env = (do
      let ov ← eval o X.env
      standAt apos.atName
      let (f, first) ← holding [ov] (getMethod ov m pl)
      callWith pos f first (backTo pos (starEach [] X.env)) (backToKw pos (keywordEach [] X.env))) := by rfl) :
    PE X (.Call (.Attribute o m apos) [] [] pos) (tMeth C m sp dvs E ta tNil) := by
  intro pins s σ H Q I h
  refine PySem.W.methodCall_KW (pl := pl) (thn (he pins s σ H _ I h) fun u s1 ⟨x, H1, I1, rx, a, dx, fs, ex, ea, l, q⟩ => ?_) ht
  subst ex
  obtain rfl : u = Value.ref a := rx
  refine getmeth_ok I1 ea c hm l ?_
  exact PySem.W.callWith_K0 (first := [.ref a]) I1.kIn hm.kp (run_fn (us := [.ref a]) (vs := [.ref a]) F hr hb hd hx I1 (.cons rfl .nil) q)
structure Mk (K : PySem.W.Frag) (C f : Addr) : Prop where
  makes : PySem.W.makesIn K C = true
  init : PySem.W.findIn K (.ref C) "__init__" = some (some (.ref f))
  fn : PySem.W.isFn K (.ref f) = true
  kp : PySem.W.keepIn K (.ref C) = true
theorem run_make {pins : List (Addr × Obj)} {σ : St} {H : Hp} {s : Shared} {Q : VK} {us : List Value} {vs : List V} (M : Mk X.K C f) (F : FnOk X.prog X.w X.K X.mg X.base CX k f fd ps sp) (hr : Room (k + 1) X.A) (hb : Binds X.K fd ps ds) (hd : Vals dvs ds)
    (hx : Passes CX X E) (I : Inv X pins σ H s) (r : Vals vs us)
    (h : ∀ x dx, H x = none → H dx = none → dx ≠ x → sp (.ref x :: (vs ++ dvs)) (upd (upd H dx (.own x)) x (.ins C dx [])) (fun v H2 => v = .non ∧ Q (.ref x) H2) E) :
    wpAny (model X.prog X.w) X.A (call (.ref C) us) (EP X pins σ Q) X.xe s := by
  have hq := h (s.heap.objs.size + 1) s.heap.objs.size (I.hok.fresh (Nat.le_succ _)) (I.hok.fresh (Nat.le_refl _)) (Nat.ne_of_lt (Nat.lt_succ_self _))
  have I2 := Inv.made (C := C) I
  have r2 : Vals (V.ref (s.heap.objs.size + 1) :: (vs ++ dvs)) (Value.ref (s.heap.objs.size + 1) :: (us ++ ds)) := .cons rfl (r.append hd)
  have hl : (Value.ref (s.heap.objs.size + 1) :: us ++ ds).length = ps.length := by
    have e := r2.length
    rw [F.len _ _ _ _ hq] at e
    exact e.symm
  refine wpAny_call (make_map (f := f) I.kIn M.makes M.init (beq_iff_eq.mp M.fn) (codeAny_mono (F.run _ X.stack _ _ ⟨Value.ref (s.heap.objs.size + 1) :: us, []⟩ (Value.ref (s.heap.objs.size + 1) :: (us ++ ds)) _ _ E (hr.make C us [])
    (I2.env0.make C us []) (hb _ (Value.ref (s.heap.objs.size + 1) :: us) I2.kIn hl) r2 hq) fun r s' hq' => ?_))
  cases r with
  | error e => exact hx pins σ _ _ e s' I2 hq'
  | ok fl =>
    cases fl with
    | ret u =>
      obtain ⟨v, H', I3, rv, ev, q3⟩ := I2.after hq'
      subst ev
      exact ⟨rv, ⟨V.ref (s.heap.objs.size + 1), H', I3, rfl, q3⟩⟩
    | next => exact False.elim hq'
    | brk => exact False.elim hq'
    | cont => exact False.elim hq'
theorem pe_make (M : Mk X.K C f) (F : FnOk X.prog X.w X.K X.mg X.base CX k f fd ps sp) (hr : Room (k + 1) X.A) (hg : Gl X x) (hm : X.mg x = some (.ref C)) (hb : Binds X.K fd ps ds) (hd : Vals dvs ds) (hx : Passes CX X E)
    (ha : PA X (e :: es) t) (hdb : (x == ("__debug__" : Str)) = false := by decide) (he : starEach (e :: es) X.env = (false, eval e X.env) :: starEach es X.env := by rfl) (hpl : (backTo pos (starEach es X.env)).any (·.1) = false := by rfl) :
    PE X (.Call (.Name x p) (e :: es) [] pos) (tMake C sp dvs E t) := by
  intro pins s σ H Q I h
  refine wpAny_Call_Name_kw (ld_glob I hg hm ?_ hdb)
  refine PySem.W.callWith_K (h₀ := X.base) I.ok.mod.kin M.kp (thn (ha pos pins s σ H _ I h) fun us s1 ⟨vs, H1, I1, r, q⟩ => ⟨I1.kIn, ?_⟩) he hpl
  exact run_make M F hr hb hd hx I1 r q
theorem pe_make0 (M : Mk X.K C f) (F : FnOk X.prog X.w X.K X.mg X.base CX k f fd ps sp) (hr : Room (k + 1) X.A) (hg : Gl X x) (hm : X.mg x = some (.ref C)) (hb : Binds X.K fd ps ds) (hd : Vals dvs ds) (hx : Passes CX X E)
    (hdb : (x == ("__debug__" : Str)) = false := by decide) : PE X (.Call (.Name x p) [] [] pos) (tMake C sp dvs E tNil) := by
  intro pins s σ H Q I h
  refine wpAny_Call_Name_kw (ld_glob I hg hm ?_ hdb)
  exact PySem.W.callWith_K0 I.kIn M.kp (run_make (us := []) M F hr hb hd hx I .nil h)
end
section
variable {X : Cx} {CX : CXT} {k : Nat} {f C : Addr} {fd : FuncData} {ps ks : List Str} {sp : Sp} {E : XK} {x m : Str} {p pos apos kpos : Pos} {e o : Expr} {es : List Expr} {kws : List Keyword} {te ta : TE} {t tk : TA} {nm : Option Str}
variable {g : List Value → List Value → List Value} {gV : List V → List V → List V}
end
structure FnScope (N P : List Str) (sc : Scope) : Prop where
  kind : sc.kind = .function
  co : sc.isCoroutine = false
  gen : sc.isGenerator = false
  nd : N.Nodup
  pre : N.take P.length = P
  par : ∀ x ∈ P, sc.names.lookup x = some .local ∨ sc.names.lookup x = some .cell
  nofree : ∀ y ∈ sc.names, y.2 ≠ .free
theorem bindL_out {kindOf : Str → Option NameKind} {x : Str} : ∀ {binds : List (Str × Value)} {m : Str → Option Value}, (∀ v, (x, v) ∉ binds) → bindL kindOf binds m x = m x
  | [], _, _ => rfl
  | (n, v) :: r, m, h => by
    unfold bindL
    rw [bindL_out fun w hw => h w (List.mem_cons_of_mem _ hw)]
    split
    · have : x ≠ n := by rintro rfl; exact h v List.mem_cons_self
      simp [this]
    · rfl
theorem bindC_out {kindOf : Str → Option NameKind} {x : Str} : ∀ {binds : List (Str × Value)} {m : Str → Option Value}, (∀ v, (x, v) ∉ binds) → bindC kindOf binds m x = m x
  | [], _, _ => rfl
  | (n, v) :: r, m, h => by
    unfold bindC
    rw [bindC_out fun w hw => h w (List.mem_cons_of_mem _ hw)]
    split
    · rfl
    · have : x ≠ n := by rintro rfl; exact h v List.mem_cons_self
      simp [this]
theorem bindL_get {kindOf : Str → Option NameKind} {x : Str} {v : Value} : ∀ {P : List Str} {vs : List Value} {i : Nat} {m : Str → Option Value}, P.Nodup → P[i]? = some x → vs[i]? = some v → kindOf x = some .local →
    bindL kindOf (P.zip vs) m x = some v
  | [], _, _, _, _, h, _, _ => by simp at h
  | _ :: _, [], _, _, _, _, h, _ => by simp at h
  | p :: P, w :: vs, 0, m, nd, h1, h2, hk => by
    simp at h1 h2; subst h1; subst h2
    show bindL kindOf ((p, w) :: P.zip vs) m p = _
    unfold bindL
    rw [bindL_out fun v hv => (List.nodup_cons.mp nd).1 (List.of_mem_zip hv).1, if_pos hk]
    simp
  | p :: P, w :: vs, i + 1, m, nd, h1, h2, hk => by
    show bindL kindOf ((p, w) :: P.zip vs) m x = _
    unfold bindL
    exact bindL_get (i := i) (List.nodup_cons.mp nd).2 (by simpa using h1) (by simpa using h2) hk
theorem bindC_get {kindOf : Str → Option NameKind} {x : Str} {v : Value} : ∀ {P : List Str} {vs : List Value} {i : Nat} {m : Str → Option Value}, P.Nodup → P[i]? = some x → vs[i]? = some v → kindOf x ≠ some .local →
    bindC kindOf (P.zip vs) m x = some v
  | [], _, _, _, _, h, _, _ => by simp at h
  | _ :: _, [], _, _, _, _, h, _ => by simp at h
  | p :: P, w :: vs, 0, m, nd, h1, h2, hk => by
    simp at h1 h2; subst h1; subst h2
    show bindC kindOf ((p, w) :: P.zip vs) m p = _
    unfold bindC
    rw [bindC_out fun v hv => (List.nodup_cons.mp nd).1 (List.of_mem_zip hv).1, if_neg hk]
    simp
  | p :: P, w :: vs, i + 1, m, nd, h1, h2, hk => by
    show bindC kindOf ((p, w) :: P.zip vs) m x = _
    unfold bindC
    exact bindC_get (i := i) (List.nodup_cons.mp nd).2 (by simpa using h1) (by simpa using h2) hk
def start (N : List Str) (vs : List V) : St := vs.map some ++ List.replicate (N.length - vs.length) none
def cxOf (CX : CXT) (P : Program) (w : World) (K : PySem.W.Frag) (mg : Str → Option Value) (base : Heap) (N : List Str) (qual : Str) (scope : Scope) (f : Addr) (cd : Value) (A : Around) (outer : List Env) (s : Shared) (H : Hp) (E : XK) : Cx where
  prog := P
  w := w
  K := K
  mg := mg
  base := base
  A := A.deeper (envOfC qual scope s.heap.objs.size f cd)
  N := N
  s_0 := s
  H_0 := H
  env := envOfC qual scope s.heap.objs.size f cd
  outer := outer
  stack := envOfC qual scope s.heap.objs.size f cd :: outer
  ex := []
  calm := true
  fn := fun _ => true
  pn := []
  xe := fun e s' => wpAny (model P w) (A.deeper (envOfC qual scope s.heap.objs.size f cd)) (leaving (envOfC qual scope s.heap.objs.size f cd) e) (fun _ s'' => CX outer H s E e s'') (fun e' s'' => CX outer H s E e' s'') s'
theorem cell_has {sc : Scope} {n : Nat} {x : Str} (h : sc.names.lookup x = some .cell) : ∃ c, (cellsFrom n sc.names []).lookup x = some c := by
  have q := PySem.W.cellsFrom_some sc.names n [] (.inl h)
  exact Option.isSome_iff_exists.mp q
theorem inv_start {CX : CXT} {P : Program} {w : World} {K : PySem.W.Frag} {mg : Str → Option Value} {base : Heap} {N ps : List Str} {qual : Str} {scope : Scope} {f : Addr} {cd : Value} {A : Around} {outer : List Env} {s s1 : Shared} {H : Hp} {E : XK} {us : List Value} {vs : List V}
    (S : FnScope N ps scope) (hd : A.handled = none) (e0 : Env0 P w K mg base A outer s H) (hl : vs.length = ps.length) (r : Vals vs us)
    (x : InCallC s s.heap.objs.size (bindL (envOfC qual scope s.heap.objs.size f cd).kindOf (ps.zip us) fun _ => none) (cellsFrom (s.heap.objs.size + 1) scope.names []) (bindC (envOfC qual scope s.heap.objs.size f cd).kindOf (ps.zip us) fun _ => none) s1) :
    Inv (cxOf CX P w K mg base N qual scope f cd A outer s H E) [] (start N vs) H s1 := by
  have hpl : ps.length ≤ N.length := by have := congrArg List.length S.pre; rw [List.length_take] at this; omega
  obtain ⟨h1, tk, rfl, hk⟩ := x.done
  have noA : ∀ b : Addr, b ∉ (cxOf CX P w K mg base N qual scope f cd A outer s H E).ex := fun b z => absurd (show b ∈ ([] : List Addr) from z) (by simp)
  refine ⟨⟨e0.mod, S.kind, rfl, rfl, Nat.le_refl _, fun y z c h1 h2 => ?_, fun y hy => ?_, fun y c _ h => ?_, fun _ => hd, Around.frames_deeper e0.frames, .inr ⟨rfl, rfl⟩, fun b z => absurd z (noA b), e0.bs, e0.bsz, fun b _ _ => noA b, fun b z => absurd z (noA b), e0.funs, e0.frf⟩,
    rfl, e0.bare, Un.kept hk, ⟨_, x.toInCall.ns, fun i y v h1 h2 h3 => ?_⟩, fun y c h => ⟨_, x.cell y c h⟩, e0.hok.fresh (Nat.le_refl _), fun y c h => ?_, fun p hp => absurd (show p ∈ ([] : List (Addr × Obj)) from hp) (by simp), e0.hok.kept hk, ?_⟩
  · exact name_of_addr x.apart (PySem.mem_of_lookup h1) (PySem.mem_of_lookup h2)
  · have hy : scope.names.lookup y = some .cell ∨ scope.names.lookup y = some .free := hy
    rcases hy with hy | hy
    · exact cell_has hy
    · exact absurd rfl (S.nofree _ (PySem.mem_of_lookup hy))
  · exact Nat.le_of_lt (x.above y c (PySem.mem_of_lookup h))
  · have hi : i < vs.length := by
      unfold start at h2
      by_cases hi : i < vs.length
      · exact hi
      · rw [List.getElem?_append_right (by simpa using hi)] at h2
        rw [List.getElem?_replicate] at h2
        split at h2 <;> cases h2
    have ha : vs[i]? = some v := by
      unfold start at h2
      rw [List.getElem?_append_left (by simpa using hi), List.getElem?_map] at h2
      cases e : vs[i]? with
      | none => rw [e] at h2; cases h2
      | some a => rw [e] at h2; cases h2; rfl
    obtain ⟨u, hu, rv⟩ := r.get ha
    have hp : ps[i]? = some y := by
      rw [← S.pre, List.getElem?_take_of_lt (by omega)]; exact h1
    have ndP : ps.Nodup := by rw [← S.pre]; exact S.nd.sublist (List.take_sublist _ _)
    refine ⟨u, rv, ?_⟩
    rcases S.par y (List.mem_of_getElem? hp) with k | k
    · exact .inl ⟨k, bindL_get ndP hp hu k⟩
    · obtain ⟨c, e⟩ := cell_has (n := s.heap.objs.size + 1) k
      refine .inr ⟨.inl k, c, e, ?_⟩
      have q := x.cell y c e
      rw [bindC_get ndP hp hu (by show scope.names.lookup y ≠ _; rw [k]; decide)] at q
      exact q
  · exact e0.hok.fresh (Nat.le_of_lt (x.above y c (PySem.mem_of_lookup h)))
  · unfold start
    show _ = N.length
    rw [List.length_append, List.length_map, List.length_replicate]
    omega
theorem fn_of {CX : CXT} {P : Program} {w : World} {K : PySem.W.Frag} {mg : Str → Option Value} {base : Heap} {k : Nat} {f : Addr} {name qual : Str} {params : Arguments} {body : List Stmt} {scope : Scope} {dV kV doc pm cdv ct oc : Value} {an od : Option Addr}
    {osl : Array (Option Value)} {N ps : List Str} {sp : Sp} (lk : K.lookup f = some ⟨oc, od, .func (PySem.W.fnOf name qual params body scope dV kV doc pm an cdv ct), osl⟩) (hcd : PySem.W.codeIn K cdv qual = true) (S : FnScope N ps scope)
    (len : ∀ vs H Q E, sp vs H Q E → vs.length = ps.length)
    (hbody : ∀ (A : Around) (outer : List Env) (s : Shared) (H : Hp) (vs : List V) (Q : VK) (E : XK), Room k (A.deeper (envOfC qual scope s.heap.objs.size f cdv)) → sp vs H Q E →
      ∃ t, PSs (cxOf CX P w K mg base N qual scope f cdv A outer s H E) body t ∧ t { nx := fun _ H' => Q .non H', rt := Q } (start N vs) H) :
    FnOk P w K mg base CX (k + 1) f (PySem.W.fnOf name qual params body scope dV kV doc pm an cdv ct) ps sp := by
  refine ⟨len, fun A outer s H args us vs Q E hr e0 hb r hsp => ?_⟩
  have hl := len _ _ _ _ hsp
  have KX : K.In s.heap := e0.mod.kin.keeps fun b o e => (e0.bs b o e).1
  have lim : s.heap.NoLimit := e0.mod.nolimit.keeps fun b o e => (e0.bs b o e).1
  have hkind : ∀ y ∈ ps.zip us, scope.names.lookup y.1 = some .local ∨ (scope.names.lookup y.1 = some .cell ∧ ((cellsFrom (s.heap.objs.size + 1) scope.names []).lookup y.1).isSome = true) := fun ⟨n, v⟩ hy => by
    rcases S.par n (List.of_mem_zip hy).1 with q | q
    · exact .inl q
    · exact .inr ⟨q, PySem.W.cellsFrom_some _ _ _ (.inl q)⟩
  refine codeAny_call_function hr.depth (KX _ _ lk) rfl S.co S.gen rfl (PySem.W.codeRec_of KX hcd) (hb _ _ _ _ ?_)
  refine wpAny_newFunctionEnv_cells S.kind hkind fun env he s1 x => ?_
  subst he
  refine ⟨lim.keeps x.toInCall.keep, codeAny_func ?_⟩
  obtain ⟨t, ht, hq⟩ := hbody A outer s H vs Q E (hr.deeper _) hsp
  have I : Inv (cxOf CX P w K mg base N qual scope f cdv A outer s H E) [] (start N vs) H s1 := inv_start S hr.hd e0 hl r x
  refine wpAny_mono (ht [] s1 (start N vs) H _ I hq) (fun fl s' hs => ?_) fun e s' hs => hs
  have fin : ∀ {σ' : St} {H' : Hp} {v : V} {u : Value}, Inv (cxOf CX P w K mg base N qual scope f cdv A outer s H E) [] σ' H' s' → RelV v u → Q v H' → CE outer P w H s Q u s' :=
    fun {σ' H' v u} J rv q => ⟨v, H', J.os, J.bare, J.base, J.hok, rv, q⟩
  cases fl with
  | ret u =>
    obtain ⟨v, σ', H', J, rv, q⟩ := hs
    exact fin J rv q
  | next =>
    obtain ⟨σ', H', J, q⟩ := hs
    exact fin (v := V.non) (u := Value.none) J rfl q
  | brk =>
    obtain ⟨_, _, _, q⟩ := hs
    exact False.elim q
  | cont =>
    obtain ⟨_, _, _, q⟩ := hs
    exact False.elim q
end L2
namespace L2
open PySem PySem.Spec PyProof.Rows
section
variable {X : Cx} {x : Str} {p pos : Pos} {e : Expr} {es : List Expr} {t : TA} {id T : String} {r : List V → Hp → VK → Prop}
def tCB (r : List V → Hp → VK → Prop) (t : TA) : TE := fun σ H Q => t σ H fun vs H1 => r vs H1 Q
theorem pe_callB (hc : CallR X (.builtin id) r) (hg : Gl X x) (hm : X.mg x = none) (hv : bootBuiltins x = some (.builtin id)) (ha : PA X (e :: es) t) (hn : x ≠ "__name__" := by decide) (hdb : (x == ("__debug__" : Str)) = false := by decide)
    (he : starEach (e :: es) X.env = (false, eval e X.env) :: starEach es X.env := by rfl) (hpl : (backTo pos (starEach es X.env)).any (·.1) = false := by rfl) : PE X (.Call (.Name x p) (e :: es) [] pos) (tCB r t) := by
  intro pins s σ H Q I h
  refine wpAny_Call_Name_kw (ld_blt I hg hm hv ?_ hn hdb)
  exact PyProof.Rows.callWith_builtin1 (thn (ha pos pins s σ H _ I h) fun us s1 ⟨vs, H1, I1, r1, q1⟩ => hc pins s1 σ H1 vs us Q I1 r1 q1) he hpl
end
end L2
namespace HT
open PySem PyProof.Rows
section
open PySem.SeqAt
open PySem.AutoSeq1 (wpAny_loadPart')
open PySem.MeetsSeq PySem.MeetsSeq2 PySem.MeetsSeq3
end
section
variable {prog : Program} {w : World} {A : Around} {E : Value → Shared → Prop} {s : Shared}
def sIx (n d : Nat) : Option Int → Nat
  | none => d
  | some v => if v < 0 then (v + (n : Int)).toNat else min v.toNat n
theorem sIx_none (n d : Nat) : sIx n d none = d := rfl
theorem sIx_nat (n d k : Nat) : sIx n d (some (k : Int)) = min k n := by
  show (if (k : Int) < 0 then ((k : Int) + (n : Int)).toNat else min (k : Int).toNat n) = min k n
  rw [if_neg (by omega), Int.toNat_natCast]
end
end HT
namespace L2
open PySem PySem.Spec PyProof.Rows
abbrev TO := St → Hp → (Option Int → Hp → Prop) → Prop
def PO (X : Cx) (e : Option Expr) (t : TO) : Prop :=
  ∀ (pins : List (Addr × Obj)) (s : Shared) (σ : St) (H : Hp) (Q : Option Int → Hp → Prop), Inv X pins σ H s → t σ H Q →
    wpAny (model X.prog X.w) X.A (evalPart e X.env) (fun u s' => ∃ o H', Inv X pins σ H' s' ∧ IsPart u o ∧ Q o H') X.xe s
def tNoPart : TO := fun _ H Q => Q none H
def tPart (t : TE) : TO := fun σ H Q => t σ H fun x H1 => ∃ i, x = .int i ∧ Q (some i) H1
section
variable {X : Cx} {e : Expr} {te : TE} {lo hi : Option Expr} {tl th : TO} {pos p2 : Pos}
theorem po_none : PO X none tNoPart := by
  intro pins s σ H Q I h
  rw [evalPart_none]
  exact wpAny_pure ⟨none, H, I, .none, h⟩
theorem po_some (h : PE X e te) : PO X (some e) (tPart te) := by
  intro pins s σ H Q I hw
  rw [evalPart_some]
  refine thn (h pins s σ H _ I hw) fun u s1 ⟨x, H1, I1, r1, q1⟩ => ?_
  obtain ⟨i, rfl, q⟩ := q1
  obtain ⟨t, rfl⟩ := r1
  exact ⟨some i, H1, I1, .int i t, q⟩
def SlR (X : Cx) (r : V → Option Int → Option Int → Hp → VK → Prop) : Prop :=
  ∀ (pins : List (Addr × Obj)) (s : Shared) (σ : St) (H : Hp) (x : V) (v vl vu : Value) (lo hi : Option Int) (sl : Addr) (Q : VK), Inv X pins σ H s → RelV x v → s.heap.IsSliceOf sl vl vu .none → IsPart vl lo → IsPart vu hi → r x lo hi H Q →
    ∃ T id, typeLookup (.type T) "__getitem__" = pure (some (.builtin id)) ∧ s.TypeIs v T ∧ wpAny (model X.prog X.w) X.A (getItem v (.ref sl)) (EP X pins σ Q) X.xe s
def tSl (r : V → Option Int → Option Int → Hp → VK → Prop) (te : TE) (tl th : TO) : TE := fun σ H Q => te σ H fun x H1 => tl σ H1 fun l H2 => th σ H2 fun u H3 => r x l u H3 Q
theorem pe_slice {r : V → Option Int → Option Int → Hp → VK → Prop} (hr : SlR X r) (he : PE X e te) (hl : PO X lo tl) (hu : PO X hi th) : PE X (.Subscript e (.Slice lo hi none p2) pos) (tSl r te tl th) := by
  intro pins s σ H Q I h
  refine Subscript_ (thn (he pins s σ H _ I h) fun v s1 ⟨x, H1, I1, r1, q1⟩ => ?_)
  refine wpAny_Slice (thn (hl pins s1 σ H1 _ I1 q1) fun vl s2 ⟨l, H2, I2, pl, q2⟩ => thn (hu pins s2 σ H2 _ I2 q2) fun vu s3 ⟨u, H3, I3, pu, q3⟩ => ?_)
  rw [evalPart_none]
  refine wpAny_pure ?_
  have I4 : Inv X pins σ H3 { s3 with heap := s3.heap.push { cls := .type "slice", data := .fields #[vl, vu, .none] } } := I3.kept (t' := s3.toks) fun b ob q => Heap.get?_push_of_some _ q
  obtain ⟨T, id, hT, ht, hg⟩ := hr pins { s3 with heap := s3.heap.push { cls := .type "slice", data := .fields #[vl, vu, .none] } } σ H3 x v vl vu l u s3.heap.objs.size Q I4 r1 (Heap.IsSliceOf.new ..) pl pu q3
  show wpAny (model X.prog X.w) X.A (subscriptTail e (.Slice lo hi none p2) v (.ref s3.heap.objs.size)) (EP X pins σ Q) X.xe { s3 with heap := s3.heap.push { cls := .type "slice", data := .fields #[vl, vu, .none] } }
  exact tail_any (ops := [.ref s3.heap.objs.size, v]) ht hT hg (by with_unfolding_all rfl)
def cutV (xs : List V) (lo hi : Option Int) : List V := (xs.drop (HT.sIx xs.length 0 lo)).take (HT.sIx xs.length xs.length hi - HT.sIx xs.length 0 lo)
theorem cutV_length (xs : List V) (lo hi : Option Int) : (cutV xs lo hi).length ≤ xs.length := by
  unfold cutV
  rw [List.length_take, List.length_drop]
  omega
end
end L2
namespace L2
open PySem PySem.Spec PyProof.Rows
def ixN (n : Nat) (i : Int) : Option Nat := if 0 ≤ i then (if i < n then some i.toNat else none) else if -(n : Int) ≤ i then some (i + n).toNat else none
def atI {α : Type} (xs : List α) (i : Int) : Option α := (ixN xs.length i).bind fun j => xs[j]?
theorem ixN_seq {n : Nat} {i : Int} {j : Nat} (h : ixN n i = some j) : seqIndex? i n = some j ∧ j < n ∧ -(n : Int) ≤ i ∧ i < n := by
  unfold ixN at h
  by_cases h0 : 0 ≤ i
  · rw [if_pos h0] at h
    by_cases h1 : i < n
    · rw [if_pos h1] at h
      have e : i.toNat = j := Option.some.inj h
      exact ⟨by rw [seqIndex_of h0 h1, e], by omega, by omega, h1⟩
    · rw [if_neg h1] at h; cases h
  · rw [if_neg h0] at h
    by_cases h1 : -(n : Int) ≤ i
    · rw [if_pos h1] at h
      have e : (i + n).toNat = j := Option.some.inj h
      exact ⟨by rw [seqIndex_neg (by omega) h1, e], by omega, h1, by omega⟩
    · rw [if_neg h1] at h; cases h
theorem atI_get {α : Type} {xs : List α} {i : Int} {v : α} (h : atI xs i = some v) : ∃ j, seqIndex? i xs.length = some j ∧ xs[j]? = some v ∧ j < xs.length ∧ -(xs.length : Int) ≤ i ∧ i < xs.length := by
  unfold atI at h
  cases e : ixN xs.length i with
  | none => rw [e] at h; cases h
  | some j =>
    rw [e] at h
    obtain ⟨h1, h2, h3, h4⟩ := ixN_seq e
    exact ⟨j, h1, h, h2, h3, h4⟩
theorem atI_nat {α : Type} {xs : List α} {j : Nat} {v : α} (h : xs[j]? = some v) : atI xs (j : Int) = some v := by
  have hj : j < xs.length := (List.getElem?_eq_some_iff.mp h).1
  have e : ixN xs.length (j : Int) = some j := by
    unfold ixN
    rw [if_pos (by omega), if_pos (by omega)]; simp
  unfold atI; rw [e]; exact h
theorem atI_last {α : Type} (xs : List α) (v : α) : atI (xs ++ [v]) (-1) = some v := by
  have hl : (xs ++ [v]).length = xs.length + 1 := by simp
  have e : ixN (xs ++ [v]).length (-1) = some xs.length := by
    unfold ixN
    rw [hl, if_neg (by decide), if_pos (by omega)]
    congr 1
    omega
  unfold atI
  rw [e]
  show (xs ++ [v])[xs.length]? = some v
  simp
def PlainIx (b : Expr) : Prop := ∀ o i, subscripted b false o i = operate [o, i] (getItem o i)
def IxR (X : Cx) (r : R2) : Prop :=
  ∀ (value slice : Expr) (pins : List (Addr × Obj)) (s : Shared) (σ : St) (H : Hp) (x y : V) (v u : Value) (Q : VK), Inv X pins σ H s → RelV x v → RelV y u → r x y H Q →
    subscripted slice false v u = operate [v, u] (getItem v u) → wpAny (model X.prog X.w) X.A (subscriptTail value slice v u) (EP X pins σ Q) X.xe s
def MtR (X : Cx) (id : String) (r : V → List V → Hp → VK → Prop) : Prop :=
  ∀ (pins : List (Addr × Obj)) (s : Shared) (σ : St) (H : Hp) (x : V) (xs : List V) (v : Value) (us : List Value) (Q : VK), Inv X pins σ H s → RelV x v → Vals xs us → r x xs H Q →
    wpAny (model X.prog X.w) X.A (call (.builtin id) (v :: us)) (EP X pins σ Q) X.xe s
section
variable {X : Cx} {a b : Expr} {ta tb : TE} {pos : Pos}
theorem pe_ix {r : R2} (hr : IxR X r) (ha : PE X a ta) (hb : PE X b tb) (hs : PlainIx b) : PE X (.Subscript a b pos) (tOp r ta tb) := by
  intro pins s σ H Q I h
  exact Subscript_ (binT ha hb I h fun v u s2 x y H2 I2 rx ry q => hr a b pins s2 σ H2 x y v u Q I2 rx ry q (hs _ _))
def rIxL (K : PySem.W.Frag) : R2 := fun x y H Q => ∃ p xs i v, x = .ref p ∧ y = .int i ∧ SqL K H p xs ∧ atI xs i = some v ∧ Q v H
def rIxT (K : PySem.W.Frag) : R2 := fun x y H Q => ∃ p xs i v, x = .ref p ∧ y = .int i ∧ SqT K H p xs ∧ atI xs i = some v ∧ Q v H
theorem ix_list : IxR X (rIxL X.K) := by
  intro value slice pins s σ H x y v u Q I rx ry h hs
  obtain ⟨p, xs, i, z, rfl, rfl, hq, he, q⟩ := h
  cases rx
  obtain ⟨t, rfl⟩ := ry
  obtain ⟨its, r, pl, hz⟩ := I.list hq
  obtain ⟨j, h1, h2, h3, h4, h5⟩ := atI_get he
  obtain ⟨w, ew, rw'⟩ := r.get h2
  have hl := r.length
  have hn := line63
  have fin : EP X pins σ Q w s := ⟨z, H, I, rw', q⟩
  by_cases h0 : 0 ≤ i
  · have hj : i.toNat = j := by
      rw [seqIndex_of h0 h5] at h1
      exact Option.some.inj h1
    exact item_listR pl.isList h0 (by omega) (by rw [hj]; simpa using ew) fin hs
  · have hj : (i + (its.toArray.size : Int)).toNat = j := by
      rw [seqIndex_neg (by omega) h4] at h1
      rw [List.size_toArray, ← hl]
      exact Option.some.inj h1
    exact subscriptTail_builtinR (x := w) pl.isList.typeIs slot_list_getitem.lookup
      (wpAny_getItem_list_neg (Q := fun r s' => r = w ∧ EP X pins σ Q r s') pl.isList (by omega) (by rw [List.size_toArray] <;> omega) (by omega) (by rw [hj]; simpa using ew) ⟨rfl, fin⟩) hs
theorem ix_tup : IxR X (rIxT X.K) := by
  intro value slice pins s σ H x y v u Q I rx ry h hs
  obtain ⟨p, xs, i, z, rfl, rfl, hq, he, q⟩ := h
  cases rx
  obtain ⟨t, rfl⟩ := ry
  obtain ⟨its, r, pl, hz⟩ := I.tuple hq
  obtain ⟨j, h1, h2, h3, h4, h5⟩ := atI_get he
  obtain ⟨w, ew, rw'⟩ := r.get h2
  have hl := r.length
  have hn := line63
  have fin : EP X pins σ Q w s := ⟨z, H, I, rw', q⟩
  exact subscriptTail_builtinR (x := w) pl.typeIs slot_tuple_getitem.lookup
    (getItem_tuple (j := j) (Q := fun r s' => r = w ∧ EP X pins σ Q r s') pl (by omega) (by omega) (by rw [List.size_toArray, ← hl]; exact h1) (by simpa using ew) ⟨rfl, fin⟩) hs
theorem slice_bounds (lo hi : Option Int) (n : Nat) : (sliceBounds lo hi none n).1 = ((HT.sIx n 0 lo : Nat) : Int) ∧ (sliceBounds lo hi none n).2.1 = ((HT.sIx n n hi : Nat) : Int) ∧ (sliceBounds lo hi none n).2.2 = 1 := by
  refine ⟨?_, ?_, rfl⟩
  · cases lo with
    | none => simp [sliceBounds, HT.sIx]
    | some i =>
      simp only [sliceBounds, HT.sIx, Option.getD_none, show (1 : Int) > 0 by decide, if_true]
      by_cases h : i < 0
      · simp only [h, if_true] <;> omega
      · simp only [h, if_false] <;> omega
  · cases hi with
    | none => simp [sliceBounds, HT.sIx]
    | some i =>
      simp only [sliceBounds, HT.sIx, Option.getD_none, show (1 : Int) > 0 by decide, if_true]
      by_cases h : i < 0
      · simp only [h, if_true] <;> omega
      · simp only [h, if_false] <;> omega
theorem slicePick_cut (its : List Value) (lo hi : Option Int) : slicePick its.toArray lo hi none = ((its.drop (HT.sIx its.length 0 lo)).take (HT.sIx its.length its.length hi - HT.sIx its.length 0 lo)).toArray := by
  obtain ⟨h1, h2, h3⟩ := slice_bounds lo hi its.toArray.size
  unfold slicePick
  rw [h1, h2, h3]
  simp only [sliceRange_one, pick_run, List.size_toArray] <;> rfl
def rSlL (K : PySem.W.Frag) : V → Option Int → Option Int → Hp → VK → Prop := fun x lo hi H Q => ∃ a xs, x = .ref a ∧ SqL K H a xs ∧ ∀ p, H p = none → Q (.ref p) (upd H p (.lst (cutV xs lo hi)))
theorem sl_list : SlR X (rSlL X.K) := by
  intro pins s σ H x v vl vu lo hi sl Q I rx hs pl pu h
  obtain ⟨a, xs, rfl, hx, q⟩ := h
  cases rx
  obtain ⟨its, r, ht, hz⟩ := I.list hx
  have hlen := r.length
  refine ⟨"list", _, slot_list_getitem.lookup, ht.isList.typeIs, ?_⟩
  refine wpAny_getItem_list_slice ht.isList hs pl pu .none (by simp) ?_ (by rw [List.size_toArray] <;> omega)
  rw [slicePick_cut, ← hlen]
  refine ⟨.ref s.heap.objs.size, _, I.laid (t' := s.toks) (o := .lst (cutV xs lo hi)) (fun b ob q => Heap.get?_push_of_some _ q) (Nat.le_refl _) ?_, rfl, q _ (I.hok.fresh (Nat.le_refl _))⟩
  exact ⟨Nat.le_trans (cutV_length xs lo hi) hz, _, 0, (r.drop (HT.sIx xs.length 0 lo)).take (HT.sIx xs.length xs.length hi - HT.sIx xs.length 0 lo), Heap.get?_push_size _ rfl⟩
theorem call_len_seq : CallR X (.builtin "len") (fun xs H Q => ∃ p ys, xs = [.ref p] ∧ (SqL X.K H p ys ∨ SqT X.K H p ys) ∧ Q (.int ys.length) H) := by
  intro pins s σ H xs us Q I r h
  obtain ⟨p, ys, rfl, hq, q⟩ := h
  obtain ⟨u, rfl, rx⟩ := vals1 r
  cases rx
  have hn := line63
  rcases hq with hq | hq
  · obtain ⟨its, r', pl, hz⟩ := I.list hq
    have hlen := r'.length
    exact Calls.call_len_list pl.isList (by simp only [List.size_toArray] <;> omega) ⟨.int ys.length, H, I.tok _, ⟨s.toks + 1, by rw [List.size_toArray, hlen]⟩, q⟩
  · obtain ⟨its, r', pl, hz⟩ := I.tuple hq
    have hlen := r'.length
    exact len_tuple pl (by simp only [List.size_toArray] <;> omega) ⟨.int ys.length, H, I.tok _, ⟨s.toks + 1, by rw [List.size_toArray, hlen]⟩, q⟩
def tyV (K : PySem.W.Frag) (T : String) (x : V) (H : Hp) : Prop := match x with
  | .str _ => T = "str"
  | .int _ => T = "int"
  | .ref p => (T = "list" ∧ ∃ xs, SqL K H p xs) ∨ (T = "tuple" ∧ ∃ o, K.lookup p = some o ∧ o.cls = .type "tuple" ∧ o.dict = none) ∨
      (T = "dict" ∧ ((∃ kvs, H p = some (.dK kvs)) ∨ ∃ kvs, H p = some (.dT kvs))) ∨ (T = "set" ∧ ∃ S n, H p = some (.set S n))
  | _ => False
theorem tyV_is {pins : List (Addr × Obj)} {σ : St} {H : Hp} {s : Shared} {T : String} {x : V} {v : Value} (I : Inv X pins σ H s) (r : RelV x v) (ty : tyV X.K T x H) :
    s.TypeIs v T ∧ ∀ a, v = .ref a → ∃ ob, s.heap.get? a = some ob ∧ ob.dict = none := by
  cases x with
  | str z =>
    obtain ⟨t, rfl⟩ := r
    cases (show T = "str" from ty)
    exact ⟨typeIs_str s z t, fun _ e => nomatch e⟩
  | int i =>
    obtain ⟨t, rfl⟩ := r
    cases (show T = "int" from ty)
    exact ⟨typeIs_int s i t, fun _ e => nomatch e⟩
  | ref p =>
    cases r
    rcases ty with ⟨rfl, xs, hq⟩ | ⟨rfl, o, hk, hc, hd⟩ | ⟨rfl, hk⟩ | ⟨rfl, S, n, hk⟩
    · obtain ⟨its, _, pl, _⟩ := I.list hq
      refine ⟨pl.isList.typeIs, fun a e => ?_⟩
      cases e
      obtain ⟨o, n, e, c, hd, _⟩ := pl
      exact ⟨o, e, hd⟩
    · refine ⟨⟨o, I.kIn p o hk, hc⟩, fun a e => ?_⟩
      cases e
      exact ⟨o, I.kIn _ o hk, hd⟩
    · have z : ∃ o, s.heap.get? p = some o ∧ o.ExactDict := by
        rcases hk with ⟨kvs, hk⟩ | ⟨kvs, hk⟩
        · obtain ⟨_, _, _, _, o, _, _, e, ex, _⟩ := I.hok p _ hk
          exact ⟨o, e, ex⟩
        · obtain ⟨_, _, _, _, o, _, _, e, ex, _⟩ := I.hok p _ hk
          exact ⟨o, e, ex⟩
      obtain ⟨o, e, ex⟩ := z
      refine ⟨⟨o, e, ex.1⟩, fun a e2 => ?_⟩
      cases e2
      exact ⟨o, e, ex.2.1⟩
    · obtain ⟨o, _, _, _, e, ex, _⟩ := I.hok p _ hk
      refine ⟨⟨o, e, ex.1⟩, fun a e2 => ?_⟩
      cases e2
      exact ⟨o, e, ex.2.1⟩
  | _ => exact False.elim ty
def tBM (K : PySem.W.Frag) (T : String) (r : V → List V → Hp → VK → Prop) (to : TE) (t : TA) : TE := fun σ H Q => to σ H fun x H1 => tyV K T x H1 ∧ t σ H1 fun xs H2 => r x xs H2 Q
variable {o e : Expr} {es : List Expr} {to : TE} {t : TA} {name : Str} {apos cpos : Pos} {T id : String} {r : V → List V → Hp → VK → Prop}
theorem pe_bm (pa : PlainAttrs T) (slot : Slot T name id) (hty : typeOf (.builtin id) = pure (.type "method_descriptor")) (hm : MtR X id r) (ho : PE X o to) (ha : PA X (e :: es) t)
    (hbase : attributeBase o name X.env (eval o X.env) = eval o X.env := by rfl)
    (hfew : ((backTo cpos (starEach (e :: es) X.env)).all (fun x => !x.1) && (backToKw cpos (keywordEach [] X.env)).all (fun x => x.1.isSome)
      && decide ((e :: es).length + ([] : List Keyword).length + (if ([] : List Keyword).isEmpty then 0 else 1) < 30)) = true := by rfl)
    (hline : (apos.endLine == cpos.line) = true := by rfl) (hs : starEach (e :: es) X.env = (false, eval e X.env) :: starEach es X.env := by rfl) (hplain : (backTo cpos (starEach es X.env)).any (·.1) = false := by rfl) :
    PE X (.Call (.Attribute o name apos) (e :: es) [] cpos) (tBM X.K T r to t) := by
  intro pins s σ H Q I h
  refine wpAny_Call_method_late hbase hfew hline rfl (thn (ho pins s σ H _ I h) fun v s1 ⟨x, H1, I1, r1, ty, q1⟩ => ?_)
  obtain ⟨h1, h2⟩ := tyV_is I1 r1 ty
  refine ⟨T, id, pa, slot, hty, h1, h2, ?_⟩
  have hA := ha cpos pins s1 σ H1 _ I1 q1
  rw [hs] at hA ⊢
  refine Calls.callWith_builtin (by show (false || (backTo cpos (starEach es X.env)).any (·.1)) = false; rw [hplain] <;> rfl) (Calls.evalArgs_plain ?_)
  exact thn hA fun us s2 ⟨vs, H2, I2, r2, q2⟩ => hm pins s2 σ H2 x vs v us Q I2 r1 r2 q2
end
end L2
namespace L2
open PySem PySem.Spec PyProof.Rows
def MtM (X : Cx) (id : String) (r : V → List V → Hp → VK → Prop) : Prop :=
  ∀ (pins : List (Addr × Obj)) (s : Shared) (σ : St) (H : Hp) (x : V) (xs : List V) (v : Value) (us : List Value) (Q : VK), Inv X pins σ H s → RelV x v → Vals xs us → r x xs H Q →
    wpAny (model X.prog X.w) X.A (call (.builtin id) (v :: us)) (EP X pins σ Q) X.xe s
theorem Vals.one : ∀ {x : V} {us : List Value}, Vals [x] us → ∃ u, us = [u] ∧ RelV x u
  | _, _, .cons r .nil => ⟨_, rfl, r⟩
theorem Vals.two : ∀ {x y : V} {us : List Value}, Vals [x, y] us → ∃ u v, us = [u, v] ∧ RelV x u ∧ RelV y v
  | _, _, _, .cons r (.cons q .nil) => ⟨_, _, rfl, r, q⟩
theorem Vals.eraseIdx : ∀ {xs : List V} {us : List Value} (i : Nat), Vals xs us → Vals (xs.eraseIdx i) (us.eraseIdx i)
  | _, _, _, .nil => .nil
  | _, _, 0, .cons _ t => t
  | _, _, i + 1, .cons r t => .cons r (Vals.eraseIdx i t)
theorem len_erase {α : Type} : ∀ (l : List α) (i : Nat), (l.eraseIdx i).length ≤ l.length
  | [], _ => Nat.le_refl _
  | _ :: _, 0 => Nat.le_succ _
  | _ :: r, i + 1 => Nat.succ_le_succ (len_erase r i)
section
variable {X : Cx} {pins : List (Addr × Obj)} {σ : St} {H : Hp} {s : Shared} {l b : Addr} {xs ys zs : List V}
theorem Inv.lset {its its' : List Value} {n : Nat} {f : Array Value → Array Value} {t' : Nat} (I : Inv X pins σ H s) (hH : H l = some (.lst xs))
    (e : s.heap.get? l = some { cls := .type "list", data := .seq its.toArray n }) (hf : f its.toArray = its'.toArray) (hv : Vals ys its') (hz : ys.length ≤ sizeLine) :
    Inv X pins σ (upd H l (.lst ys)) { s with heap := s.heap.update l (Obj.mapSeq f), toks := t' } := by
  have q := PySem.IsL.update e f
  rw [hf] at q
  refine I.write (x := l) (e := l) (by rw [hH]; exact trivial) (.inl rfl) (fun b' u hb hu => (Heap.get?_update_other s.heap (Obj.mapSeq f) (Ne.symm hb)).trans hu) ⟨_, q⟩ ?_
  exact ⟨hz, its', _, hv, q⟩
theorem Inv.lnew {its : List Value} {t' : Nat} (I : Inv X pins σ H s) (hv : Vals ys its) (hz : ys.length ≤ sizeLine) :
    Inv X pins σ (upd H s.heap.objs.size (.lst ys)) { s with heap := s.heap.push { cls := .type "list", data := .seq its.toArray }, toks := t' } :=
  I.laid (fun _ _ q => Heap.get?_push_of_some _ q) (Nat.le_refl _) ⟨hz, its, 0, hv, Heap.get?_push_size _ rfl⟩
theorem Inv.fresh (I : Inv X pins σ H s) : H s.heap.objs.size = none := I.hok.fresh (Nat.le_refl _)
theorem Inv.lstM (I : Inv X pins σ H s) (hH : H l = some (.lst xs)) : xs.length ≤ sizeLine ∧ ∃ (its : List Value) (n : Nat), Vals xs its ∧ xs.length = its.length ∧ s.heap.get? l = some { cls := .type "list", data := .seq its.toArray n } := by
  obtain ⟨z, its, n, r, e⟩ := I.hok l _ hH
  exact ⟨z, its, n, r, r.length, e⟩
theorem notLongL {n : Nat} (h : n ≤ sizeLine) : Builtin.List.listTooLong n = false := by
  unfold Builtin.List.listTooLong
  exact decide_eq_false (by omega)
end
section
variable {X : Cx}
def rAppend : V → List V → Hp → VK → Prop := fun x vs H Q => ∃ l xs y, x = .ref l ∧ vs = [y] ∧ H l = some (.lst xs) ∧ xs.length < sizeLine ∧ Q .non (upd H l (.lst (xs ++ [y])))
theorem mt_append : MtM X "list.append" rAppend := by
  intro pins s σ H x vs v us Q I rx rv h
  obtain ⟨l, xs, y, rfl, rfl, hH, hz, q⟩ := h
  cases rx
  obtain ⟨u, rfl, ru⟩ := rv.one
  obtain ⟨z, its, n, r, hl, e⟩ := I.lstM hH
  refine call_meets F.slot_list_append ⟨_, e, rfl⟩ F.entry_list_append (F.args_list_append_2 _ _) (PySem.list_append l its.toArray n u (by rw [List.size_toArray]; omega)) ⟨e, ?_⟩
  refine ⟨.non, _, I.lset (its' := its ++ [u]) hH e (by simp) (r.append (.cons ru .nil)) ?_, rfl, q⟩
  rw [List.length_append, List.length_singleton]
  omega
def rExtend : V → List V → Hp → VK → Prop := fun x vs H Q => ∃ l b xs zs, x = .ref l ∧ vs = [.ref b] ∧ H l = some (.lst xs) ∧ H b = some (.lst zs) ∧ xs.length + zs.length ≤ sizeLine ∧ Q .non (upd H l (.lst (xs ++ zs)))
theorem mt_extend : MtM X "list.extend" rExtend := by
  intro pins s σ H x vs v us Q I rx rv h
  obtain ⟨l, b, xs, zs, rfl, rfl, hH, hB, hz, q⟩ := h
  cases rx
  obtain ⟨u, rfl, ru⟩ := rv.one
  cases ru
  obtain ⟨z, its, n, r, hl, e⟩ := I.lstM hH
  obtain ⟨z2, its2, n2, r2, hl2, e2⟩ := I.lstM hB
  have hsz : its.toArray.size + its2.toArray.size ≤ sizeLine := by rw [List.size_toArray, List.size_toArray]; omega
  have hlong : ¬ (!its.toArray.isEmpty && Builtin.List.listTooLong (its.toArray.size + its2.toArray.size)) = true := by
    rw [notLongL hsz, Bool.and_false]
    exact Bool.false_ne_true
  refine call_meets F.slot_list_extend ⟨_, e, rfl⟩ F.entry_list_extend (F.args_list_extend_2 _ _)
    (AutoSeq1.list_extend_list_list_0 l its.toArray n b its2.toArray n2 hlong (by rw [List.size_toArray]; omega) (by omega)) ⟨e, e2, ?_⟩
  refine ⟨.non, _, I.lset (its' := its ++ its2) hH e (by simp) (r.append r2) ?_, rfl, q⟩
  rw [List.length_append]
  omega
def rPopAt : V → List V → Hp → VK → Prop := fun x vs H Q => ∃ l xs i k y, x = .ref l ∧ vs = [.int i] ∧ H l = some (.lst xs) ∧ -(2 ^ 63) ≤ i ∧ i < 2 ^ 63 ∧ seqIndex? i xs.length = some k ∧ xs[k]? = some y ∧ Q y (upd H l (.lst (xs.eraseIdx k)))
theorem mt_popAt : MtM X "list.pop" rPopAt := by
  intro pins s σ H x vs v us Q I rx rv h
  obtain ⟨l, xs, i, k, y, rfl, rfl, hH, h1, h2, hk, hy, q⟩ := h
  cases rx
  obtain ⟨u, rfl, ru⟩ := rv.one
  obtain ⟨t, rfl⟩ := ru
  obtain ⟨z, its, n, r, hl, e⟩ := I.lstM hH
  obtain ⟨w, hw, rw'⟩ := r.get hy
  refine call_meets F.slot_list_pop ⟨_, e, rfl⟩ F.entry_list_pop (F.args_list_pop_2 _ _)
    (MeetsSeq.list_pop_at l its.toArray n i t k w (fitsIndex_both h1 h2) (by rw [List.size_toArray, ← hl]; exact hk) (by rw [← Array.getElem?_toList]; exact hw) (by rw [List.size_toArray]; omega)) ⟨e, ?_⟩
  refine ⟨y, _, I.lset (its' := its.eraseIdx k) hH e ?_ (r.eraseIdx k) ?_, rw', q⟩
  · show its.toArray.eraseIdxIfInBounds k = (its.eraseIdx k).toArray
    rw [List.eraseIdxIfInBounds_toArray]
  · have := len_erase xs k
    omega
def rCat : R2 := fun x y H Q => ∃ l b xs zs, x = .ref l ∧ y = .ref b ∧ H l = some (.lst xs) ∧ H b = some (.lst zs) ∧ xs.length + zs.length ≤ sizeLine ∧ ∀ p, H p = none → Q (.ref p) (upd H p (.lst (xs ++ zs)))
theorem op_cat : OpR X (binaryOp .Add) rCat := by
  intro pins s σ H x y v u Q I rx ry h
  obtain ⟨l, b, xs, zs, rfl, rfl, hH, hB, hz, q⟩ := h
  cases rx
  cases ry
  obtain ⟨z, its, n, r, hl, e⟩ := I.lstM hH
  obtain ⟨z2, its2, n2, r2, hl2, e2⟩ := I.lstM hB
  refine PySem.P.add_list e e2 ?_ (by rw [List.size_toArray, List.size_toArray]; omega)
  have ea : its.toArray ++ its2.toArray = (its ++ its2).toArray := by simp
  rw [ea]
  exact ⟨.ref _, _, I.lnew (t' := s.toks) (r.append r2) (by rw [List.length_append]; omega), rfl, q _ I.fresh⟩
end
section
variable {prog : Program} {w : World} {A : Around} {E : Value → Shared → Prop} {s : Shared}
end
section
variable {X : Cx}
end
end L2
namespace L2
open PySem PySem.Spec PyProof.Rows
theorem Vals.ints : ∀ {ns : List Int} {us : List Value}, Vals (ns.map V.int) us → IntsAre us ns
  | [], us, h => by
    rw [List.map_nil] at h
    cases h
    exact IntsAre.nil
  | n :: ns, us, h => by
    rw [List.map_cons] at h
    cases h with
    | cons r t =>
      obtain ⟨k, rfl⟩ := r
      exact IntsAre.cons n k (Vals.ints t)
theorem vals_of_ints : ∀ {us : List Value} {ns : List Int}, IntsAre us ns → Vals (ns.map V.int) us
  | _, _, .nil => by rw [List.map_nil]; exact Paired.nil
  | _, _, .cons n t h => by rw [List.map_cons]; exact Paired.cons (show RelV (V.int n) (Value.int n t) from ⟨t, rfl⟩) (vals_of_ints h)
theorem Vals.bls : ∀ {bs : List Bool} {us : List Value}, Vals (bs.map V.bl) us → us = bs.map Value.bool
  | [], us, h => by
    rw [List.map_nil] at h
    cases h
    rfl
  | b :: bs, us, h => by
    rw [List.map_cons] at h
    cases h with
    | cons r t =>
      cases r
      rw [Vals.bls t, List.map_cons]
theorem Vals.ref1 {a : Addr} {us : List Value} (r : Vals [V.ref a] us) : us = [Value.ref a] := by
  cases r with
  | cons r t =>
    cases t
    cases r
    rfl
section
variable {prog : Program} {w : World} {A : Around} {E : Value → Shared → Prop} {s : Shared} {l : Addr} {its : List Value} {ns : List Int} {Q : Value → Shared → Prop}
end
section
variable {X : Cx}
end
section
variable {X : Cx}
end
section
variable {X : Cx}
end
theorem iter_any {prog : Program} {w : World} {A : Around} {E : Value → Shared → Prop} {s : Shared} {l : Addr} {items : Array Value} {Q : Value → Shared → Prop} (hl : s.heap.IsList l items)
    (h : ∀ s₂ : Shared, s₂ = { s with heap := s.heap.push { cls := .type "list_iterator", data := .fields #[.ref l, .int 0 0] } } →
      (s₂.heap.IsListIter s.heap.objs.size l 0 ∧ s₂.heap.IsList l items) → l ≠ s.heap.objs.size → Q (.ref s.heap.objs.size) s₂) : wpAny (model prog w) A (pyIter (.ref l)) Q E s := by
  have hlt : l < s.heap.objs.size := by obtain ⟨_, e, _⟩ := hl; exact Heap.lt_size e
  exact wpAny_pyIter_list hl (h _ rfl ⟨⟨_, Heap.get?_push_size _ rfl, rfl, rfl⟩, hl.push _⟩ (Nat.ne_of_lt hlt))
theorem truth_bools {prog : Program} {w : World} {A : Around} {bs : List Bool} {its : List Value} (e : its = bs.map Value.bool) :
    TruthOf prog w A (fun i v => its.toArray[i]? = some v) (fun i => bs.getD i false) := fun i v s Q E hv hq => by
  have hv' : its[i]? = some v := by simpa using hv
  rw [e, List.getElem?_map] at hv'
  obtain ⟨b, hb, rfl⟩ := Option.map_eq_some_iff.mp hv'
  have hg : bs.getD i false = b := by rw [List.getD_eq_getElem?_getD, hb] <;> rfl
  have hq' : Q (bs.getD i false) s := hq
  rw [hg] at hq'
  exact wpAny_truthy_bool hq'
theorem any_range : ∀ bs : List Bool, (List.range bs.length).any (fun i => bs.getD i false) = bs.any id
  | [] => rfl
  | b :: bs => by
    rw [List.length_cons, List.range_succ_eq_map, List.any_cons, List.any_map, List.any_cons, ← any_range bs]
    all_goals rfl
theorem all_range : ∀ bs : List Bool, (List.range bs.length).all (fun i => bs.getD i false) = bs.all id
  | [] => rfl
  | b :: bs => by
    rw [List.length_cons, List.range_succ_eq_map, List.all_cons, List.all_map, List.all_cons, ← all_range bs]
    all_goals rfl
section
variable {X : Cx}
def rAny (K : PySem.W.Frag) : List V → Hp → VK → Prop := fun vs H Q => ∃ (a : Addr) (bs : List Bool), vs = [V.ref a] ∧ SqL K H a (bs.map V.bl) ∧ Q (.bl (bs.any id)) H
def rAll (K : PySem.W.Frag) : List V → Hp → VK → Prop := fun vs H Q => ∃ (a : Addr) (bs : List Bool), vs = [V.ref a] ∧ SqL K H a (bs.map V.bl) ∧ Q (.bl (bs.all id)) H
theorem cr_any (hc : X.calm = true) : CallR X (.builtin "any") (rAny X.K) := by
  intro pins s σ H vs us Q I r h
  obtain ⟨a, bs, rfl, hs, q⟩ := h
  obtain ⟨its, rv, hl, _⟩ := I.list hs
  rw [Vals.ref1 r]
  have hb := rv.bls
  refine call_any_walk (iter_any hl.isList fun s₂ e2 st hne => ?_)
  subst e2
  refine ⟨_, _, _, _, _, _, _, rfl, Walks.list (A := X.A.in1) (I.ok.hd hc) _ a hne its.toArray, st, truth_bools hb, fun h' tk hk => ?_⟩
  refine ⟨.bl _, H, I.kept fun b o eo => hk b o (fun hmem => ?_) (Heap.get?_push_of_some _ eo), ?_, q⟩
  · rcases List.mem_cons.mp hmem with e1 | hmem
    · exact absurd (e1 ▸ Heap.lt_size eo) (Nat.lt_irrefl _)
    · cases hmem
  · show Value.bool _ = Value.bool _
    rw [← any_range, hb, List.size_toArray, List.length_map]
theorem cr_all (hc : X.calm = true) : CallR X (.builtin "all") (rAll X.K) := by
  intro pins s σ H vs us Q I r h
  obtain ⟨a, bs, rfl, hs, q⟩ := h
  obtain ⟨its, rv, hl, _⟩ := I.list hs
  rw [Vals.ref1 r]
  have hb := rv.bls
  refine call_all_walk (iter_any hl.isList fun s₂ e2 st hne => ?_)
  subst e2
  refine ⟨_, _, _, _, _, _, _, rfl, Walks.list (A := X.A.in1) (I.ok.hd hc) _ a hne its.toArray, st, truth_bools hb, fun h' tk hk => ?_⟩
  refine ⟨.bl _, H, I.kept fun b o eo => hk b o (fun hmem => ?_) (Heap.get?_push_of_some _ eo), ?_, q⟩
  · rcases List.mem_cons.mp hmem with e1 | hmem
    · exact absurd (e1 ▸ Heap.lt_size eo) (Nat.lt_irrefl _)
    · cases hmem
  · show Value.bool _ = Value.bool _
    rw [← all_range, hb, List.size_toArray, List.length_map]
end
section
variable {X : Cx} {pins : List (Addr × Obj)} {σ : St} {H : Hp} {s : Shared}
end
section
variable {X : Cx}
end
end L2
namespace L2
open PySem PySem.Spec PyProof.Rows
abbrev CellAt (h : Heap) (c : Addr) (v : Option Value) : Prop := h.IsCell c v
def relS (scope sc : Scope) : Scope :=
  { scope with names := scope.names.map fun (n, k) => if (k == .free && sc.kind == .function && sc.names.lookup n == some .cell) then (n, .cell) else (n, k) }
def cloFrom (cells : List (Str × Addr)) : List (Str × NameKind) → List (Str × Addr) → List (Str × Addr)
  | [], acc => acc
  | (n, k) :: r, acc => if k == .free then cloFrom cells r ((n, (cells.lookup n).getD 0) :: acc) else cloFrom cells r acc
theorem closure_loop (env : Env) (f : Str × NameKind → List (Str × Addr) → Sem (ForInStep (List (Str × Addr))))
    (hf : ∀ n k c, f (n, k) c = if k == .free then (do let a ← cellOf env n; pure (.yield ((n, a) :: c))) else pure (.yield c)) :
    ∀ (names : List (Str × NameKind)) (acc : List (Str × Addr)), (∀ y ∈ names, y.2 = .free → ∃ c, env.cells.lookup y.1 = some c) → forIn names acc f = pure (cloFrom env.cells names acc)
  | [], acc, _ => by rw [List.forIn_nil]; rfl
  | (n, k) :: r, acc, h => by
    rw [List.forIn_cons, hf]
    have ih := fun acc => closure_loop env f hf r acc fun y hy => h y (List.mem_cons_of_mem _ hy)
    unfold cloFrom
    by_cases hk : (k == NameKind.free) = true
    · rw [if_pos hk, if_pos hk]
      obtain ⟨c, hc⟩ := h (n, k) List.mem_cons_self (by simpa using hk)
      have e : cellOf env n = pure c := by unfold cellOf; rw [hc]
      rw [e]
      have e2 : (env.cells.lookup n).getD 0 = c := by rw [hc]; rfl
      rw [e2]
      exact ih _
    · rw [if_neg hk, if_neg hk]
      exact ih _
theorem closure_ok {scope : Scope} {env : Env} (h : ∀ y ∈ scope.names, y.2 = .free → ∃ c, env.cells.lookup y.1 = some c) : closureFor scope env = pure (cloFrom env.cells scope.names []) := by
  simp only [closureFor]
  rw [closure_loop env _ (fun n k c => rfl) scope.names [] h]
  rfl
theorem mem_lookup {α : Type} : ∀ {l : List (Str × α)} {n : Str} {c : α}, (n, c) ∈ l → ∃ c', l.lookup n = some c'
  | (k, v) :: r, n, c, h => by
    rw [List.lookup_cons]
    cases hb : n == k with
    | true => exact ⟨_, rfl⟩
    | false =>
      rcases List.mem_cons.mp h with e | h
      · cases e; simp at hb
      · exact mem_lookup h
theorem cloFrom_mem {cells : List (Str × Addr)} : ∀ {names : List (Str × NameKind)} {acc : List (Str × Addr)} {n : Str} {c : Addr}, (n, c) ∈ cloFrom cells names acc → (n, c) ∈ acc ∨ ((n, .free) ∈ names ∧ c = (cells.lookup n).getD 0)
  | [], _, _, _, h => .inl h
  | (m, k) :: r, acc, n, c, h => by
    unfold cloFrom at h
    split at h
    · rename_i hk
      have hk : k = .free := by simpa using hk
      rcases cloFrom_mem h with h | ⟨h1, h2⟩
      · rcases List.mem_cons.mp h with e | h
        · cases e; exact .inr ⟨hk ▸ List.mem_cons_self, rfl⟩
        · exact .inl h
      · exact .inr ⟨List.mem_cons_of_mem _ h1, h2⟩
    · rcases cloFrom_mem h with h | ⟨h1, h2⟩
      · exact .inl h
      · exact .inr ⟨List.mem_cons_of_mem _ h1, h2⟩
theorem cloFrom_acc {cells : List (Str × Addr)} : ∀ {names : List (Str × NameKind)} {acc : List (Str × Addr)} {p : Str × Addr}, p ∈ acc → p ∈ cloFrom cells names acc
  | [], _, _, h => h
  | (m, k) :: r, acc, p, h => by
    unfold cloFrom
    split
    · exact cloFrom_acc (List.mem_cons_of_mem _ h)
    · exact cloFrom_acc h
theorem cloFrom_has {cells : List (Str × Addr)} : ∀ {names : List (Str × NameKind)} {acc : List (Str × Addr)} {n : Str}, (n, .free) ∈ names → (n, (cells.lookup n).getD 0) ∈ cloFrom cells names acc
  | (m, k) :: r, acc, n, h => by
    unfold cloFrom
    rcases List.mem_cons.mp h with e | h
    · cases e
      exact cloFrom_acc List.mem_cons_self
    · split
      · exact cloFrom_has h
      · exact cloFrom_has h
theorem cells_mem : ∀ {names : List (Str × NameKind)} {h : Heap} {acc : List (Str × Addr)} {x : Str} {c : Addr}, (x, c) ∈ cellsFrom h.objs.size names acc →
    (x, c) ∈ acc ∨ ((x, .cell) ∈ names ∧ h.objs.size ≤ c ∧ CellAt (pushCells h names) c none)
  | [], _, _, _, _, h => .inl h
  | (n, k) :: r, h, acc, x, c, hm => by
    unfold cellsFrom at hm
    unfold pushCells
    split at hm
    · rename_i hk
      rw [if_pos hk]
      have hk : k = .cell := by simpa using hk
      rw [← Heap.size_push h { cls := .type "cell", data := .cell none }] at hm
      rcases cells_mem hm with hm | ⟨h1, h2, h3⟩
      · rcases List.mem_cons.mp hm with e | hm
        · cases e
          exact .inr ⟨hk ▸ List.mem_cons_self, Nat.le_refl _, _, pushCells_keeps r _ _ _ (Heap.get?_push_size _ rfl), rfl⟩
        · exact .inl hm
      · rw [Heap.size_push] at h2
        exact .inr ⟨List.mem_cons_of_mem _ h1, Nat.le_of_succ_le h2, h3⟩
    · rename_i hk
      rw [if_neg hk]
      rcases cells_mem hm with hm | ⟨h1, h2, h3⟩
      · exact .inl hm
      · exact .inr ⟨List.mem_cons_of_mem _ h1, h2, h3⟩
theorem cells_acc : ∀ {names : List (Str × NameKind)} {n : Nat} {acc : List (Str × Addr)} {p : Str × Addr}, p ∈ acc → p ∈ cellsFrom n names acc
  | [], _, _, _, h => h
  | (m, k) :: r, n, acc, p, h => by
    unfold cellsFrom
    split
    · exact cells_acc (List.mem_cons_of_mem _ h)
    · exact cells_acc h
theorem cells_has : ∀ {names : List (Str × NameKind)} {n : Nat} {acc : List (Str × Addr)} {x : Str}, (x, .cell) ∈ names → ∃ c, (x, c) ∈ cellsFrom n names acc
  | (m, k) :: r, n, acc, x, h => by
    unfold cellsFrom
    rcases List.mem_cons.mp h with e | h
    · cases e
      exact ⟨n, cells_acc List.mem_cons_self⟩
    · split
      · exact cells_has h
      · exact cells_has h
theorem cells_inj : ∀ {names : List (Str × NameKind)} {h : Heap} {acc : List (Str × Addr)} {x y : Str} {c : Addr}, (∀ p ∈ acc, p.2 < h.objs.size) → (∀ x y c, (x, c) ∈ acc → (y, c) ∈ acc → x = y) →
    (x, c) ∈ cellsFrom h.objs.size names acc → (y, c) ∈ cellsFrom h.objs.size names acc → x = y
  | [], _, _, _, _, _, _, hi, h1, h2 => hi _ _ _ h1 h2
  | (n, k) :: r, h, acc, x, y, c, hl, hi, h1, h2 => by
    unfold cellsFrom at h1 h2
    split at h1
    · rename_i hk
      rw [if_pos hk] at h2
      rw [← Heap.size_push h { cls := .type "cell", data := .cell none }] at h1 h2
      refine cells_inj (h := h.push _) (fun p hp => ?_) (fun x y c a b => ?_) h1 h2
      · rw [Heap.size_push]
        rcases List.mem_cons.mp hp with rfl | hp
        · exact Nat.lt_succ_self _
        · exact Nat.lt_succ_of_lt (hl p hp)
      · rcases List.mem_cons.mp a with e | a <;> rcases List.mem_cons.mp b with e' | b
        · cases e; cases e'; rfl
        · cases e; exact absurd (hl _ b) (Nat.lt_irrefl _)
        · cases e'; exact absurd (hl _ a) (Nat.lt_irrefl _)
        · exact hi _ _ _ a b
    · rename_i hk
      rw [if_neg hk] at h2
      exact cells_inj hl hi h1 h2
theorem newEnv_comp {M : Model} {A : Around} {E : Value → Shared → Prop} {s : Shared} {scope : Scope} {globals : Addr} {closure : List (Str × Addr)} {qual : Str} {func : Option Addr} {code : Value} {around : Env} {builtins : Addr} {Q : Env → Shared → Prop}
    (h : Q (newEnv scope s.heap.objs.size globals (cellsFrom (s.heap.objs.size + 1) scope.names closure) qual func code (some around) builtins)
      { s with heap := pushCells (s.heap.push { cls := .type "dict", data := .dict #[] }) scope.names }) :
    wpAny M A (newFunctionEnv scope globals closure [] qual func code (some around) builtins) Q E s := by
  simp only [newFunctionEnv, Option.isSome_some, if_true]
  refine wpAny_bind (wpAny_alloc ?_)
  refine wpAny_bind (wpAny_layCells _ (fun n k c => rfl) scope.names closure _ _ ?_)
  rw [show ({ s with heap := s.heap.push { cls := .type "dict", data := .dict #[] } } : Shared).heap.objs.size = s.heap.objs.size + 1 from Heap.size_push ..]
  rw [List.forIn_nil]
  exact wpAny_bind (wpAny_pure (wpAny_pure h))
theorem lookup_relS {sc : Scope} : ∀ {names : List (Str × NameKind)} {x : Str} {k : NameKind},
    (names.map fun (n, k) => if (k == NameKind.free && sc.kind == .function && sc.names.lookup n == some .cell) then (n, NameKind.cell) else (n, k)).lookup x = some k →
    ∃ k', names.lookup x = some k' ∧ (k = k' ∨ (k' = .free ∧ k = .cell))
  | [], _, _, h => by simp at h
  | (n, k₀) :: r, x, k, h => by
    have ih := @lookup_relS sc r x k
    have h' : List.lookup x ((if (k₀ == NameKind.free && sc.kind == .function && sc.names.lookup n == some .cell) = true then (n, NameKind.cell) else (n, k₀)) :: (r.map _)) = some k := h
    cases hx : x == n with
    | true =>
      simp only [List.lookup_cons, hx]
      by_cases hc : (k₀ == NameKind.free && sc.kind == .function && sc.names.lookup n == some .cell) = true
      · rw [if_pos hc] at h'
        simp only [List.lookup_cons, hx] at h'
        cases h'
        simp only [Bool.and_eq_true, beq_iff_eq] at hc
        exact ⟨k₀, rfl, .inr ⟨hc.1.1, rfl⟩⟩
      · rw [if_neg hc] at h'
        simp only [List.lookup_cons, hx] at h'
        cases h'
        exact ⟨_, rfl, .inl rfl⟩
    | false =>
      simp only [List.lookup_cons, hx]
      by_cases hc : (k₀ == NameKind.free && sc.kind == .function && sc.names.lookup n == some .cell) = true
      · rw [if_pos hc] at h'
        simp only [List.lookup_cons, hx] at h'
        exact ih h'
      · rw [if_neg hc] at h'
        simp only [List.lookup_cons, hx] at h'
        exact ih h'
structure BlkOk (N : List Str) (sc scope : Scope) (own : List (Str × Nat)) : Prop where
  kind : scope.kind = .function
  uniq : ∀ y ∈ scope.names, scope.names.lookup y.1 = some y.2
  ix : ∀ p ∈ own, N[p.2]? = some p.1
  free : ∀ y ∈ scope.names, y.2 = .free → sc.names.lookup y.1 = some .cell ∨ sc.names.lookup y.1 = some .free
  own : ∀ y ∈ scope.names, y.2 = .local ∨ y.2 = .cell → y.1 ∈ own.map (·.1) ∨ y.1 ∉ N
def wipe (σ : St) : List Nat → St
  | [] => σ
  | v :: vs => (wipe σ vs).set v none
theorem wipe_length (σ : St) : ∀ vs : List Nat, (wipe σ vs).length = σ.length
  | [] => rfl
  | v :: vs => by unfold wipe; rw [List.length_set, wipe_length σ vs]
theorem wipe_some {σ : St} {i : Nat} {x : V} : ∀ {vs : List Nat}, (wipe σ vs)[i]? = some (some x) → σ[i]? = some (some x) ∧ i ∉ vs
  | [], h => ⟨h, by simp⟩
  | v :: vs, h => by
    unfold wipe at h
    by_cases hi : v = i
    · subst hi
      by_cases hv : v < (wipe σ vs).length
      · rw [List.getElem?_set_self hv] at h; cases h
      · rw [List.getElem?_eq_none (by simpa using hv)] at h; cases h
    · rw [List.getElem?_set_ne hi] at h
      obtain ⟨h1, h2⟩ := wipe_some h
      exact ⟨h1, by simp only [List.mem_cons, not_or]; exact ⟨fun e => hi e.symm, h2⟩⟩
abbrev Cx.blk (X : Cx) (s : Shared) (H : Hp) (scope : Scope) (cenv : Env) (fp : List Addr) : Cx := { X with s_0 := s, H_0 := H, env := cenv, outer := X.stack, ex := fp, fn := fun x => scope.names.lookup x == some .cell, pn := [], xe := fun _ _ => False }
section
variable {X : Cx} {pins : List (Addr × Obj)} {σ : St} {H : Hp} {s : Shared}
theorem block_start {scope : Scope} {own : List (Str × Nat)} {fp : List Addr} (I : Inv X pins σ H s) (ok : BlkOk X.N X.env.scope scope own) (hN : X.N.Nodup) (hfp : ∀ b ∈ fp, FpOk X pins H b ∧ b < s.heap.objs.size) :
    Inv (X.blk s H scope (compEnvC scope (cellsFrom (s.heap.objs.size + 1) scope.names (cloFrom X.env.cells scope.names [])) s.heap.objs.size X.env) fp) [] (wipe σ (own.map (·.2))) H { s with heap := pushCells (s.heap.push { cls := .type "dict", data := .dict #[] }) scope.names } := by
  have hfree : ∀ y ∈ scope.names, y.2 = .free → ∃ c, X.env.cells.lookup y.1 = some c := fun y hy e => by
    rcases ok.free y hy e with k | k
    · exact I.ok.has _ (.inl k)
    · exact I.ok.has _ (.inr k)
  generalize hcenv : compEnvC scope (cellsFrom (s.heap.objs.size + 1) scope.names (cloFrom X.env.cells scope.names [])) s.heap.objs.size X.env = cenv
  have kp : ∀ b o, s.heap.get? b = some o → (pushCells (s.heap.push { cls := .type "dict", data := .dict #[] }) scope.names).get? b = some o := fun b o e => pushCells_keeps _ _ _ _ (Heap.get?_push_of_some _ e)
  have hL : cenv.locals = s.heap.objs.size := by rw [← hcenv]; rfl
  have hcl : cenv.cells = cellsFrom (s.heap.objs.size + 1) scope.names (cloFrom X.env.cells scope.names []) := by rw [← hcenv]; rfl
  have hsc : cenv.scope = relS scope X.env.scope := by rw [← hcenv]; rfl
  rw [← Heap.size_push s.heap { cls := .type "dict", data := .dict #[] }] at hcl
  have cm : ∀ {y c}, (y, c) ∈ cloFrom X.env.cells scope.names [] → X.env.cells.lookup y = some c ∧ c < s.heap.objs.size := fun {y c} hm => by
    rcases cloFrom_mem hm with hm | ⟨h1, rfl⟩
    · cases hm
    · obtain ⟨c, hc⟩ := hfree _ h1 rfl
      rw [hc]
      obtain ⟨w, z⟩ := I.cell _ _ hc
      exact ⟨rfl, z.lt⟩
  have mem : ∀ {y c}, cenv.cells.lookup y = some c → (X.env.cells.lookup y = some c ∧ c < s.heap.objs.size) ∨ (s.heap.objs.size + 1 ≤ c ∧ CellAt (pushCells (s.heap.push { cls := .type "dict", data := .dict #[] }) scope.names) c none) := fun {y c} e => by
    rw [hcl] at e
    rcases cells_mem (PySem.mem_of_lookup e) with hm | ⟨_, h2, h3⟩
    · exact .inl (cm hm)
    · rw [Heap.size_push] at h2; exact .inr ⟨h2, h3⟩
  have look : ∀ {y}, scope.names.lookup y = some .free → ∃ c, cenv.cells.lookup y = some c ∧ X.env.cells.lookup y = some c := fun {y} hl => by
    have hy : (y, NameKind.free) ∈ scope.names := PySem.mem_of_lookup hl
    obtain ⟨c', e'⟩ := mem_lookup (cells_acc (names := scope.names) (n := (s.heap.push { cls := .type "dict", data := .dict #[] }).objs.size) (cloFrom_has (cells := X.env.cells) (acc := []) hy))
    rw [← hcl] at e'
    refine ⟨c', e', ?_⟩
    rw [hcl] at e'
    rcases cells_mem (PySem.mem_of_lookup e') with hm | ⟨h1, _, _⟩
    · exact (cm hm).1
    · have := ok.uniq _ h1
      rw [hl] at this; cases this
  have okB : (X.blk s H scope cenv fp).Ok := by
    refine ⟨I.ok.mod, by show cenv.scope.kind = _; rw [hsc]; exact ok.kind, by show cenv.globals = _; rw [← hcenv]; exact I.ok.glob, by show cenv.builtins = _; rw [← hcenv]; exact I.ok.blt, by show s.heap.objs.size ≤ cenv.locals; rw [hL]; exact Nat.le_refl _,
      fun y z c e1 e2 => ?_, fun y hy => ?_, fun y c z e => ?_, I.ok.hd, I.ok.frames, .inl rfl, fun b hb => ⟨?_, fun y c e z => ?_⟩, I.bs, Nat.le_trans I.ok.bsz I.sz, fun b o e hb => ?_, fun b hb z => ?_, I.stack, I.stkFree⟩
    · have e1 : cenv.cells.lookup y = some c := e1
      have e2 : cenv.cells.lookup z = some c := e2
      rw [hcl] at e1 e2
      refine cells_inj (fun p hp => ?_) (fun y z c a b => I.ok.inj y z c (cm a).1 (cm b).1) (PySem.mem_of_lookup e1) (PySem.mem_of_lookup e2)
      rw [Heap.size_push]
      exact Nat.lt_succ_of_lt (cm (y := p.1) (c := p.2) hp).2
    · show ∃ c, cenv.cells.lookup y = some c
      have key : ∀ k, cenv.kindOf y = some k → (k = .cell ∨ k = .free) → ∃ c, cenv.cells.lookup y = some c := fun k hk hk' => by
        unfold Env.kindOf at hk
        rw [hsc] at hk
        obtain ⟨k', e, r⟩ := lookup_relS hk
        have : k' = .cell ∨ k' = .free := by
          rcases r with rfl | ⟨rfl, _⟩
          · exact hk'
          · exact .inr rfl
        rcases this with rfl | rfl
        · obtain ⟨c, hm⟩ := cells_has (n := (s.heap.push { cls := .type "dict", data := .dict #[] }).objs.size) (acc := cloFrom X.env.cells scope.names []) (PySem.mem_of_lookup e)
          obtain ⟨c', e'⟩ := mem_lookup hm
          exact ⟨c', by rw [hcl]; exact e'⟩
        · obtain ⟨c, h1, _⟩ := look e
          exact ⟨c, h1⟩
      rcases hy with hy | hy
      · exact key _ hy (.inl rfl)
      · exact key _ hy (.inr rfl)
    · have z : (scope.names.lookup y == some NameKind.cell) = true := z
      have z : scope.names.lookup y = some .cell := by simpa using z
      have e : cenv.cells.lookup y = some c := e
      rw [hcl] at e
      rcases cells_mem (PySem.mem_of_lookup e) with hm | ⟨_, h2, _⟩
      · rcases cloFrom_mem hm with hm | ⟨h1, _⟩
        · cases hm
        · have q := ok.uniq _ h1
          rw [z] at q; cases q
      · rw [Heap.size_push] at h2
        exact Nat.le_of_succ_le h2
    · show b ≠ cenv.locals
      rw [hL]; exact Nat.ne_of_lt (hfp b hb).2
    · have e : cenv.cells.lookup y = some c := e
      rcases mem e with ⟨h1, _⟩ | ⟨h1, _⟩
      · exact (hfp b hb).1.2.2.2.2.1 y c h1 z
      · have h2 : s.heap.objs.size + 1 ≤ b := by rw [← z]; exact h1
        exact absurd (Nat.lt_of_lt_of_le (hfp b hb).2 (Nat.le_of_succ_le h2)) (Nat.lt_irrefl _)
    · rcases (hfp b hb).1.2.2.2.1 with z | z
      · exact I.ok.noex b o e z
      · exact absurd (Nat.lt_of_lt_of_le (Heap.lt_size e) (Nat.le_trans I.ok.bsz z)) (Nat.lt_irrefl _)
    · rcases List.mem_cons.mp (I.stkSub b z) with z | z
      · exact (hfp b hb).1.2.1 z
      · exact (hfp b hb).1.2.2.1 z
  refine ⟨okB, rfl, I.bare, Un.kept kp, ⟨fun _ => none, ?_, fun i y av e1 e2 e3 => ?_⟩, fun y c e => ?_, ?_, fun y c e => ?_, fun p hp => ?_, I.hok.kept kp, by rw [wipe_length]; exact I.len⟩
  · show Heap.Ns _ cenv.locals _
    rw [hL]
    exact Heap.Ns.keeps (Heap.Ns.new ..) fun b o e => pushCells_keeps _ _ _ _ e
  · obtain ⟨e2, hne⟩ := wipe_some e2
    have hfr : scope.names.lookup y = some .free ∧ (cenv.kindOf y = some .cell ∨ cenv.kindOf y = some .free) := by
      have key : ∀ k, cenv.scope.names.lookup y = some k → k = .local ∨ k = .cell ∨ k = .free → scope.names.lookup y = some .free ∧ (cenv.kindOf y = some .cell ∨ cenv.kindOf y = some .free) := fun k hk hk' => by
        have hk0 := hk
        rw [hsc] at hk
        obtain ⟨k', e, r⟩ := lookup_relS hk
        have no : ¬ (k' = .local ∨ k' = .cell) := fun hh => by
          rcases ok.own _ (PySem.mem_of_lookup e) hh with e' | e'
          · obtain ⟨p, hp, hpy⟩ := List.mem_map.mp e'
            have e3 := ok.ix p hp
            have : p.1 = y := hpy
            rw [this] at e3
            exact hne (List.mem_map.mpr ⟨p, hp, nodup_ix hN e3 e1⟩)
          · exact e' (List.mem_of_getElem? e1)
        rcases r with rfl | ⟨rfl, rfl⟩
        · rcases hk' with rfl | rfl | rfl
          · exact absurd (.inl rfl) no
          · exact absurd (.inr rfl) no
          · exact ⟨e, .inr hk0⟩
        · exact ⟨e, .inl hk0⟩
      have e3 : Vis cenv.scope y := e3
      rcases e3 with e3 | e3 | e3
      · exact key _ e3 (.inl rfl)
      · exact key _ e3 (.inr (.inl rfl))
      · exact key _ e3 (.inr (.inr rfl))
    obtain ⟨m, hn, hl⟩ := I.loc
    have hvis : Vis X.env.scope y := (ok.free _ (PySem.mem_of_lookup hfr.1) rfl).elim (fun k => .inr (.inl k)) (fun k => .inr (.inr k))
    obtain ⟨w, r, q⟩ := hl i y av e1 e2 hvis
    refine ⟨w, r, .inr ⟨hfr.2, ?_⟩⟩
    obtain ⟨c, h1, h2⟩ := look hfr.1
    rcases q with ⟨k, _⟩ | ⟨_, c', e', z⟩
    · have k : X.env.scope.names.lookup y = some .local := k
      rcases ok.free _ (PySem.mem_of_lookup hfr.1) rfl with k' | k' <;> rw [show X.env.scope.names.lookup y = _ from k'] at k <;> cases k
    · rw [h2] at e'; cases e'
      exact ⟨c, h1, z.keeps kp⟩
  · have e : cenv.cells.lookup y = some c := e
    rcases mem e with ⟨h1, _⟩ | ⟨_, z⟩
    · obtain ⟨w, z⟩ := I.cell y c h1
      exact ⟨w, z.keeps kp⟩
    · exact ⟨_, z⟩
  · show H cenv.locals = none
    rw [hL]; exact I.hok.fresh (Nat.le_refl _)
  · have e : cenv.cells.lookup y = some c := e
    rcases mem e with ⟨h1, _⟩ | ⟨h1, _⟩
    · exact I.freeC y c h1
    · exact I.hok.fresh (Nat.le_of_succ_le h1)
  · exact absurd (show p ∈ ([] : List (Addr × Obj)) ++ [] from hp) (by simp)
theorem app_ok {E : Value → Shared → Prop} {D : Addr} {xs : List V} {y : V} {v : Value} {Q : Value → Shared → Prop} (I : Inv X pins σ H s) (hD : H D = some (.lst xs)) (hz : xs.length < sizeLine) (r : RelV y v)
    (h : ∀ s', Inv X pins σ (upd H D (.lst (xs ++ [y]))) s' → Q .none s') : wpAny (model X.prog X.w) X.A (call (.builtin "list.append") [.ref D, v]) Q E s := by
  obtain ⟨hz', its, n, ri, e⟩ := I.hok D _ hD
  have hl := ri.length
  refine append_at (hsz := by rw [List.size_toArray]; omega) e fun h' sb ho' => ?_
  refine h { s with heap := h' } (I.write (t' := s.toks) (by rw [hD]; trivial) (.inl rfl) (fun b u hb q => (sb.2 b hb).trans q) ⟨_, ho'⟩ ⟨by rw [List.length_append]; exact hz, its ++ [v], n + 1, ri.append (.cons r .nil), ?_⟩)
  rw [ho']
  simp
def PTs (X : Cx) (ifs : List Expr) (t : TT) : Prop :=
  ∀ (pins : List (Addr × Obj)) (s : Shared) (σ : St) (H : Hp) (Q : Bool → Hp → Prop), Inv X pins σ H s → t σ H Q →
    wpAny (model X.prog X.w) X.A (forIn ifs true fun c r => if r = true then do let ok ← isTrue c X.env (eval c X.env); pure (ForInStep.yield ok) else pure (ForInStep.yield r)) (TP X pins σ Q) X.xe s
def tYes : TT := fun _ H Q => Q true H
theorem pts_nil : PTs X [] tYes := fun _ _ _ H _ I h => wpAny_tests_nil ⟨H, I, h⟩
theorem pts_one {c : Expr} {t : TT} (h : PT X c t) : PTs X [c] t := fun pins s σ H Q I hw => wpAny_tests_one (h pins s σ H Q I hw)
end
theorem thnF {α : Type} {t : Sem α} {Q Q' : α → Shared → Prop} {M : Model} {A : Around} {E : Value → Shared → Prop} {s : Shared} (h : wpAny M A t Q (fun _ _ => False) s) (hQ : ∀ a s, Q a s → Q' a s) : wpAny M A t Q' E s := wpAny_mono h hQ fun _ _ z => False.elim z
theorem compLoop_any {prog : Program} {w : World} {A : Around} {R : Result → Shared → Prop} {s : Shared} {elt target iter : Expr} {ifs : List Expr} {scope : Scope} {pos : Pos} {it acc : Value} {env : Env} (I : Nat → Shared → Prop)
    (turn : ∀ n s, I n s → wpAny (model prog w) A (pyNext it) (fun r s₁ => match r with
      | none => R (.ok .next) s₁
      | some v => wpAny (model prog w) A (letOwnedTupleGo target it v) (fun _ s₁' => wpAny (model prog w) A (assign target env v) (fun _ s₂ =>
          wpAny (model prog w) A (forIn ifs true fun c r => if r = true then do let ok ← isTrue c env (eval c env); pure (ForInStep.yield ok) else pure (ForInStep.yield r)) (fun ok s₃ =>
            if ok = true then wpAny (model prog w) A (eval elt env) (fun x s₄ =>
              wpAny (model prog w) A (call (.builtin "list.append") [acc, x]) (fun _ s₅ => ∃ m, m < n ∧ I m s₅) (notedBy (model prog w) A env fun e s' => R (.error e) s') s₄) (notedBy (model prog w) A env fun e s' => R (.error e) s') s₃
            else ∃ m, m < n ∧ I m s₃) (notedBy (model prog w) A env fun e s' => R (.error e) s') s₂) (notedBy (model prog w) A env fun e s' => R (.error e) s') s₁') (notedBy (model prog w) A env fun e s' => R (.error e) s') s₁) (notedBy (model prog w) A env fun e s' => R (.error e) s') s)
    (n : Nat) (h : I n s) :
    codeAny (model prog w) A (.compLoop (.ListComp elt [⟨target, iter, ifs, 0⟩] scope pos) 0 it acc env) R s := by
  refine codeAny_loop rfl I (fun n s hI => ?_) n h
  show wpAny _ A ((compTurn (.ListComp elt [⟨target, iter, ifs, 0⟩] scope pos) 0 it acc env).onRaise (fun x => do noteFrame x env; theTreesLotGoes x)) _ _ s
  refine wpAny_noted ?_
  rw [compTurn_list]
  refine wpAny_bind (wpAny_standAt (wpAny_bind (wpAny_mono (turn n s hI) (fun r s₁ h₁ => ?_) fun _ _ h' => h')))
  cases r with
  | none => exact wpAny_pure h₁
  | some v =>
    refine wpAny_bind (wpAny_mono h₁ (fun _ s₁' h₁' => ?_) fun _ _ h' => h')
    refine wpAny_bind (wpAny_mono h₁' (fun _ s₂ h₂ => wpAny_bind (wpAny_mono h₂ (fun ok s₃ h₃ => ?_) fun _ _ h' => h')) fun _ _ h' => h')
    cases ok with
    | false => exact wpAny_pure ⟨rfl, h₃⟩
    | true =>
      exact wpAny_bind (wpAny_bind (wpAny_mono h₃ (fun x s₄ h₄ => wpAny_bind (wpAny_mono h₄ (fun _ s₅ h₅ => wpAny_pure (wpAny_pure ⟨rfl, h₅⟩)) fun _ _ h' => h')) fun _ _ h' => h'))
section
variable {X : Cx}
def tLc (wi : TI) (g : TG) (tt : TT) (te : TE) (vs : List Nat) : TE := fun σ H Q => wi σ H fun J H1 => ∀ D, H1 D = none → ∃ W : Nat → Nat → Hp → Prop, (∃ m, W 0 m (upd H1 D (.lst []))) ∧ ∀ i m H, W i m H →
  (J.stop i H ∧ Q (.ref D) H) ∨ (J.go i H ∧ ∃ Nx : Hp → Prop, (∀ H', Nx H' → ∃ m', m' < m ∧ W (i + 1) m' H') ∧ ∀ x H', J.yld i H x H' → g x (wipe σ vs) H' fun σ2 H2 => wipe σ2 vs = wipe σ vs ∧ tt σ2 H2 fun b H3 =>
    if b = true then te σ2 H3 fun y H4 => ∃ acc, H4 D = some (.lst acc) ∧ acc.length < sizeLine ∧ Nx (upd H4 D (.lst (acc ++ [y]))) else Nx H3)
theorem lc_core {pins : List (Addr × Obj)} {s : Shared} {σ : St} {H : Hp} {Q : VK} {elt tg iter : Expr} {ifs : List Expr} {scope : Scope} {own : List (Str × Nat)} {pos pos' : Pos} {wi : TI} {g : TG} {tt : TT} {te : TE} {use : Option (Value → Sem Unit)} {Qf : Value → Shared → Prop}
    (hc : X.calm = true) (hN : X.N.Nodup) (I : Inv X pins σ H s) (hi : PI X tg iter wi) (ok : BlkOk X.N X.env.scope scope own)
    (hg : ∀ (s : Shared) (H : Hp) (C : Addr) (cl : List (Str × Addr)) (fp : List Addr), PG (X.blk s H scope (compEnvC scope cl C X.env) fp) tg g) (ht : ∀ (s : Shared) (H : Hp) (C : Addr) (cl : List (Str × Addr)) (fp : List Addr), PTs (X.blk s H scope (compEnvC scope cl C X.env) fp) ifs tt)
    (he : ∀ (s : Shared) (H : Hp) (C : Addr) (cl : List (Str × Addr)) (fp : List Addr), PE (X.blk s H scope (compEnvC scope cl C X.env) fp) elt te) (hs : ∀ x, foldedSetIterable iter X.env x = pure x)
    (h : tLc wi g tt te (own.map (·.2)) σ H Q)
    (hRR : ∀ D C s' m H', Inv X pins σ H' s' → Q (.ref D) H' → s'.heap.Ns C m → FpOk X pins H' C → compPost (model X.prog X.w) X.A X.xe use Qf (.ref D) C (.ok .next) s') :
    wpAny (model X.prog X.w) X.A (comprehension (.ListComp elt [⟨tg, iter, ifs, 0⟩] scope pos) scope X.env pos' (newList []) false (eval iter X.env) use) Qf X.xe s := by
  have hfree : ∀ y ∈ scope.names, y.2 = .free → ∃ c, X.env.cells.lookup y.1 = some c := fun y hy e => by
    rcases ok.free y hy e with k | k
    · exact I.ok.has _ (.inl k)
    · exact I.ok.has _ (.inr k)
  refine wpAny_comprehension_free (use := use) rfl hs (closure_ok hfree) ok.kind (fun y hy e => by rw [ok.uniq y hy, e])
    (thn (hi pins s σ H _ I h) fun xv s1 hx => thn hx fun itv s2 h2 => ?_)
  obtain ⟨it, fp, tn, J, H2, e, I2, T, st2, f2, q⟩ := h2
  subst e
  refine wpAny_newObj_type (newEnv_comp ?_) (by show 0 ≤ sizeLine; decide)
  generalize hD : s2.heap.objs.size = D
  have hDn : H2 D = none := I2.hok.fresh (Nat.le_of_eq hD)
  obtain ⟨W, ⟨m0, w0⟩, turn⟩ := q D hDn
  generalize hs3 : ({ s2 with heap := s2.heap.push { cls := .type "list", data := .seq ([] : List Value).toArray } } : Shared) = s3
  have I3 : Inv X pins σ (upd H2 D (.lst [])) s3 := by
    rw [← hs3]
    refine I2.laid (t' := s2.toks) (fun b o e => Heap.get?_push_of_some _ e) (Nat.le_of_eq hD) ⟨Nat.zero_le _, [], 0, .nil, ?_⟩
    rw [← hD]
    exact Heap.get?_push_size _ rfl
  have h3 : s3.heap = s2.heap.push { cls := .type "list", data := .seq ([] : List Value).toArray } := by rw [← hs3]
  have sz : ∀ b ∈ fp, b < s2.heap.objs.size := fun b hb => by
    obtain ⟨o, e, _⟩ := T.obj _ _ st2 b hb
    exact Heap.lt_size e
  have f3 : ∀ b ∈ fp, FpOk X pins (upd H2 D (.lst [])) b ∧ b < s3.heap.objs.size := fun b hb => by
    have hlt := sz b hb
    refine ⟨⟨?_, (f2 b hb).2⟩, by rw [h3, Heap.size_push]; exact Nat.lt_succ_of_lt hlt⟩
    rw [upd_ne (by rw [← hD]; exact Nat.ne_of_lt hlt)]
    exact (f2 b hb).1
  have st3 : tn 0 s3.heap := T.keep _ _ _ st2 fun b _ o e => by rw [h3]; exact Heap.get?_push_of_some _ e
  have I4 := block_start I3 ok hN f3
  have pg := hg s3 (upd H2 D (.lst [])) s3.heap.objs.size (cellsFrom (s3.heap.objs.size + 1) scope.names (cloFrom X.env.cells scope.names [])) fp
  have pt := ht s3 (upd H2 D (.lst [])) s3.heap.objs.size (cellsFrom (s3.heap.objs.size + 1) scope.names (cloFrom X.env.cells scope.names [])) fp
  have pe := he s3 (upd H2 D (.lst [])) s3.heap.objs.size (cellsFrom (s3.heap.objs.size + 1) scope.names (cloFrom X.env.cells scope.names [])) fp
  show codeAny _ _ (.compStart (.ListComp elt [⟨tg, iter, ifs, 0⟩] scope pos) 0 (.ref it) (.ref D) (compEnvC scope (cellsFrom (s3.heap.objs.size + 1) scope.names (cloFrom X.env.cells scope.names [])) s3.heap.objs.size X.env)) (compPost (model X.prog X.w) X.A X.xe use Qf (.ref D) s3.heap.objs.size) { s3 with heap := pushCells (s3.heap.push { cls := .type "dict", data := .dict #[] }) scope.names }
  have nfp : ∀ b ∈ fp, (upd H2 D (.lst [])) b = none := fun b hb => (f3 b hb).1.1
  generalize hce : compEnvC scope (cellsFrom (s3.heap.objs.size + 1) scope.names (cloFrom X.env.cells scope.names [])) s3.heap.objs.size X.env = ce at I4 pg pt pe ⊢
  have cL : ce.locals = s3.heap.objs.size := by subst hce; rfl
  generalize hH3 : upd H2 D (.lst []) = H3 at I3 I4 pg pt pe w0 nfp f3
  generalize hs4 : ({ s3 with heap := pushCells (s3.heap.push { cls := .type "dict", data := .dict #[] }) scope.names } : Shared) = s4 at I4 ⊢
  have st4 : tn 0 s4.heap := T.keep _ _ _ st3 fun b _ o e => by rw [← hs4]; exact pushCells_keeps _ _ _ _ (Heap.get?_push_of_some _ e)
  have stat : ∀ {σ' : St} {H' : Hp} {s' : Shared}, Inv (X.blk s3 H3 scope ce fp) [] σ' H' s' → (∀ b ∈ fp, H' b = none) → ∀ b ∈ fp, FpOk (X.blk s3 H3 scope ce fp) [] H' b := fun {σ' H' s'} I' hn b hb =>
    ⟨hn b hb, (I'.ok.exf b hb).1, I'.ok.exfs b hb, .inl hb, fun x c e => (I'.ok.exf b hb).2 x c e, fun p hp => absurd (show p ∈ ([] : List (Addr × Obj)) ++ [] from hp) (by simp)⟩
  have loop : codeAny (model X.prog X.w) X.A (.compLoop (.ListComp elt [⟨tg, iter, ifs, 0⟩] scope pos) 0 (.ref it) (.ref D) ce) (compPost (model X.prog X.w) X.A X.xe use Qf (.ref D) s3.heap.objs.size) s4 := by
    refine compLoop_any (fun n s' => ∃ i H', Inv (X.blk s3 H3 scope ce fp) [] (wipe σ (own.map (·.2))) H' s' ∧ tn i s'.heap ∧ (∀ b ∈ fp, H' b = none) ∧ W i n H') ?_ m0 ⟨0, H3, I4, st4, nfp, w0⟩
    rintro n s5 ⟨i, H5, I5, st5, n5, w5⟩
    rcases turn i n H5 w5 with ⟨stop, qq⟩ | ⟨go, Nx, hNx, step⟩
    · have td := T.done (X.blk s3 H3 scope ce fp) rfl rfl rfl hc i [] s5 _ H5 (fun _ _ => False) I5 (stat I5 n5) st5 stop
      refine thnF td fun r s6 ⟨hr, I6⟩ => ?_
      subst hr
      have I7 : Inv X pins σ H5 s6 := I3.call' (ch := fp) I6.os I6.base I6.hok I6.bare fun b hb => ⟨(f3 b hb).1.2.2.2.1, (f3 b hb).1.2.1, (f3 b hb).1.2.2.2.2.1, (f3 b hb).1.2.2.2.2.2⟩
      have nC : H5 s3.heap.objs.size = none := by
        have z : H5 ce.locals = none := I6.free
        rw [cL] at z
        exact z
      obtain ⟨m, hn, _⟩ := I6.loc
      have hn : s6.heap.Ns ce.locals m := hn
      rw [cL] at hn
      exact hRR D s3.heap.objs.size s6 m H5 I7 qq hn (I3.fpOk (Nat.le_refl _) nC)
    · have ti := T.item (X.blk s3 H3 scope ce fp) rfl rfl rfl hc i [] s5 _ H5 (fun _ _ => False) I5 (stat I5 n5) st5 go
      refine thnF ti fun r s6 ⟨u, hr, h6⟩ => ?_
      subst hr
      refine thnF h6 fun _ s7 ⟨x, H7, I7, r7, y7, st7, n7⟩ => ?_
      have I7' := I7.pinned (stat I7 n7) (T.obj _ _ st7)
      refine thnF (pg _ s7 _ H7 x u _ I7' r7 (step x H7 y7)) fun _ s8 ⟨σ8, H8, I8, hw8, q8⟩ => ?_
      refine thnF (pt _ s8 σ8 H8 _ I8 q8) fun b s9 ⟨H9, I9, q9⟩ => ?_
      have fin : ∀ {s' : Shared} {H' : Hp}, Inv (X.blk s3 H3 scope ce fp) ([] ++ pinsAt fp s7.heap) σ8 H' s' → Nx H' → ∃ m, m < n ∧ ∃ i H', Inv (X.blk s3 H3 scope ce fp) [] (wipe σ (own.map (·.2))) H' s' ∧ tn i s'.heap ∧ (∀ b ∈ fp, H' b = none) ∧ W i m H' := fun {s' H'} I' nx => by
        obtain ⟨m', hm, w'⟩ := hNx H' nx
        have pin' : ∀ b ∈ fp, ∀ o, s7.heap.get? b = some o → s'.heap.get? b = some o ∧ H' b = none := fun b hb o e =>
          let z := I'.pin (b, o) (List.mem_append_right _ (List.mem_append_right _ (mem_pinsAt hb e)))
          ⟨z.1, z.2.1⟩
        have hl : (wipe σ (own.map (·.2))).length = σ8.length := by rw [← hw8, wipe_length]
        refine ⟨m', hm, i + 1, H', (I'.unpinned (pins := [])).weak hl (fun j v e => ?_), T.keep _ _ _ st7 fun b hb o e => (pin' b hb o e).1, fun b hb => ?_, w'⟩
        · rw [← hw8] at e
          exact (wipe_some e).1
        · obtain ⟨o, e, _⟩ := T.obj _ _ st7 b hb
          exact (pin' b hb o e).2
      cases b with
      | false =>
        simp only [Bool.false_eq_true, if_false] at q9 ⊢
        exact fin I9 q9
      | true =>
        simp only [if_true] at q9 ⊢
        refine thnF (pe _ s9 σ8 H9 _ I9 q9) fun z s10 ⟨yv, H10, I10, r10, acc, hD10, hz10, nx⟩ => ?_
        exact app_ok (X := X.blk s3 H3 scope ce fp) I10 hD10 hz10 r10 fun s11 I11 => fin I11 nx
  exact codeAny_compStart_list loop (T.self X.A 0 _ _ _ st4 loop)
theorem pe_lc {elt tg iter : Expr} {ifs : List Expr} {scope : Scope} {own : List (Str × Nat)} {pos : Pos} {wi : TI} {g : TG} {tt : TT} {te : TE} (hc : X.calm = true) (hN : X.N.Nodup) (hi : PI X tg iter wi) (ok : BlkOk X.N X.env.scope scope own)
    (hg : ∀ (s : Shared) (H : Hp) (C : Addr) (cl : List (Str × Addr)) (fp : List Addr), PG (X.blk s H scope (compEnvC scope cl C X.env) fp) tg g) (ht : ∀ (s : Shared) (H : Hp) (C : Addr) (cl : List (Str × Addr)) (fp : List Addr), PTs (X.blk s H scope (compEnvC scope cl C X.env) fp) ifs tt)
    (he : ∀ (s : Shared) (H : Hp) (C : Addr) (cl : List (Str × Addr)) (fp : List Addr), PE (X.blk s H scope (compEnvC scope cl C X.env) fp) elt te) (hs : ∀ x, foldedSetIterable iter X.env x = pure x := by intro _; rfl) :
    PE X (.ListComp elt [⟨tg, iter, ifs, 0⟩] scope pos) (tLc wi g tt te (own.map (·.2))) := by
  intro pins s σ H Q I h
  rw [eval_ListComp]
  refine lc_core hc hN I hi ok hg ht he hs h fun D C s' m H' I' q hn f => ⟨m, hn, fun h'' sb => ?_⟩
  obtain ⟨f0, f1, f2, f3, f4, f5⟩ := f
  exact ⟨.ref D, H', I'.turned (t' := s'.toks) (fun b o hb e => (sb.2 b hb).trans e) f0 f1 f3 f4 f5, rfl, q⟩
theorem ps_setLc {i : Nat} {y : Str} {py : Pos} {elt tg iter : Expr} {ifs : List Expr} {scope : Scope} {own : List (Str × Nat)} {pos spos : Pos} {wi : TI} {g : TG} {tt : TT} {te : TE} (hc : X.calm = true) (hN : X.N.Nodup) (hy : X.N[i]? = some y) (hyl : X.env.scope.names.lookup y = some .local)
    (hsw : swapsWith (.ListComp elt [⟨tg, iter, ifs, 0⟩] scope pos) (some (.Name y py)) spos.line X.env = pure true) (hi : PI X tg iter wi) (ok : BlkOk X.N X.env.scope scope own)
    (hg : ∀ (s : Shared) (H : Hp) (C : Addr) (cl : List (Str × Addr)) (fp : List Addr), PG (X.blk s H scope (compEnvC scope cl C X.env) fp) tg g) (ht : ∀ (s : Shared) (H : Hp) (C : Addr) (cl : List (Str × Addr)) (fp : List Addr), PTs (X.blk s H scope (compEnvC scope cl C X.env) fp) ifs tt)
    (he : ∀ (s : Shared) (H : Hp) (C : Addr) (cl : List (Str × Addr)) (fp : List Addr), PE (X.blk s H scope (compEnvC scope cl C X.env) fp) elt te) (hs : ∀ x, foldedSetIterable iter X.env x = pure x := by intro _; rfl) :
    PS X (.Assign [.Name y py] (.ListComp elt [⟨tg, iter, ifs, 0⟩] scope pos) spos) (tAsg (tLc wi g tt te (own.map (·.2))) (gName i)) := by
  intro pins s σ H D I h
  rw [exec_Assign_Name_used _ _ _ _ hsw]
  refine wpAny_bind (wpAny_standAt (wpAny_bind ?_))
  show wpAny _ X.A (do let _ ← comprehension (.ListComp elt [⟨tg, iter, ifs, 0⟩] scope pos) scope X.env (firstIterPos [⟨tg, iter, ifs, 0⟩] pos) (newList []) false (eval iter X.env) (some (assign (.Name y py) X.env))) _ _ s
  have h : tLc wi g tt te (own.map (·.2)) σ H (fun x H1 => gName i x σ H1 D.nx) := h
  refine wpAny_bind (thn (lc_core (Qf := fun _ s' => SP X pins D .next s') hc hN I hi ok hg ht he hs h fun L C s' m H' I' q hn f => ?_) fun _ s' hq => wpAny_pure (wpAny_pure hq))
  show wpAny _ _ (assign (.Name y py) X.env (.ref L)) _ _ _
  refine wpAny_assign_Name (store_ok2 (v := V.ref L) I' hN hy (.inl hyl) rfl (fun s2 I2 ⟨a, sb, ha⟩ => ?_) (.inr hyl))
  obtain ⟨f0, f1, f2, f3, f4, f5⟩ := f
  have haC : C ≠ a := by
    rcases ha with z | z
    · rw [z]; exact f1
    · exact fun e => f4 y a z e.symm
  refine ⟨m, hn.sameBut sb haC, fun h3 sb3 => ?_⟩
  exact ⟨_, H', I2.turned (t' := s2.toks) (fun b o hb e => (sb3.2 b hb).trans e) f0 f1 f3 f4 f5, q⟩
theorem sw_true {elt : Expr} {gs : List Comprehension} {scope : Scope} {pos py : Pos} {y : Str} {l : Nat} {env : Env} (hk : env.scope.kind = .function) (hy : env.scope.names.lookup y = some .local) (hl : (py.line == pos.line) = true)
    (ha : (scope.names.any fun (n, k) => n == y && (k == .local || k == .cell)) = false) : swapsWith (.ListComp elt gs scope pos) (some (.Name y py)) l env = pure true := by
  have ky : env.kindOf y = some .local := hy
  have hb : env.blockKind = .function := by unfold Env.blockKind; rw [hk]; rfl
  unfold swapsWith
  simp only [hb, ky, ha, Expr.pos, hl]
  rfl
end
theorem lc_list {K : PySem.W.Frag} {a : Addr} {xs : List V} {g : TG} {tt : TT} {te : TE} {vs : List Nat} {σ : St} {H1 : Hp} {D : Addr} {Qd : Hp → Prop} (Pv : Nat → Hp → Prop) (h0 : Pv 0 (upd H1 D (.lst []))) (hl : ∀ i H, i ≤ xs.length → Pv i H → SqL K H a xs)
    (hs : ∀ i x H, xs[i]? = some x → Pv i H → g x (wipe σ vs) H fun σ2 H2 => wipe σ2 vs = wipe σ vs ∧ tt σ2 H2 fun b H3 =>
      if b = true then te σ2 H3 fun y H4 => ∃ acc, H4 D = some (.lst acc) ∧ acc.length < sizeLine ∧ Pv (i + 1) (upd H4 D (.lst (acc ++ [y]))) else Pv (i + 1) H3) (hd : ∀ H, Pv xs.length H → Qd H) :
    ∃ W : Nat → Nat → Hp → Prop, (∃ m, W 0 m (upd H1 D (.lst []))) ∧ ∀ i m H, W i m H →
      ((Itl K a).stop i H ∧ Qd H) ∨ ((Itl K a).go i H ∧ ∃ Nx : Hp → Prop, (∀ H', Nx H' → ∃ m', m' < m ∧ W (i + 1) m' H') ∧ ∀ x H', (Itl K a).yld i H x H' → g x (wipe σ vs) H' fun σ2 H2 => wipe σ2 vs = wipe σ vs ∧ tt σ2 H2 fun b H3 =>
        if b = true then te σ2 H3 fun y H4 => ∃ acc, H4 D = some (.lst acc) ∧ acc.length < sizeLine ∧ Nx (upd H4 D (.lst (acc ++ [y]))) else Nx H3) := by
  refine ⟨fun i m H => m = xs.length - i ∧ i ≤ xs.length ∧ Pv i H, ⟨xs.length, by simp, Nat.zero_le _, h0⟩, ?_⟩
  rintro i m H ⟨rfl, hi, p⟩
  have q := hl i H hi p
  by_cases hlt : i < xs.length
  · refine .inr ⟨⟨xs, xs[i], q, by simp [hlt]⟩, Pv (i + 1), fun H' p' => ⟨xs.length - (i + 1), by omega, rfl, hlt, p'⟩, fun x H' y => ?_⟩
    obtain ⟨e, y⟩ := y
    subst e
    exact hs i x _ (y xs q) p
  · have e : i = xs.length := by omega
    subst e
    exact .inl ⟨⟨xs, q, Nat.le_refl _⟩, hd H p⟩
def blkC (N : List Str) (sc scope : Scope) (own : List (Str × Nat)) : Bool :=
  (match scope.kind with | .function => true | _ => false) && (scope.names.all fun y => decide (scope.names.lookup y.1 = some y.2)) && (own.all fun p => decide (N[p.2]? = some p.1)) &&
    (scope.names.all fun y => match y.2 with
      | .free => (match sc.names.lookup y.1 with | some .cell => true | some .free => true | _ => false)
      | .local => decide (y.1 ∈ own.map (·.1)) || decide (y.1 ∉ N)
      | .cell => decide (y.1 ∈ own.map (·.1)) || decide (y.1 ∉ N)
      | _ => true)
theorem blkOk_by {N : List Str} {sc scope : Scope} {own : List (Str × Nat)} (h : blkC N sc scope own = true) : BlkOk N sc scope own := by
  unfold blkC at h
  simp only [Bool.and_eq_true, List.all_eq_true, decide_eq_true_eq] at h
  obtain ⟨⟨⟨h1, h2⟩, h3⟩, h4⟩ := h
  refine ⟨?_, h2, h3, fun y hy e => ?_, fun y hy e => ?_⟩
  · split at h1
    · assumption
    · cases h1
  · have q := h4 y hy
    simp only [e] at q
    split at q <;> first | exact .inl (by assumption) | exact .inr (by assumption) | cases q
  · have q := h4 y hy
    rcases e with e | e <;> (simp only [e, Bool.or_eq_true, decide_eq_true_eq] at q; exact q)
end L2
namespace L2
open PySem PySem.Spec PyProof.Rows
section
variable {prog : Program} {w : World} {A : Around} {R : Result → Shared → Prop} {s : Shared} {elt t0 i0 t1 i1 : Expr} {ifs0 ifs1 : List Expr} {scope : Scope} {pos : Pos} {it acc : Value} {env : Env}
end
section
variable {X : Cx}
end
end L2
namespace L2
open PySem PySem.Spec PyProof.Rows
section
variable {κ : Type} [DecidableEq κ]
def valV (kvs : List (κ × V)) (k : κ) : Option V := (kvs.find? fun kv => decide (kv.1 = k)).map (·.2)
def putK (kvs : List (κ × V)) (k : κ) (v : V) : List (κ × V) :=
  if (kvs.any fun kv => decide (kv.1 = k)) = true then kvs.map (fun kv => if kv.1 = k then (kv.1, v) else kv) else kvs ++ [(k, v)]
theorem valV_pos {p : κ × V} {r : List (κ × V)} {k : κ} (e : p.1 = k) : valV (p :: r) k = some p.2 := by simp [valV, List.find?_cons, e]
theorem valV_neg {p : κ × V} {r : List (κ × V)} {k : κ} (e : ¬ p.1 = k) : valV (p :: r) k = valV r k := by simp [valV, List.find?_cons, e]
theorem valV_any (k : κ) : ∀ kvs : List (κ × V), (kvs.any fun kv => decide (kv.1 = k)) = (valV kvs k).isSome
  | [] => rfl
  | p :: r => by
    rw [List.any_cons]
    by_cases e : p.1 = k
    · simp only [valV_pos e, decide_eq_true e, Bool.true_or, Option.isSome_some]
    · rw [valV_neg e, decide_eq_false e, Bool.false_or]; exact valV_any k r
theorem length_putK (kvs : List (κ × V)) (k : κ) (v : V) : (putK kvs k v).length ≤ kvs.length + 1 := by
  unfold putK
  split
  · rw [List.length_map]; omega
  · rw [List.length_append, List.length_cons, List.length_nil]; omega
theorem RelO.isSome_eq {o : Option V} {u : Option Value} (r : RelO o u) : o.isSome = u.isSome := by
  cases o with
  | none => cases u with
    | none => rfl
    | some _ => exact (show False from r).elim
  | some _ => cases u with
    | none => exact (show False from r).elim
    | some _ => rfl
theorem RelO.getD {o : Option V} {u : Option Value} {d : V} {d' : Value} (r : RelO o u) (rd : RelV d d') : RelV (o.getD d) (u.getD d') := by
  cases o with
  | none => cases u with
    | none => exact rd
    | some _ => exact (show False from r).elim
  | some _ => cases u with
    | none => exact (show False from r).elim
    | some _ => exact r
theorem KV.val {kvs : List (κ × V)} {vs : List (κ × Value)} (r : KV kvs vs) (k : κ) : RelO (valV kvs k) (valueAt vs k) := by
  unfold KV at r
  induction r with
  | nil => exact True.intro
  | @cons p q ps qs h t ih =>
    obtain ⟨h1, h2⟩ := h
    by_cases e : p.1 = k
    · have e' : q.1 = k := h1.symm.trans e
      have b : valueAt (q :: qs) k = some q.2 := by simp [valueAt, List.find?_cons, e']
      rw [valV_pos e, b]; exact h2
    · have e' : ¬ q.1 = k := fun z => e (h1.trans z)
      have b : valueAt (q :: qs) k = valueAt qs k := by simp [valueAt, List.find?_cons, e']
      rw [valV_neg e, b]; exact ih
theorem KV.any {kvs : List (κ × V)} {vs : List (κ × Value)} (r : KV kvs vs) (k : κ) : (kvs.any fun kv => decide (kv.1 = k)) = vs.any fun kv => decide (kv.1 = k) := by
  unfold KV at r
  induction r with
  | nil => rfl
  | cons h t ih => rw [List.any_cons, List.any_cons, ih, h.1]
theorem KV.repl {kvs : List (κ × V)} {vs : List (κ × Value)} (r : KV kvs vs) (k : κ) {y : V} {u : Value} (ry : RelV y u) :
    KV (kvs.map fun kv => if kv.1 = k then (kv.1, y) else kv) (vs.map fun kv => if kv.1 = k then (kv.1, u) else kv) := by
  unfold KV at r ⊢
  induction r with
  | nil => exact .nil
  | @cons p q ps qs h t ih =>
    rw [List.map_cons, List.map_cons]
    refine .cons ?_ ih
    obtain ⟨h1, h2⟩ := h
    by_cases e : p.1 = k
    · rw [if_pos e, if_pos (h1.symm.trans e)]; exact ⟨h1, ry⟩
    · rw [if_neg e, if_neg (fun z => e (h1.trans z))]; exact ⟨h1, h2⟩
theorem KV.put {kvs : List (κ × V)} {vs : List (κ × Value)} (r : KV kvs vs) (k : κ) {y : V} {u : Value} (ry : RelV y u) : KV (putK kvs k y) (stored vs k u) := by
  unfold putK stored
  rw [r.any k]
  by_cases e : (vs.any fun kv => decide (kv.1 = k)) = true
  · rw [if_pos e, if_pos e]; exact r.repl k ry
  · rw [if_neg e, if_neg e]; exact Paired.snoc r ⟨rfl, ry⟩
theorem KV.length {kvs : List (κ × V)} {vs : List (κ × Value)} (r : KV kvs vs) : kvs.length = vs.length := Paired.length r
end
theorem kV_is {P : Program} {w : World} {k : Key} {u : Value} (r : RelV (kV k) u) : (mixKind P w).is k u = true := by
  cases k with
  | inl i => obtain ⟨t, e⟩ := (show ∃ t, u = Value.int i t from r); subst e; exact mixKind_int P w i t
  | inr x => obtain ⟨t, e⟩ := (show ∃ t, u = Value.str x t from r); subst e; exact mixKind_str P w x t
theorem items_are {P : Program} {w : World} : ∀ {ks : List Key} {us : List Value}, Vals (ks.map kV) us → ItemsAre (mixKind P w) ks us
  | [], _, r => by rw [List.map_nil] at r; cases r; exact .nil
  | k :: ks, _, r => by
    rw [List.map_cons] at r
    cases r with
    | cons h t => exact .cons (kV_is h) (items_are t)
abbrev KT (H : Hp) : List (List Key × V) → List (List Key × Addr × Value) → Prop := Paired fun p q => p.1 = q.1 ∧ H q.2.1 = some (.tup (p.1.map kV)) ∧ RelV p.2 q.2.2
theorem KT.val {H : Hp} {kvs : List (List Key × V)} {xs : List (List Key × Addr × Value)} (r : KT H kvs xs) (k : List Key) : RelO (valV kvs k) ((atKey xs k).map (·.2)) := by
  induction r with
  | nil => exact True.intro
  | @cons p q ps qs h t ih =>
    obtain ⟨h1, _, h2⟩ := h
    by_cases e : p.1 = k
    · have e' : q.1 = k := h1.symm.trans e
      have b : atKey (q :: qs) k = some q.2 := by simp [atKey, List.find?_cons, e']
      rw [valV_pos e, b]; exact h2
    · have e' : ¬ q.1 = k := fun z => e (h1.trans z)
      have b : atKey (q :: qs) k = atKey qs k := by simp [atKey, List.find?_cons, e']
      rw [valV_neg e, b]; exact ih
theorem KT.repl {H : Hp} {kvs : List (List Key × V)} {xs : List (List Key × Addr × Value)} (r : KT H kvs xs) (k : List Key) {y : V} {u : Value} (ry : RelV y u) :
    KT H (kvs.map fun kv => if kv.1 = k then (kv.1, y) else kv) (xs.map (putAt k u)) := by
  induction r with
  | nil => exact .nil
  | @cons p q ps qs h t ih =>
    rw [List.map_cons, List.map_cons]
    refine .cons ?_ ih
    obtain ⟨h1, h2, h3⟩ := h
    unfold putAt
    by_cases e : p.1 = k
    · rw [if_pos e, if_pos (h1.symm.trans e)]; exact ⟨h1, h2, ry⟩
    · rw [if_neg e, if_neg (fun z => e (h1.trans z))]; exact ⟨h1, h2, h3⟩
theorem KT.put {H : Hp} {kvs : List (List Key × V)} {xs : List (List Key × Addr × Value)} (r : KT H kvs xs) (k : List Key) {b : Addr} {y : V} {u : Value} (hb : H b = some (.tup (k.map kV))) (ry : RelV y u) :
    KT H (putK kvs k y) (storedH xs k b u) := by
  have e : (kvs.any fun kv => decide (kv.1 = k)) = (atKey xs k).isSome := by
    rw [valV_any, (r.val k).isSome_eq, Option.isSome_map]
  unfold putK storedH
  rw [e]
  by_cases q : (atKey xs k).isSome = true
  · rw [if_pos q, if_pos q]; exact r.repl k ry
  · rw [if_neg q, if_neg q]; exact Paired.snoc r ⟨rfl, hb, ry⟩
theorem KT.keeps {H H' : Hp} {kvs : List (List Key × V)} {xs : List (List Key × Addr × Value)} (r : KT H kvs xs) (ht : ∀ b ys, H b = some (.tup ys) → H' b = some (.tup ys)) : KT H' kvs xs :=
  Paired.mapP r fun _ _ z => ⟨z.1, ht _ _ z.2.1, z.2.2⟩
section
variable {P : Program} {w : World} {H : Hp} {h : Heap} {a : Addr}
theorem rd_of {u : HO} (ok : HOk P w H h) (e : Rd H a u) : ObjOk P w H h a u := e.ok ok
theorem dk_rd {kvs : List (Key × V)} (ok : HOk P w H h) (e : Rd H a (.dK kvs)) : kvs.length ≤ sizeLine ∧ (a == sysModules) = false ∧ ∃ vs, KV kvs vs ∧ h.DictOf (mixKind P w) a vs :=
  show ObjOk P w H h a (.dK kvs) from rd_of ok e
theorem dk_of {kvs : List (Key × V)} (ok : HOk P w H h) (e : H a = some (.dK kvs)) : kvs.length ≤ sizeLine ∧ (a == sysModules) = false ∧ ∃ vs, KV kvs vs ∧ h.DictOf (mixKind P w) a vs := dk_rd ok (.inl e)
theorem key_of {ks : List Key} (ok : HOk P w H h) (e : H a = some (.tup (ks.map kV))) : (tupleKind (mixKind P w)).is h ks a := by
  obtain ⟨_, its, r, o, h1, h2, n, h3⟩ := (show ObjOk P w H h a (.tup (ks.map kV)) from ok a _ e)
  exact ⟨o, its.toArray, n, h1, h2, h3, by simpa using items_are r⟩
theorem dt_rd {kvs : List (List Key × V)} (ok : HOk P w H h) (e : Rd H a (.dT kvs)) : kvs.length ≤ sizeLine ∧ (a == sysModules) = false ∧
    ∃ xs, KT H kvs xs ∧ h.DictOfH (tupleKind (mixKind P w)) a xs := by
  obtain ⟨z, y, xs, r, o, es, ep, h1, h2, h3, h4, h5⟩ := (show ObjOk P w H h a (.dT kvs) from rd_of ok e)
  refine ⟨z, y, xs, r, o, es, ep, h1, h2, h3, h4, fun x hx => ?_, h5⟩
  have all : ∀ {l : List (List Key × V)} {m : List (List Key × Addr × Value)}, KT H l m → ∀ x ∈ m, (tupleKind (mixKind P w)).is h x.1 x.2.1 := by
    intro l m q
    induction q with
    | nil => intro x hx; exact nomatch hx
    | @cons p q ps qs hq t ih =>
      intro x hx
      rcases List.mem_cons.mp hx with e | hx
      · subst e
        exact key_of ok (by rw [← hq.1]; exact hq.2.1)
      · exact ih x hx
  exact all r x hx
theorem dt_of {kvs : List (List Key × V)} (ok : HOk P w H h) (e : H a = some (.dT kvs)) : kvs.length ≤ sizeLine ∧ (a == sysModules) = false ∧
    ∃ xs, KT H kvs xs ∧ h.DictOfH (tupleKind (mixKind P w)) a xs := dt_rd ok (.inl e)
end
def DGet (H : Hp) (a : Addr) (y : V) (r : Option V) : Prop :=
  (∃ kvs k, Rd H a (.dK kvs) ∧ y = kV k ∧ r = valV kvs k) ∨ ∃ kvs k b, Rd H a (.dT kvs) ∧ y = .ref b ∧ H b = some (.tup (k.map kV)) ∧ r = valV kvs k
def DPut (H : Hp) (a : Addr) (y v : V) (H' : Hp) : Prop :=
  (∃ kvs k, H a = some (.dK kvs) ∧ y = kV k ∧ kvs.length < sizeLine ∧ H' = upd H a (.dK (putK kvs k v))) ∨
  ∃ kvs k b, H a = some (.dT kvs) ∧ y = .ref b ∧ H b = some (.tup (k.map kV)) ∧ kvs.length < sizeLine ∧ H' = upd H a (.dT (putK kvs k v))
theorem DGet.k {H : Hp} {a : Addr} {kvs : List (Key × V)} {k : Key} (e : H a = some (.dK kvs)) : DGet H a (kV k) (valV kvs k) := .inl ⟨kvs, k, .inl e, rfl, rfl⟩
theorem DPut.k {H : Hp} {a : Addr} {kvs : List (Key × V)} {k : Key} {v : V} (e : H a = some (.dK kvs)) (hl : kvs.length < sizeLine) : DPut H a (kV k) v (upd H a (.dK (putK kvs k v))) := .inl ⟨kvs, k, e, rfl, hl, rfl⟩
section
variable {X : Cx} {pins : List (Addr × Obj)} {σ : St} {H : Hp} {s : Shared} {a : Addr} {y v : V} {u r : Value} {o : Option V} {A : Around} {E : Value → Shared → Prop}
theorem Inv.big (I : Inv X pins σ H s) : sysModules < s.heap.objs.size := by
  have h : mainGlobals < s.heap.objs.size := (I.mod.glob.keeps I.bk).lt
  exact Nat.lt_trans (by decide) h
theorem d_getItem {Q : Value → Shared → Prop} (hu : A.units + 1 < cLine) (I : Inv X pins σ H s) (g : DGet H a y (some v)) (ry : RelV y u) (h : ∀ w' s', Inv X pins σ H s' → RelV v w' → Q w' s') :
    wpAny (model X.prog X.w) A (getItem (.ref a) u) Q E s := by
  rcases g with ⟨kvs, k, e, ey, l⟩ | ⟨kvs, k, b, e, ey, eb, l⟩
  · subst ey
    obtain ⟨z, hd, vs, rel, dd⟩ := dk_rd I.hok e
    obtain ⟨w', hw, rw'⟩ := RelO.some_of (v := v) (o := valueAt vs k) (by rw [l]; exact rel.val k)
    exact wpAny_getItem_of (kV_is ry) dd.mapOf hw (h w' _ (I.tok _) rw')
  · subst ey
    cases (show u = Value.ref b from ry)
    obtain ⟨z, hd, xs, rel, dd⟩ := dt_rd I.hok e
    obtain ⟨w', hw, rw'⟩ := RelO.some_of (v := v) (o := (atKey xs k).map (·.2)) (by rw [l]; exact rel.val k)
    obtain ⟨p, hp, hp2⟩ := Option.map_eq_some_iff.mp hw
    refine wpAny_getItem_heap (tupleKind_room_in1 hu) (key_of I.hok eb) dd hp ?_
    rw [hp2]
    exact h w' _ (I.tok _) rw'
theorem d_in {Q : Value → Shared → Prop} (hu : A.units + 1 < cLine) (I : Inv X pins σ H s) (g : DGet H a y o) (ry : RelV y u) (h : ∀ s', Inv X pins σ H s' → Q (.bool o.isSome) s') :
    wpAny (model X.prog X.w) A (compareOp .In u (.ref a)) Q E s := by
  rcases g with ⟨kvs, k, e, ey, l⟩ | ⟨kvs, k, b, e, ey, eb, l⟩
  · subst ey
    obtain ⟨z, hd, vs, rel, dd⟩ := dk_rd I.hok e
    refine wpAny_in_of (kV_is ry) hd dd.mapOf ?_
    rw [← (rel.val k).isSome_eq, ← l]
    exact h _ (I.tok _)
  · subst ey
    cases (show u = Value.ref b from ry)
    obtain ⟨z, hd, xs, rel, dd⟩ := dt_rd I.hok e
    refine wpAny_in_heap (tupleKind_room_in1 hu) (key_of I.hok eb) hd dd ?_
    have q := (rel.val k).isSome_eq
    rw [Option.isSome_map] at q
    rw [← q, ← l]
    exact h _ (I.tok _)
theorem d_write {h' : Heap} {t' : Nat} {ob : HO} (I : Inv X pins σ H s) (mu : Mut (H a)) (hs : Heap.SameBut a s.heap h') (he : ∃ q, h'.get? a = some q) (new : ObjOk X.prog X.w (upd H a ob) h' a ob) :
    Inv X pins σ (upd H a ob) { s with heap := h', toks := t' } :=
  I.write (x := a) (e := a) mu (.inl rfl) (fun b q hb z => (hs.2 b hb).trans z) he new
theorem dk_new {P : Program} {w : World} {H' : Hp} {h' : Heap} {kvs : List (Key × V)} {vs : List (Key × Value)} (z : kvs.length ≤ sizeLine) (hd : (a == sysModules) = false) (rel : KV kvs vs) (dd : h'.DictOf (mixKind P w) a vs) :
    ObjOk P w H' h' a (.dK kvs) := ⟨z, hd, vs, rel, dd⟩
theorem d_setItem {H' : Hp} {Q : Unit → Shared → Prop} (hu : A.units + 1 < cLine) (I : Inv X pins σ H s) (g : DPut H a y v H') (ry : RelV y u) (rv : RelV v r) (h : ∀ s', Inv X pins σ H' s' → Q () s') :
    wpAny (model X.prog X.w) A (setItem (.ref a) u r) Q E s := by
  rcases g with ⟨kvs, k, e, ey, l, eH⟩ | ⟨kvs, k, b, e, ey, eb, l, eH⟩
  · subst ey eH
    obtain ⟨z, hd, vs, rel, dd⟩ := dk_of I.hok e
    have hz : vs.length ≤ sizeLine := by rw [← rel.length]; exact z
    have hl : (putK kvs k v).length ≤ sizeLine := by have := length_putK kvs k v; omega
    refine wpAny_setItem_pairs (hsz := hz) (kV_is ry) dd fun h' dd' hs => h _ ?_
    have he : ∃ q, h'.get? a = some q := let ⟨q, _, _, hq, _⟩ := dd'; ⟨q, hq⟩
    exact d_write I (by rw [e]; exact True.intro) hs he (dk_new hl hd (rel.put k rv) dd')
  · subst ey eH
    cases (show u = Value.ref b from ry)
    obtain ⟨z, hd, xs, rel, dd⟩ := dt_of I.hok e
    have hz : xs.length ≤ sizeLine := by rw [← Paired.length rel]; exact z
    have hl : (putK kvs k v).length ≤ sizeLine := by have := length_putK kvs k v; omega
    refine wpAny_setItem_heap (hsz := hz) (tupleKind_room_in1 hu) (key_of I.hok eb) dd fun h' dd' hs => h _ ?_
    obtain ⟨q, es, ep, hq, h2, h3, h4, _, h5⟩ := dd'
    refine d_write I (by rw [e]; exact True.intro) hs ⟨q, hq⟩ ⟨hl, hd, _, (rel.put k eb rv).keeps fun c ys ec => ?_, q, es, ep, hq, h2, h3, h4, h5⟩
    rw [upd_ne (ne_of ec e (fun z => nomatch z))]
    exact ec
end
section
variable {X : Cx} {pins : List (Addr × Obj)} {σ : St} {H : Hp} {s : Shared} {a : Addr} {kvs : List (Key × V)} {k : Key} {u : Value} {A : Around} {E : Value → Shared → Prop}
theorem d_len {Q : Value → Shared → Prop} (I : Inv X pins σ H s) (e : Rd H a (.dK kvs)) (h : ∀ t s', Inv X pins σ H s' → Q (.int kvs.length t) s') : wpAny (model X.prog X.w) A (call (.builtin "len") [.ref a]) Q E s := by
  obtain ⟨z, hd, vs, rel, dd⟩ := dk_rd I.hok e
  refine call_len_dict hd dd (by rw [← rel.length]; rw [sizeLine_eq] at z; omega) ?_
  rw [← rel.length]
  exact h _ _ (I.tok _)
end
def NoSl (i : Expr) : Prop := ∀ ov iv, subscripted i false ov iv = operate [ov, iv] (getItem ov iv)
theorem subD_of {prog : Program} {w : World} {A : Around} {E : Value → Shared → Prop} {s : Shared} {env : Env} {value slice : Expr} {pos : Pos} {T id : String} {Q : Value → Shared → Prop}
    (hl : typeLookup (.type T) "__getitem__" = pure (some (.builtin id))) (hs : NoSl slice)
    (h : wpAny (model prog w) A (eval value env) (fun o s₁ => wpAny (model prog w) A (eval slice env) (fun i s₂ => s₂.TypeIs o T ∧ wpAny (model prog w) A (getItem o i) Q E s₂) E s₁) E s) :
    wpAny (model prog w) A (eval (.Subscript value slice pos) env) Q E s := by
  refine Subscript_ (wpAny_mono h (fun o s₁ h₁ => wpAny_mono h₁ (fun i s₂ h₂ => ?_) fun _ _ x => x) fun _ _ x => x)
  obtain ⟨hT, h₂⟩ := h₂
  unfold subscriptTail
  refine wpAny_bind ?_
  rw [getitemInPython_of_ne hT.not_modules]
  refine wpAny_bind (wpAny_specialOf hT hl ?_)
  have fin : wpAny (model prog w) A (subscripted slice false o i) (fun r s₃ => wpAny (model prog w) A (letTemporaryGo value o r >>= fun _ => pure r) Q E s₃) E s₂ := by
    rw [hs o i]
    exact wpAny_operating (wpAny_mono h₂ (fun r s₃ h₃ => wpAny_bind (wpAny_letTemporaryGo (wpAny_pure h₃))) fun _ _ x => x)
  first
    | exact wpAny_pure (wpAny_bind fin)
    | exact wpAny_bind (wpAny_pure (wpAny_bind fin))
    | exact wpAny_bind fin
theorem dict_typeIs {X : Cx} {pins : List (Addr × Obj)} {σ : St} {H : Hp} {s : Shared} {a : Addr} {y : V} {o : Option V} (I : Inv X pins σ H s) (g : DGet H a y o) : s.TypeIs (.ref a) "dict" := by
  rcases g with ⟨kvs, k, e, _, _⟩ | ⟨kvs, k, b, e, _, _, _⟩
  · obtain ⟨_, _, vs, _, dd⟩ := dk_rd I.hok e
    exact dd.typeIs
  · obtain ⟨_, _, xs, _, dd⟩ := dt_rd I.hok e
    exact dd.typeIs
def tDGet (td ty : TE) : TE := fun σ H Q => td σ H fun x H1 => ty σ H1 fun y H2 => ∃ a v, x = .ref a ∧ DGet H2 a y (some v) ∧ Q v H2
def tDIn (ty td : TE) : TE := fun σ H Q => ty σ H fun y H1 => td σ H1 fun x H2 => ∃ a o, x = .ref a ∧ DGet H2 a y o ∧ Q (.bl o.isSome) H2
def sDPut (td ty tv : TE) : TS := fun D σ H => tv σ H fun v H1 => td σ H1 fun x H2 => ty σ H2 fun y H3 => ∃ a H4, x = .ref a ∧ DPut H3 a y v H4 ∧ D.nx σ H4
section
variable {X : Cx} {o i e value : Expr} {pos pos' tpos : Pos} {td ty tv : TE}
theorem pe_dget (hu : X.A.units + 1 < cLine) (ho : PE X o td) (hi : PE X i ty) (hs : NoSl i) : PE X (.Subscript o i pos) (tDGet td ty) := by
  intro pins s σ H Q I h
  refine subD_of PySem.F.slot_dict_getitem.lookup hs (thn (ho pins s σ H _ I h) fun u s1 ⟨x, H1, I1, rx, q1⟩ => thn (hi pins s1 σ H1 _ I1 q1) fun iv s2 ⟨y, H2, I2, ry, a, v, ex, g, q2⟩ => ?_)
  subst ex
  obtain rfl : u = Value.ref a := rx
  exact ⟨dict_typeIs I2 g, d_getItem hu I2 g ry fun w' s3 I3 rw' => ⟨v, H2, I3, rw', q2⟩⟩
theorem pc_din (hu : X.A.units + 1 < cLine) (hi : PE X i ty) (ho : PE X o td) : PC X .In i o (tDIn ty td) := by
  intro pins s σ H Q I h
  refine thn (hi pins s σ H _ I h) fun iv s1 ⟨y, H1, I1, ry, q1⟩ => thn (ho pins s1 σ H1 _ I1 q1) fun u s2 ⟨x, H2, I2, rx, a, ov, ex, g, q2⟩ => ?_
  subst ex
  obtain rfl : u = Value.ref a := rx
  exact d_in hu I2 g ry fun s3 I3 => ⟨.bl ov.isSome, H2, I3, rfl, q2⟩
theorem ps_dput (hu : X.A.units + 1 < cLine) (ho : PE X o td) (hi : PE X i ty) (hv : PE X value tv) (hs : swapsWith value (some (.Subscript o i pos')) pos.line X.env = pure false) :
    PS X (.Assign [.Subscript o i pos'] value pos) (sDPut td ty tv) := by
  intro pins s σ H D I h
  refine wpAny_Assign_Subscript (thn (hv pins s σ H _ I h) fun r s1 ⟨v, H1, I1, rv, q1⟩ => thn (ho pins s1 σ H1 _ I1 q1) fun u s2 ⟨x, H2, I2, rx, q2⟩ => thn (hi pins s2 σ H2 _ I2 q2) fun iv s3 ⟨y, H3, I3, ry, a, H4, ex, g, q3⟩ => ?_) hs
  subst ex
  obtain rfl : u = Value.ref a := rx
  exact d_setItem hu I3 g ry rv fun s4 I4 => ⟨σ, H4, I4, q3⟩
end
theorem dk_empty {P : Program} {w : World} {H : Hp} (h : Heap) (hb : sysModules < h.objs.size) : ObjOk P w H (h.push { cls := .type "dict", data := .dict #[] }) h.objs.size (.dK []) :=
  ⟨Nat.zero_le _, beq_eq_false_iff_ne.mpr (Ne.symm (Nat.ne_of_lt hb)), [], .nil, Heap.DictOf.new h⟩
def tDNewK : TE := fun _ H Q => ∀ p, H p = none → Q (.ref p) (upd H p (.dK []))
section
variable {X : Cx} {pos : Pos}
theorem pe_dnewK : PE X (.Dict [] [] pos) tDNewK := fun pins s σ H Q I h =>
  wpAny_Dict_empty ⟨.ref s.heap.objs.size, _, I.laid (a := s.heap.objs.size) (o := .dK []) (t' := s.toks) (fun _ _ q => Heap.get?_push_of_some _ q) (Nat.le_refl _) (dk_empty s.heap I.big), rfl, h _ (I.hok.fresh (Nat.le_refl _))⟩
end
structure M1 (X : Cx) (o : Expr) (m : Str) (apos : Pos) (e : Expr) (cpos : Pos) : Prop where
  base : attributeBase o m X.env (eval o X.env) = eval o X.env
  few : ((backTo cpos (starEach [e] X.env)).all (fun x => !x.1) && (backToKw cpos (keywordEach [] X.env)).all (fun x => x.1.isSome)
    && decide (([e] : List Expr).length + ([] : List Keyword).length + (if ([] : List Keyword).isEmpty then 0 else 1) < 30)) = true
  line : (apos.endLine == cpos.line) = true
  trees : backTo cpos (starEach [e] X.env) = [(false, eval e X.env)]
def IsD (H : Hp) (a : Addr) : Prop := (∃ kvs, Rd H a (.dK kvs)) ∨ ∃ kvs, Rd H a (.dT kvs)
theorem isD_at {X : Cx} {pins : List (Addr × Obj)} {σ : St} {H : Hp} {s : Shared} {a : Addr} (I : Inv X pins σ H s) (d : IsD H a) :
    s.TypeIs (.ref a) "dict" ∧ (∀ b, Value.ref a = .ref b → ∃ ob, s.heap.get? b = some ob ∧ ob.dict = none) ∧ (a == sysModules) = false := by
  rcases d with ⟨kvs, e⟩ | ⟨kvs, e⟩
  · obtain ⟨_, hd, vs, _, dd⟩ := dk_rd I.hok e
    refine ⟨dd.typeIs, fun b q => ?_, hd⟩
    cases q
    obtain ⟨ob, _, _, h1, h2, _⟩ := dd
    exact ⟨ob, h1, h2.2.1⟩
  · obtain ⟨_, hd, xs, _, dd⟩ := dt_rd I.hok e
    refine ⟨dd.typeIs, fun b q => ?_, hd⟩
    cases q
    obtain ⟨ob, _, _, h1, h2, _⟩ := dd
    exact ⟨ob, h1, h2.2.1⟩
section
variable {X : Cx} {pins : List (Addr × Obj)} {σ : St} {H : Hp} {s : Shared} {a : Addr} {y d : V} {u r : Value} {o : Option V} {A : Around} {E : Value → Shared → Prop}
theorem d_get1 {Q : Value → Shared → Prop} (hu : A.units + 1 < cLine) (I : Inv X pins σ H s) (g : DGet H a y o) (ry : RelV y u) (h : ∀ w' s', Inv X pins σ H s' → RelV (o.getD .non) w' → Q w' s') :
    wpAny (model X.prog X.w) A (call (.builtin "dict.get") [.ref a, u]) Q E s := by
  rcases g with ⟨kvs, k, e, ey, l⟩ | ⟨kvs, k, b, e, ey, eb, l⟩
  · subst ey
    obtain ⟨z, hd, vs, rel, dd⟩ := dk_rd I.hok e
    refine call_meetsIn PySem.F.slot_dict_get dd.typeIs PySem.F.entry_dict_get (PySem.F.args_dict_get_2 _ _) (meets_dict_get (mixKind X.prog X.w) a (kV_is ry) hd) ⟨_, dd.mapOf, h _ _ (I.tok _) ?_⟩
    rw [l]
    exact (rel.val k).getD rfl
  · subst ey
    cases (show u = Value.ref b from ry)
    obtain ⟨z, hd, xs, rel, dd⟩ := dt_rd I.hok e
    refine call_meetsIn PySem.F.slot_dict_get dd.typeIs PySem.F.entry_dict_get (PySem.F.args_dict_get_2 _ _) (meetsH_dict_get (tupleKind (mixKind X.prog X.w)) a b hd) ⟨tupleKind_room_in1 hu, k, xs, key_of I.hok eb, dd, h _ _ (I.tok _) ?_⟩
    rw [l]
    exact (rel.val k).getD rfl
end
def tDGet1 (td ty : TE) : TE := fun σ H Q => td σ H fun x H1 => ∃ a, x = .ref a ∧ IsD H1 a ∧ ty σ H1 fun y H2 => ∃ o, DGet H2 a y o ∧ Q (o.getD .non) H2
section
variable {X : Cx} {o e f : Expr} {apos cpos : Pos} {td ty tx : TE}
theorem pe_dget1 (hu : X.A.units + 1 < cLine) (ho : PE X o td) (he : PE X e ty) (m : M1 X o "get" apos e cpos) : PE X (.Call (.Attribute o "get" apos) [e] [] cpos) (tDGet1 td ty) := by
  intro pins s σ H Q I h
  refine wpAny_Call_method m.base m.few m.line PySem.F.plainAttrs_dict PySem.F.slot_dict_get PySem.F.type_dict_get (thn (ho pins s σ H _ I h) fun u s1 ⟨x, H1, I1, rx, a, ex, d, q1⟩ => ?_)
  subst ex
  obtain rfl : u = Value.ref a := rx
  obtain ⟨t1, t2, _⟩ := isD_at I1 d
  refine ⟨t1, t2, ?_⟩
  rw [m.trees]
  refine Calls.callWith_builtin rfl (Calls.evalArgs_plain (Calls.spliced_cons (thn (he pins s1 σ H1 _ I1 q1) fun iv s2 ⟨y, H2, I2, ry, ov, g, q2⟩ => Calls.spliced_nil ?_)))
  exact d_get1 hu I2 g ry fun w' s3 I3 rw' => ⟨_, H2, I3, rw', q2⟩
end
section
variable {X : Cx} {pins : List (Addr × Obj)} {σ : St} {H : Hp} {s : Shared} {a : Addr} {kvs : List (Key × V)} {A : Around} {E : Value → Shared → Prop}
end
section
variable {X : Cx} {pins : List (Addr × Obj)} {σ : St} {H : Hp} {s : Shared} {a : Addr} {y : V} {u : Value} {A : Around} {E : Value → Shared → Prop}
end
end L2
namespace L2
open PySem PySem.Spec PyProof.Rows
section
variable {prog : Program} {w : World} {A : Around} {E : Value → Shared → Prop}
end
section
variable {X : Cx}
end
end L2
namespace L2
open PySem PySem.Spec PyProof.Rows
section
variable {X : Cx} {pins : List (Addr × Obj)} {σ : St} {H : Hp} {s : Shared} {h' : Heap}
theorem Inv.lock {d : Addr} {u : HO} (I : Inv X pins σ H s) (h : H d = some u) (mu : Mut (some u)) : ∃ od, Inv X pins σ (upd H d (.frz od u)) s := by
  have x := I.hok d u h
  have ex : ∃ od, s.heap.get? d = some od := by
    cases u with
    | lst xs => obtain ⟨_, _, _, _, e⟩ := x; exact ⟨_, e⟩
    | dK kvs => obtain ⟨_, _, _, _, o, _, _, e, _⟩ := x; exact ⟨o, e⟩
    | dT kvs => obtain ⟨_, _, _, _, o, _, _, e, _⟩ := x; exact ⟨o, e⟩
    | set S n => obtain ⟨o, _, _, _, e, _⟩ := x; exact ⟨o, e⟩
    | ins C dx fs => obtain ⟨_, _, _, e, _⟩ := x; exact ⟨_, e⟩
    | ext φ => obtain ⟨_, ⟨_, e⟩, _⟩ := x; exact ⟨_, e⟩
    | _ => exact False.elim mu
  obtain ⟨od, e⟩ := ex
  have new : ObjOk X.prog X.w (upd H d (.frz od u)) s.heap d (.frz od u) := by
    refine ⟨e, x.stay (fun b v _ q => q) (fun b q => ?_) fun b xs q => ?_⟩
    · rw [upd_ne (fun z => by rw [z, h] at q; cases q; exact mu)]; exact q
    · rw [upd_ne (fun z => by rw [z, h] at q; cases q; exact mu)]; exact q
  exact ⟨od, I.write (x := d) (e := d) (t' := s.toks) (h' := s.heap) (by rw [h]; exact mu) (.inl rfl) (fun b v _ q => q) ⟨od, e⟩ new⟩
theorem Inv.nofrz {d : Addr} {u : HO} (I : Inv X pins σ H s) (h : H d = some u) (mu : Mut (some u)) : ∀ o' u', X.H_0 d ≠ some (.frz o' u') := fun o' u' e => by
  have q := I.base.frzs d o' u' e
  rw [h] at q
  cases q
  exact mu
theorem Inv.unlock {d : Addr} {od : Obj} {u : HO} (I : Inv X pins σ H s) (h : H d = some (.frz od u)) (hn : ∀ o' u', X.H_0 d ≠ some (.frz o' u')) : Inv X pins σ (upd H d u) s := by
  have neH : ∀ b o, H b = some o → (∀ o' u', o ≠ .frz o' u') → b ≠ d := fun b o e hne z => by
    rw [z, h] at e
    cases e
    exact hne _ _ rfl
  have neN : ∀ b, H b = none → b ≠ d := fun b e z => by rw [z, h] at e; cases e
  refine ⟨I.ok, I.os, I.bare, ⟨I.base.keep, I.base.slot, fun b o e n hx => ?_, I.base.there, fun b xs e => ?_, fun b o x e => ?_, fun b ps e => ?_⟩, I.loc, I.cell, ?_, fun x c e => ?_, fun p hp => ?_, fun b o e => ?_, I.len⟩
  · rw [upd_ne (neN b (I.base.free b o e n hx))]; exact I.base.free b o e n hx
  · have q := I.base.tups b xs e
    rw [upd_ne (neH b _ q (fun _ _ z => nomatch z))]; exact q
  · have q := I.base.frzs b o x e
    rw [upd_ne (fun z => by rw [z] at e; exact hn _ _ e)]; exact q
  · obtain ⟨m, q⟩ := I.base.tbls b ps e
    exact ⟨m, by rw [upd_ne (neH b _ q (fun _ _ z => nomatch z))]; exact q⟩
  · rw [upd_ne (neN _ I.free)]; exact I.free
  · rw [upd_ne (neN c (I.freeC x c e))]; exact I.freeC x c e
  · obtain ⟨e, n, r⟩ := I.pin p hp
    exact ⟨e, by rw [upd_ne (neN _ n)]; exact n, r⟩
  · by_cases hb : b = d
    · rw [hb, upd_same] at e
      cases e
      rw [hb]
      obtain ⟨_, x⟩ := I.hok d _ h
      exact x.stay (fun c v _ q => q) (fun c q => by rw [upd_ne (neH c _ q (fun _ _ z => nomatch z))]; exact q) fun c xs q => by rw [upd_ne (neH c _ q (fun _ _ z => nomatch z))]; exact q
    · rw [upd_ne hb] at e
      exact (I.hok b o e).stay (fun c v _ q => q) (fun c q => by rw [upd_ne (neH c _ q (fun _ _ z => nomatch z))]; exact q) fun c xs q => by rw [upd_ne (neH c _ q (fun _ _ z => nomatch z))]; exact q
end
def tLock (t : TS) : TS := fun D σ H => ∃ d u, H d = some u ∧ Mut (some u) ∧ ∀ od, t ⟨fun σ' H' => H' d = some (.frz od u) ∧ D.nx σ' (upd H' d u), fun v H' => H' d = some (.frz od u) ∧ D.rt v (upd H' d u), fun σ' H' => H' d = some (.frz od u) ∧ D.bk σ' (upd H' d u), fun σ' H' => H' d = some (.frz od u) ∧ D.ct σ' (upd H' d u)⟩ σ (upd H d (.frz od u))
def tLockE (t : TE) : TE := fun σ H Q => ∃ d u, H d = some u ∧ Mut (some u) ∧ ∀ od, t σ (upd H d (.frz od u)) fun v H' => H' d = some (.frz od u) ∧ Q v (upd H' d u)
section
variable {X : Cx}
theorem ps_lock {st : Stmt} {t : TS} (h : PS X st t) : PS X st (tLock t) := by
  intro pins s σ H D I hw
  obtain ⟨d, u, hd, mu, hw⟩ := hw
  obtain ⟨od, I1⟩ := I.lock hd mu
  refine thn (h pins s σ _ _ I1 (hw od)) fun f s1 q => ?_
  cases f with
  | next => obtain ⟨σ', H', I2, e, q⟩ := q; exact ⟨σ', _, I2.unlock e (I.nofrz hd mu), q⟩
  | brk => obtain ⟨σ', H', I2, e, q⟩ := q; exact ⟨σ', _, I2.unlock e (I.nofrz hd mu), q⟩
  | cont => obtain ⟨σ', H', I2, e, q⟩ := q; exact ⟨σ', _, I2.unlock e (I.nofrz hd mu), q⟩
  | ret v => obtain ⟨x, σ', H', I2, r, e, q⟩ := q; exact ⟨x, σ', _, I2.unlock e (I.nofrz hd mu), r, q⟩
theorem pe_lock {e : Expr} {t : TE} (h : PE X e t) : PE X e (tLockE t) := by
  intro pins s σ H Q I hw
  obtain ⟨d, u, hd, mu, hw⟩ := hw
  obtain ⟨od, I1⟩ := I.lock hd mu
  refine thn (h pins s σ _ _ I1 (hw od)) fun v s1 ⟨x, H1, I2, r, e2, q⟩ => ?_
  exact ⟨x, _, I2.unlock e2 (I.nofrz hd mu), r, q⟩
theorem pi_one {tg : Expr} {pins : List (Addr × Obj)} {σ : St} {H : Hp} {s : Shared} {R : It → Hp → Prop} {J : It} {tn : Nat → Heap → Prop} {tk : Nat} (I : Inv X pins σ H s) (o : Obj)
    (T : Turn X.prog X.w X.K tg J [s.heap.objs.size] s.heap.objs.size tn) (st : tn 0 (s.heap.push o)) (q : R J H) : PIE X pins σ tg R (.ref s.heap.objs.size) { s with heap := s.heap.push o, toks := tk } := by
  refine ⟨s.heap.objs.size, [s.heap.objs.size], tn, J, H, rfl, I.kept fun b ob e => Heap.get?_push_of_some _ e, T, st, fun b hb => ?_, q⟩
  have e : b = s.heap.objs.size := by simpa using hb
  subst e
  exact I.fpOk (Nat.le_refl _) (I.hok.fresh (Nat.le_refl _))
end
section
variable {X : Cx} {tg : Expr}
end
section
variable {X : Cx} {tg : Expr}
end
section
variable {prog : Program} {w : World} {A : Around} {E : Value → Shared → Prop} {s : Shared}
end
theorem kv_get {κ : Type} {kvs : List (κ × V)} {vs : List (κ × Value)} (h : KV kvs vs) : ∀ {i : Nat} {k : κ} {v : V}, kvs[i]? = some (k, v) → ∃ u, vs[i]? = some (k, u) ∧ RelV v u := by
  unfold KV at h
  induction h with
  | nil => intro i k v e; simp at e
  | @cons a b l₁ l₂ r t ih =>
    intro i k v e
    cases i with
    | zero =>
      simp only [List.getElem?_cons_zero, Option.some.injEq] at e
      subst e
      refine ⟨b.2, ?_, r.2⟩
      simp only [List.getElem?_cons_zero]
      exact congrArg some (Prod.ext r.1.symm rfl)
    | succ j =>
      simp only [List.getElem?_cons_succ] at e ⊢
      exact ih e
section
variable {X : Cx} {pins : List (Addr × Obj)} {σ : St} {H : Hp} {s : Shared} {d : Addr} {o : Obj}
theorem Inv.frzK {kvs : List (Key × V)} (I : Inv X pins σ H s) (h : H d = some (.frz o (.dK kvs))) :
    (d == sysModules) = false ∧ s.heap.get? d = some o ∧ o.ExactDict ∧ ∃ (es : Array DictEntry) (ep : Nat) (vs : List (Key × Value)), o.data = .dict es ep ∧ es.size = kvs.length ∧ KV kvs vs ∧ s.heap.DictAt (mixKind X.prog X.w) d vs ep := by
  obtain ⟨hd, z, hs, vs, kv, o', es, ep, ho, hx, hdt, r⟩ := I.hok d _ h
  rw [hd] at ho
  cases ho
  refine ⟨hs, hd, hx, es, ep, vs, hdt, ?_, kv, o, es, hd, hx, hdt, r⟩
  have l1 := r.2.1.length
  have l2 : kvs.length = vs.length := Paired.length kv
  rw [Array.length_toList] at l1
  omega
end
def Itd (d : Addr) (o : Obj) (kvs : List (Key × V)) : It :=
  ⟨fun i H => H d = some (.frz o (.dK kvs)) ∧ i < kvs.length, fun i H x H' => H' = H ∧ ∃ k, kvs[i]? = some (k, x), fun i H => H d = some (.frz o (.dK kvs)) ∧ kvs.length ≤ i⟩
theorem dict_ep {o : Obj} {es es' : Array DictEntry} {ep ep' : Nat} (h : o.data = .dict es ep) (h' : o.data = .dict es' ep') : es' = es ∧ ep' = ep := by
  rw [h] at h'
  cases h'
  exact ⟨rfl, rfl⟩
section
variable {P : Program} {w : World} {K : PySem.W.Frag} {tg : Expr} {d : Addr} {o : Obj} {es : Array DictEntry} {ep : Nat}
theorem turn_vals {kvs : List (Key × V)} (it : Addr) (hod : o.data = .dict es ep) : Turn P w K tg (Itd d o kvs) [it] it (fun i h => h.IsValIter it d i kvs.length ep) where
  mem := by simp
  obj := fun i h st b hb => by
    have e : b = it := by simpa using hb
    subst e
    obtain ⟨oi, e, c, dd⟩ := st
    exact ⟨oi, e, fun v z => by rw [dd] at z; cases z⟩
  keep := fun i h h' st k => st.at fun oi e => k it (by simp) oi e
  item := by
    intro X hP hw hK hc i pins s σ H E I hf st hg
    subst hP hw hK
    obtain ⟨hd, hi⟩ := hg
    obtain ⟨f0, f1, f2, f3, f4, f5⟩ := hf it (by simp)
    obtain ⟨hs, hgd, hx, es', ep', vs, hdt, hsz, kv, hm⟩ := I.frzK hd
    obtain ⟨rfl, rfl⟩ := dict_ep hod hdt
    obtain ⟨⟨k, v⟩, hkv⟩ : ∃ p, kvs[i]? = some p := ⟨kvs[i], List.getElem?_eq_getElem hi⟩
    obtain ⟨u, hu, ru⟩ := kv_get kv hkv
    have hl : kvs.length = vs.length := Paired.length kv
    rw [hl] at st
    refine wpAny_pyNext_values_item st hm hu fun h' st' sb => ?_
    have I1 : Inv X pins σ H { s with heap := h' } := I.turned (t' := s.toks) (fun b ob hb e => (sb.2 b hb).trans e) f0 f1 f3 f4 f5
    obtain ⟨oi, e, c, dd⟩ := id st'
    refine ⟨u, rfl, go_of (s := { s with heap := h' }) e c dd (by decide) ⟨v, H, I1, ru, ⟨rfl, k, hkv⟩, ?_, fun b hb => (hf b hb).1⟩⟩
    show h'.IsValIter it d (i + 1) kvs.length _
    rw [hl]
    exact st'
  done := by
    intro X hP hw hK hc i pins s σ H E I hf st hg
    subst hP hw hK
    obtain ⟨hd, hi⟩ := hg
    obtain ⟨f0, f1, f2, f3, f4, f5⟩ := hf it (by simp)
    obtain ⟨hs, hgd, hx, es', ep', vs, hdt, hsz, kv, hm⟩ := I.frzK hd
    obtain ⟨rfl, rfl⟩ := dict_ep hod hdt
    have hl : kvs.length = vs.length := Paired.length kv
    rw [hl] at st
    exact wpAny_pyNext_values_end (I.ok.hd hc) st hm (List.getElem?_eq_none (by omega)) fun h' eb => ⟨rfl, I.turned (t' := s.toks) (fun b ob hb e => eb b ob hb e) f0 f1 f3 f4 f5⟩
  self := fun A i s Q E st h => wpAny_pyIter_valiter st h
end
def iVals (td : TE) : TI := fun σ H R => td σ H fun x H1 => ∃ d o kvs, x = .ref d ∧ H1 d = some (.frz o (.dK kvs)) ∧ R (Itd d o kvs) H1
section
variable {X : Cx} {tg e : Expr} {td : TE} {apos cpos : Pos}
theorem pi_values (he : PE X e td) (hbase : attributeBase e "values" X.env (eval e X.env) = eval e X.env := by rfl) (hline : (apos.endLine == cpos.line) = true := by rfl) : PI X tg (.Call (.Attribute e "values" apos) [] [] cpos) (iVals td) := by
  intro pins s σ H R I h
  refine wpAny_Call_method (T := "dict") (id := "dict.values") hbase rfl hline F.plainAttrs_dict F.slot_dict_values F.type_dict_values (thn (he pins s σ H _ I h) fun u s1 ⟨x, H1, I1, rx, d, o, kvs, ex, hd, q⟩ => ?_)
  subst ex
  obtain rfl : u = Value.ref d := rx
  obtain ⟨hs, hgd, hx, es, ep, vs, hdt, hsz, kv, hm⟩ := I1.frzK hd
  have hl : kvs.length = vs.length := Paired.length kv
  refine ⟨hm.dictOf.typeIs, hm.dictOf.mapOf.noDict, ?_⟩
  have I2 : Inv X pins σ H1 { s1 with heap := s1.heap.push { cls := .type "dict_values", data := .fields #[.ref d] } } := I1.kept (t' := s1.toks) fun b ob q => Heap.get?_push_of_some _ q
  have fin : wpAny (model X.prog X.w) X.A (pyIter (.ref s1.heap.objs.size)) (PIE X pins σ tg R) X.xe { s1 with heap := s1.heap.push { cls := .type "dict_values", data := .fields #[.ref d] } } := by
    refine wpAny_pyIter_values (d := d) (knd := mixKind X.prog X.w) ⟨_, Heap.get?_push_size _ rfl, rfl, rfl⟩ (hm.push _) (pi_one (tk := s1.toks) I2 _ (turn_vals _ hdt) ⟨_, Heap.get?_push_size _ rfl, rfl, ?_⟩ q)
    rw [hl] <;> rfl
  show wpAny _ _ (callWith cpos (.builtin "dict.values") [.ref d] [] []) _ X.xe s1
  exact method_meetsIn F.slot_dict_values F.entry_dict_values rfl (PySem.evalArgs_none ⟨rfl, hm.dictOf.typeIs, F.args_dict_values_1 _, _, meets_dict_values (mixKind X.prog X.w) d hs, ⟨vs, hm.dictOf⟩, fin⟩)
end
end L2
section
namespace Bits
open PySem PyProof.Rows
end Bits
end
section
namespace TL
open PySem PySem.Builtin PySem.Builtin.Str PySem.StrLaws
end TL
end
namespace L2
open PySem PySem.Spec PyProof.Rows
section
variable {X : Cx} {pins : List (Addr × Obj)} {σ : St} {H : Hp} {s : Shared} {Q : VK}
end
section
variable {X : Cx}
end
section
variable {X : Cx} {o e : Expr} {to te : TE}
end
end L2
namespace L2
open PySem PySem.Spec PyProof.Rows
section
variable {X : Cx}
end
end L2
namespace Att
open PySem PySem.W PySem.Calls PyProof.Rows
section
variable {prog : Program} {w : World} {A : Around} {E : Value → Shared → Prop} {s : Shared} {K : Frag}
end
end Att
namespace L2
open PySem PySem.Spec PyProof.Rows
end L2
namespace L2
open PySem PySem.Spec PyProof.Rows
end L2
namespace L2
open PySem PySem.Spec PyProof.Rows
def inClass (s : Stmt) (j : Nat) : Stmt := match s with
  | .ClassDef _ _ _ body _ _ _ _ _ _ _ => body.getD j (.Pass ⟨0, 0, 0, 0⟩)
  | _ => .Pass ⟨0, 0, 0, 0⟩
def defArgs (s : Stmt) : Arguments := match s with
  | .FunctionDef _ a _ _ _ _ _ _ _ _ => a
  | _ => { posonlyargs := [], args := [], vararg := none, kwonlyargs := [], kw_defaults := [], kwarg := none, defaults := [] }
def defBody (s : Stmt) : List Stmt := match s with
  | .FunctionDef _ _ b _ _ _ _ _ _ _ => b
  | _ => []
def defScope (s : Stmt) : Scope := match s with
  | .FunctionDef _ _ _ _ _ _ sc _ _ _ => sc
  | _ => { kind := .function, names := [], isGenerator := false, isCoroutine := false }
abbrev CX0 : CXT := fun _ _ _ _ _ _ => False
abbrev E0 : XK := fun _ _ _ => False
theorem pass0 {X : Cx} : Passes CX0 X E0 := fun _ _ _ _ _ _ _ h => h.elim
structure Fun (K : PySem.W.Frag) (x qual : Str) (st : Stmt) (f : Addr) (fd : FuncData) : Prop where
  ex : ∃ (oc : Value) (od : Option Addr) (kV doc pm : Value) (an : Option Addr) (cdv ct : Value) (osl : Array (Option Value)),
    fd = PySem.W.fnOf x qual (defArgs st) (defBody st) (defScope st) .none kV doc pm an cdv ct ∧ K.lookup f = some ⟨oc, od, .func fd, osl⟩ ∧ PySem.W.codeIn K cdv qual = true
  kp : PySem.W.keepIn K (.ref f) = true
section
variable {P : Program} {w : World} {K : PySem.W.Frag} {mg : Str → Option Value} {base : Heap}
theorem Fun.ok {x qual : Str} {st : Stmt} {f : Addr} {fd : FuncData} {N ps : List Str} {k : Nat} {sp : Sp} (F : Fun K x qual st f fd) (S : FnScope N ps (defScope st)) (len : ∀ vs H Q E, sp vs H Q E → vs.length = ps.length)
    (hbody : ∀ (cdv : Value) (A : Around) (outer : List Env) (s : Shared) (H : Hp) (vs : List V) (Q : VK) (E : XK), Room k (A.deeper (envOfC qual (defScope st) s.heap.objs.size f cdv)) → sp vs H Q E →
      ∃ t, PSs (cxOf CX0 P w K mg base N qual (defScope st) f cdv A outer s H E).nox (defBody st) t ∧ t { nx := fun _ H' => Q .non H', rt := Q } (start N vs) H) : FnOk P w K mg base CX0 (k + 1) f fd ps sp := by
  obtain ⟨oc, od, kV, doc, pm, an, cdv, ct, osl, rfl, lk, hcd⟩ := F.ex
  refine fn_of lk hcd S len fun A outer s H vs Q E hr hsp => ?_
  obtain ⟨t, h, q⟩ := hbody cdv A outer s H vs Q E hr hsp
  exact ⟨t, h.nox, q⟩
theorem Fun.binds {x qual : Str} {st : Stmt} {f : Addr} {fd : FuncData} {ps : List Str} (F : Fun K x qual st f fd)
    (h : ∀ (kV doc pm : Value) (an : Option Addr) (cdv ct : Value) (us : List Value), us.length = ps.length → bindArgs (PySem.W.fnOf x qual (defArgs st) (defBody st) (defScope st) .none kV doc pm an cdv ct) ⟨us, []⟩ = pure (ps.zip us)) : Binds K fd ps [] := by
  obtain ⟨oc, od, kV, doc, pm, an, cdv, ct, osl, rfl, lk, hcd⟩ := F.ex
  exact .all (h kV doc pm an cdv ct)
theorem fun_mk {x qual : Str} {st : Stmt} {f : Addr} {oc : Value} {od an : Option Addr} {osl : Array (Option Value)} {kV doc pm cdv ct : Value} (l : K.lookup f = some ⟨oc, od, .func (PySem.W.fnOf x qual (defArgs st) (defBody st) (defScope st) .none kV doc pm an cdv ct), osl⟩)
    (c : PySem.W.codeIn K cdv qual = true) (k : PySem.W.keepIn K (.ref f) = true) : Fun K x qual st f (PySem.W.fnOf x qual (defArgs st) (defBody st) (defScope st) .none kV doc pm an cdv ct) := ⟨⟨oc, od, kV, doc, pm, an, cdv, ct, osl, rfl, l, c⟩, k⟩
end
theorem hu_of {A : Around} {k : Nat} (hr : Room k A) : A.units + 1 < cLine := Nat.lt_of_le_of_lt (Nat.add_le_add_left (by decide : 1 ≤ 64) _) hr.units
section
variable {X : Cx}
theorem pv (i : Nat) {x : Str} {pos : Pos} (hN : X.N[i]? = some x := by rfl) (hv : Vis X.env.scope x := by first | exact Or.inl rfl | exact Or.inr (Or.inl rfl) | exact Or.inr (Or.inr rfl)) (hd : (x == ("__debug__" : Str)) = false := by decide)
    (hcd : (x == ("__classdict__" : Str)) = false := by decide) : PE X (.Name x pos) (tVar i) := pe_var hN hv hd hcd
theorem call_lenD : CallR X (.builtin "len") (fun xs H Q => ∃ a kvs, xs = [V.ref a] ∧ H a = some (.dK kvs) ∧ Q (.int kvs.length) H) := by
  intro pins s σ H xs us Q I r h
  obtain ⟨a, kvs, rfl, ha, q⟩ := h
  obtain ⟨u, rfl, ru⟩ := vals1 r
  cases ru
  exact d_len I (.inl ha) fun t s' I' => ⟨.int kvs.length, H, I', ⟨t, rfl⟩, q⟩
end
theorem iteF {A B : Prop} (h : B) : if false = true then A else B := by
  rw [if_neg Bool.false_ne_true]
  exact h
theorem iteT {A B : Prop} (h : A) : if true = true then A else B := by
  rw [if_pos rfl]
  exact h
theorem ite2 {c A B : Prop} [Decidable c] (h1 : c → A) (h2 : ¬ c → B) : if c then A else B := by
  by_cases h : c
  · rw [if_pos h]
    exact h1 h
  · rw [if_neg h]
    exact h2 h
def Same (H H' : Hp) : Prop := ∀ b o, H b = some o → H' b = some o
theorem Same.refl (H : Hp) : Same H H := fun _ _ h => h
theorem Same.trans {H H1 H2 : Hp} (a : Same H H1) (b : Same H1 H2) : Same H H2 := fun c o h => b c o (a c o h)
theorem Same.free {H H' : Hp} (e : Same H H') {l : Addr} (h : H' l = Option.none) : H l = Option.none := by
  cases q : H l with
  | none => rfl
  | some o =>
    rw [e l o q] at h
    cases h
theorem Same.seq {K : PySem.W.Frag} {H H' : Hp} {a : Addr} {xs : List V} (e : Same H H') (h : SqL K H a xs) : SqL K H' a xs := by
  rcases h with (h | ⟨o, h⟩) | h
  · exact .inl (.inl (e _ _ h))
  · exact .inl (.inr ⟨o, e _ _ h⟩)
  · exact .inr h
section
variable {κ : Type} [DecidableEq κ]
end
theorem at_of {xs : List V} {z : Int} {j : Nat} {v : V} (e : z = (j : Int)) (h : xs[j]? = some v) : atI xs z = some v := by
  rw [e]
  exact atI_nat h
theorem Same.made {H H1 : Hp} {x dx C : Addr} (nx : H x = Option.none) (nd : H dx = Option.none) (k : ∀ b o, (upd (upd H dx (.own x)) x (.ins C dx [])) b = some o → b ≠ x → H1 b = some o) : Same H H1 := fun b o e =>
  k b o (by rw [upd_ne (ne_of_none e nx), upd_ne (ne_of_none e nd)]; exact e) (ne_of_none e nx)
end L2
end
section
set_option Elab.async false
set_option linter.all false
set_option maxRecDepth 100000
set_option maxHeartbeats 2000000
namespace L2
open PySem PySem.Spec PyProof.Rows
open PySem.W (WData Codec OpenSpec Well WellAll ReadsW ReadsAllW)
mutual
inductive Dw (K : PySem.W.Frag) (H : Hp) : V → WData → Prop
  | non : Dw K H .non .none
  | bl (b : Bool) : Dw K H (.bl b) (.bool b)
  | int (i : Int) : Dw K H (.int i) (.int i)
  | str (x : Str) : Dw K H (.str x) (.str x)
  | byt (b : Array UInt8) : Dw K H (.byt b) (.bytes b.toList)
  | lst {a : Addr} {xs : List V} {ds : List WData} : SqL K H a xs → DwAll K H xs ds → Dw K H (.ref a) (.list ds)
  | tup {a : Addr} {xs : List V} {ds : List WData} : SqT K H a xs → DwAll K H xs ds → Dw K H (.ref a) (.tuple ds)
inductive DwAll (K : PySem.W.Frag) (H : Hp) : List V → List WData → Prop
  | nil : DwAll K H [] []
  | cons {v : V} {vs : List V} {d : WData} {ds : List WData} : Dw K H v d → DwAll K H vs ds → DwAll K H (v :: vs) (d :: ds)
end
theorem dw_ints {K : PySem.W.Frag} {H : Hp} : ∀ ns : List Int, DwAll K H (ns.map V.int) (ns.map WData.int)
  | [] => .nil
  | n :: r => .cons (.int n) (dw_ints r)
theorem ints_dw {K : PySem.W.Frag} {H : Hp} : ∀ (ns : List Int) (xs : List V), DwAll K H xs (ns.map WData.int) → xs = ns.map V.int
  | [], xs, h => by
    cases h
    rfl
  | n :: r, xs, h => by
    cases h with
    | cons h1 h2 =>
      cases h1
      rw [ints_dw r _ h2] <;> rfl
section
variable {P : Program} {w : World} {K : PySem.W.Frag} {H : Hp} {h : Heap} {R : PySem.W.WRecords} {cl : Str → Option Addr}
theorem sqL_at {a : Addr} {xs : List V} (hok : HOk P w H h) (KX : K.In h) (q : SqL K H a xs) : ∃ (its : List Value) (o : Obj) (n : Nat), Vals xs its ∧ h.get? a = some o ∧ o.cls = .type "list" ∧ o.data = .seq its.toArray n := by
  rcases q with q | ⟨o, its, n, e, hc, _, hd, _, hv⟩
  · obtain ⟨_, its, n, hv, e⟩ := (show ObjOk P w H h a (.lst xs) from q.ok hok)
    exact ⟨its, _, n, hv, e, rfl, rfl⟩
  · exact ⟨its.toList, o, n, hv, KX _ _ e, hc, by simp [hd]⟩
theorem sqT_at {a : Addr} {xs : List V} (hok : HOk P w H h) (KX : K.In h) (q : SqT K H a xs) : ∃ (its : List Value) (o : Obj) (n : Nat), Vals xs its ∧ h.get? a = some o ∧ o.cls = .type "tuple" ∧ o.data = .seq its.toArray n := by
  rcases q with q | ⟨o, its, n, e, hc, hd, _, hv⟩
  · obtain ⟨_, its, hv, o, e, hc, n, hd⟩ := (show ObjOk P w H h a (.tup xs) from q.ok hok)
    exact ⟨its, o, n, hv, e, hc, hd⟩
  · exact ⟨its.toList, o, n, hv, KX _ _ e, hc, by simp [hd]⟩
mutual
theorem Dw.reads (hok : HOk P w H h) (KX : K.In h) : ∀ (d : WData) (v : V) (u : Value), Dw K H v d → RelV v u → ∃ as, ReadsW R cl h u d as
  | .none, _, _, x, r => by
    cases x
    cases r
    exact ⟨_, ReadsW.none⟩
  | .bool b, _, _, x, r => by
    cases x
    cases r
    exact ⟨_, ReadsW.bool b⟩
  | .int i, _, _, x, r => by
    cases x
    obtain ⟨t, rfl⟩ := r
    exact ⟨_, ReadsW.int i t⟩
  | .str s, _, _, x, r => by
    cases x
    obtain ⟨t, rfl⟩ := r
    exact ⟨_, ReadsW.str s t⟩
  | .bytes b, _, _, x, r => by
    cases x
    obtain ⟨t, rfl⟩ := r
    exact ⟨_, ReadsW.bytes _ t⟩
  | .list ds, _, _, x, r => by
    cases x with
    | lst hs ha =>
      cases r
      obtain ⟨its, o, n, rv, ho, hc, hd⟩ := sqL_at hok KX hs
      obtain ⟨as, hr⟩ := Dw.readsAll hok KX ds _ its ha rv
      exact ⟨_, ReadsW.list ho hc hd hr⟩
  | .tuple ds, _, _, x, r => by
    cases x with
    | tup hs ha =>
      cases r
      obtain ⟨its, o, n, rv, ho, hc, hd⟩ := sqT_at hok KX hs
      obtain ⟨as, hr⟩ := Dw.readsAll hok KX ds _ its ha rv
      exact ⟨_, ReadsW.tuple ho hc hd hr⟩
  | .float _, _, _, x, _ => by cases x
  | .dict _, _, _, x, _ => by cases x
  | .bytearray _, _, _, x, _ => by cases x
  | .set _, _, _, x, _ => by cases x
  | .frozenset _, _, _, x, _ => by cases x
  | .obj _ _, _, _, x, _ => by cases x
theorem Dw.readsAll (hok : HOk P w H h) (KX : K.In h) : ∀ (ds : List WData) (vs : List V) (us : List Value), DwAll K H vs ds → Vals vs us → ∃ as, ReadsAllW R cl h us ds as
  | [], _, _, x, r => by
    cases x
    cases r
    exact ⟨_, ReadsAllW.nil⟩
  | d :: ds, _, _, x, r => by
    cases x with
    | cons h1 h2 =>
      cases r with
      | cons r1 r2 =>
        obtain ⟨as, q1⟩ := Dw.reads hok KX d _ _ h1 r1
        obtain ⟨bs, q2⟩ := Dw.readsAll hok KX ds _ _ h2 r2
        exact ⟨_, ReadsAllW.cons q1 q2⟩
end
end
mutual
def plW : WData → Bool
  | .none => true
  | .bool _ => true
  | .int _ => true
  | .str _ => true
  | .bytes _ => true
  | .list xs => plWs xs
  | .tuple xs => plWs xs
  | _ => false
def plWs : List WData → Bool
  | [] => true
  | x :: r => plW x && plWs r
end
theorem plWs_map {α : Type} {f : α → WData} (h : ∀ a, plW (f a) = true) : ∀ l : List α, plWs (l.map f) = true
  | [] => rfl
  | x :: r => by
    show (plW (f x) && plWs (r.map f)) = true
    rw [h x, plWs_map h r] <;> rfl
theorem pl_enc : ∀ (c : Codec) (a : c.denote), plW (c.enc a) = true
  | .unit, _ => rfl
  | .bool, _ => rfl
  | .int _ _, _ => rfl
  | .nat _ _, _ => rfl
  | .u8, _ => rfl
  | .bytes _ _, _ => rfl
  | .text _ _ _ _, _ => rfl
  | .list _ _ c, a => plWs_map (fun x => pl_enc c x) a
  | .pair c d, a => by
    show (plW (c.enc a.1) && (plW (d.enc a.2) && true)) = true
    rw [pl_enc c a.1, pl_enc d a.2] <;> rfl
  | .triple c d e, a => by
    show (plW (c.enc a.1) && (plW (d.enc a.2.1) && (plW (e.enc a.2.2) && true))) = true
    rw [pl_enc c a.1, pl_enc d a.2.1, pl_enc e a.2.2] <;> rfl
  | .option c, none => rfl
  | .option c, some x => pl_enc c x
theorem pl_encAll : ∀ (cs : List Codec) (a : Codec.denoteAll cs), plWs (Codec.encAll cs a) = true
  | [], _ => rfl
  | c :: cs, a => by
    show (plW (c.enc a.1) && plWs (Codec.encAll cs a.2)) = true
    rw [pl_enc c a.1, pl_encAll cs a.2] <;> rfl
theorem weight_mem : ∀ {xs : List WData} {d : WData}, d ∈ xs → d.weight ≤ WData.weightAll xs
  | [], d, h => absurd h (by simp)
  | x :: r, d, h => by
    show d.weight ≤ x.weight + 1 + WData.weightAll r
    rcases List.mem_cons.mp h with e | m
    · rw [e]
      omega
    · have z := weight_mem m
      omega
def toV : Value → V
  | .none => .non
  | .bool b => .bl b
  | .int i _ => .int i
  | .str x _ => .str x
  | .bytes b _ => .byt b
  | .ref a => .ref a
  | _ => .non
def OkU (A : List Addr) : Value → Prop
  | .none => True
  | .bool _ => True
  | .int _ _ => True
  | .str _ _ => True
  | .bytes _ _ => True
  | .ref a => a ∈ A
  | _ => False
theorem OkU.mono {A B : List Addr} (h : ∀ a ∈ A, a ∈ B) : ∀ {u : Value}, OkU A u → OkU B u := fun {u} x => by
  cases u with
  | ref a => exact h a x
  | none => trivial
  | bool b => trivial
  | int i t => trivial
  | str s t => trivial
  | bytes b t => trivial
  | _ => exact False.elim x
theorem relV_toV {A : List Addr} {u : Value} (x : OkU A u) : RelV (toV u) u := by
  cases u with
  | ref a => rfl
  | none => rfl
  | bool b => rfl
  | int i t => exact ⟨t, rfl⟩
  | str s t => exact ⟨t, rfl⟩
  | bytes b t => exact ⟨t, rfl⟩
  | _ => exact False.elim x
theorem vals_toV {A : List Addr} : ∀ {vs : List Value}, (∀ u ∈ vs, OkU A u) → Vals (vs.map toV) vs
  | [], _ => .nil
  | u :: r, h => .cons (relV_toV (h u (List.mem_cons_self ..))) (vals_toV fun x hx => h x (List.mem_cons_of_mem _ hx))
def ArgOb (h : Heap) (A : List Addr) (a : Addr) : Prop := ∃ vs : List Value, vs.length ≤ sizeLine ∧ (∀ u ∈ vs, OkU A u) ∧
  (h.get? a = some { cls := .type "list", data := .seq vs.toArray } ∨ h.get? a = some { cls := .type "tuple", data := .seq vs.toArray })
theorem ArgOb.mono {h : Heap} {A B : List Addr} {a : Addr} (k : ∀ a ∈ A, a ∈ B) (x : ArgOb h A a) : ArgOb h B a := by
  obtain ⟨vs, h1, h2, h3⟩ := x
  exact ⟨vs, h1, fun u hu => (h2 u hu).mono k, h3⟩
theorem wellAll_len {P : Params} {h : Heap} : ∀ {vs : List Value} {ds : List WData}, WellAll P h vs ds → vs.length = ds.length
  | _, _, .nil => rfl
  | _, _, .cons _ b => by
    show _ + 1 = _ + 1
    rw [wellAll_len b]
theorem well_list {P : Params} {h : Heap} {v : Value} {ds : List WData} (x : Well P h v (.list ds)) : ∃ (a : Addr) (vs : List Value), v = .ref a ∧ h.get? a = some { cls := .type "list", data := .seq vs.toArray } ∧ WellAll P h vs ds := by
  cases x with
  | list ho hall => exact ⟨_, _, rfl, ho, hall⟩
theorem well_tuple {P : Params} {h : Heap} {v : Value} {ds : List WData} (x : Well P h v (.tuple ds)) : ∃ (a : Addr) (vs : List Value), v = .ref a ∧ h.get? a = some { cls := .type "tuple", data := .seq vs.toArray } ∧ WellAll P h vs ds := by
  cases x with
  | tuple ho hall => exact ⟨_, _, rfl, ho, hall⟩
theorem well_cons {P : Params} {h : Heap} {us : List Value} {d : WData} {ds : List WData} (x : WellAll P h us (d :: ds)) : ∃ (v : Value) (vs : List Value), us = v :: vs ∧ Well P h v d ∧ WellAll P h vs ds := by
  cases x with
  | cons a b => exact ⟨_, _, rfl, a, b⟩
theorem line_of {n : Nat} (h : n ≤ 1048576) : n ≤ sizeLine := Nat.le_trans h (by decide)
section
variable {P : Params} {h : Heap}
mutual
theorem area_one : ∀ (d : WData) (v : Value), Well P h v d → plW d = true → d.weight ≤ 1048576 → ∃ A : List Addr, OkU A v ∧ ∀ a ∈ A, ArgOb h A a
  | .none, _, x, _, _ => by
    cases x
    exact ⟨[], trivial, fun a m => absurd m (by simp)⟩
  | .bool b, _, x, _, _ => by
    cases x
    exact ⟨[], trivial, fun a m => absurd m (by simp)⟩
  | .int i, _, x, _, _ => by
    cases x
    exact ⟨[], trivial, fun a m => absurd m (by simp)⟩
  | .str s, _, x, _, _ => by
    cases x
    exact ⟨[], trivial, fun a m => absurd m (by simp)⟩
  | .bytes b, _, x, _, _ => by
    cases x
    exact ⟨[], trivial, fun a m => absurd m (by simp)⟩
  | .list ds, _, x, p, z => by
    obtain ⟨a, vs, rfl, ho, hall⟩ := well_list x
    have z2 : WData.weightAll ds ≤ 1048576 := z
    obtain ⟨A, h1, h2⟩ := area_all ds _ hall p fun d hd => Nat.le_trans (weight_mem hd) z2
    have k : ∀ b ∈ A, b ∈ a :: A := fun b hb => List.mem_cons_of_mem _ hb
    refine ⟨a :: A, List.mem_cons_self .., fun b hb => ?_⟩
    rcases List.mem_cons.mp hb with e | m
    · rw [e]
      exact ⟨vs, line_of (by rw [wellAll_len hall]; exact Nat.le_trans (PySem.W.length_le_weightAllW ds) z2), fun u hu => (h1 u hu).mono k, .inl ho⟩
    · exact (h2 b m).mono k
  | .tuple ds, _, x, p, z => by
    obtain ⟨a, vs, rfl, ho, hall⟩ := well_tuple x
    have z2 : WData.weightAll ds ≤ 1048576 := z
    obtain ⟨A, h1, h2⟩ := area_all ds _ hall p fun d hd => Nat.le_trans (weight_mem hd) z2
    have k : ∀ b ∈ A, b ∈ a :: A := fun b hb => List.mem_cons_of_mem _ hb
    refine ⟨a :: A, List.mem_cons_self .., fun b hb => ?_⟩
    rcases List.mem_cons.mp hb with e | m
    · rw [e]
      exact ⟨vs, line_of (by rw [wellAll_len hall]; exact Nat.le_trans (PySem.W.length_le_weightAllW ds) z2), fun u hu => (h1 u hu).mono k, .inr ho⟩
    · exact (h2 b m).mono k
  | .float _, _, _, p, _ => Bool.noConfusion (show false = true from p)
  | .dict _, _, _, p, _ => Bool.noConfusion (show false = true from p)
  | .bytearray _, _, _, p, _ => Bool.noConfusion (show false = true from p)
  | .set _, _, _, p, _ => Bool.noConfusion (show false = true from p)
  | .frozenset _, _, _, p, _ => Bool.noConfusion (show false = true from p)
  | .obj _ _, _, _, p, _ => Bool.noConfusion (show false = true from p)
theorem area_all : ∀ (ds : List WData) (vs : List Value), WellAll P h vs ds → plWs ds = true → (∀ d ∈ ds, d.weight ≤ 1048576) → ∃ A : List Addr, (∀ u ∈ vs, OkU A u) ∧ ∀ a ∈ A, ArgOb h A a
  | [], _, x, _, _ => by
    cases x
    exact ⟨[], fun u m => absurd m (by simp), fun a m => absurd m (by simp)⟩
  | d :: ds, _, x, p, z => by
    obtain ⟨v, vs, rfl, x1, x2⟩ := well_cons x
    have q : plW d = true ∧ plWs ds = true := Bool.and_eq_true_iff.mp p
    obtain ⟨A, a1, a2⟩ := area_one d v x1 q.1 (z d (List.mem_cons_self ..))
    obtain ⟨B, b1, b2⟩ := area_all ds vs x2 q.2 fun e he => z e (List.mem_cons_of_mem _ he)
    have kA : ∀ b ∈ A, b ∈ A ++ B := fun b hb => List.mem_append.mpr (.inl hb)
    have kB : ∀ b ∈ B, b ∈ A ++ B := fun b hb => List.mem_append.mpr (.inr hb)
    refine ⟨A ++ B, fun u hu => ?_, fun b hb => ?_⟩
    · rcases List.mem_cons.mp hu with e | m
      · rw [e]
        exact a1.mono kA
      · exact (b1 u m).mono kB
    · rcases List.mem_append.mp hb with m | m
      · exact (a2 b m).mono kA
      · exact (b2 b m).mono kB
end
end
def hoOf (o : Obj) : Option HO := match o.data with
  | .seq vs _ => if (o.cls == Value.type "list") = true then some (.frz o (.lst (vs.toList.map toV))) else some (.frz o (.tup (vs.toList.map toV)))
  | _ => none
def argH (K : PySem.W.Frag) (h : Heap) (A : List Addr) : Hp := fun b => if b ∈ A then (if (K.lookup b).isNone = true then (h.get? b).bind hoOf else none) else none
def OnlyF (H : Hp) : Prop := ∀ b, H b = none ∨ ∃ o u, H b = some (.frz o u)
theorem hoOf_lst (vs : List Value) : hoOf { cls := .type "list", data := .seq vs.toArray } = some (.frz { cls := .type "list", data := .seq vs.toArray } (.lst (vs.map toV))) := by
  show (if (Value.type "list" == Value.type "list") = true then some (HO.frz { cls := .type "list", data := .seq vs.toArray } (.lst (vs.toArray.toList.map toV))) else some (HO.frz { cls := .type "list", data := .seq vs.toArray } (.tup (vs.toArray.toList.map toV)))) = _
  rw [if_pos (beq_self_eq_true _)]
theorem hoOf_tup (vs : List Value) : hoOf { cls := .type "tuple", data := .seq vs.toArray } = some (.frz { cls := .type "tuple", data := .seq vs.toArray } (.tup (vs.map toV))) := by
  show (if (Value.type "tuple" == Value.type "list") = true then some (HO.frz { cls := .type "tuple", data := .seq vs.toArray } (.lst (vs.toArray.toList.map toV))) else some (HO.frz { cls := .type "tuple", data := .seq vs.toArray } (.tup (vs.toArray.toList.map toV)))) = _
  rw [if_neg (by decide)]
section
variable {P : Program} {w : World} {K : PySem.W.Frag} {h : Heap} {A : List Addr}
theorem argH_at {b : Addr} {o : Obj} (hb : b ∈ A) (hk : K.lookup b = none) (e : h.get? b = some o) : argH K h A b = hoOf o := by
  unfold argH
  rw [if_pos hb, hk, if_pos (show (none : Option Obj).isNone = true from rfl), e] <;> rfl
theorem of_argH {b : Addr} {u : HO} (q : argH K h A b = some u) : b ∈ A ∧ K.lookup b = none := by
  unfold argH at q
  by_cases hb : b ∈ A
  · rw [if_pos hb] at q
    cases hk : K.lookup b with
    | none => exact ⟨hb, rfl⟩
    | some o =>
      rw [hk, if_neg (by simp)] at q
      cases q
  · rw [if_neg hb] at q
    cases q
theorem argH_is (ar : ∀ a ∈ A, ArgOb h A a) {b : Addr} {u : HO} (q : argH K h A b = some u) : K.lookup b = none ∧ ∃ vs : List Value, vs.length ≤ sizeLine ∧ (∀ u ∈ vs, OkU A u) ∧
    ((h.get? b = some { cls := .type "list", data := .seq vs.toArray } ∧ u = .frz { cls := .type "list", data := .seq vs.toArray } (.lst (vs.map toV))) ∨
     (h.get? b = some { cls := .type "tuple", data := .seq vs.toArray } ∧ u = .frz { cls := .type "tuple", data := .seq vs.toArray } (.tup (vs.map toV)))) := by
  obtain ⟨hb, hk⟩ := of_argH q
  obtain ⟨vs, h1, h2, h3⟩ := ar b hb
  refine ⟨hk, vs, h1, h2, ?_⟩
  rcases h3 with e | e
  · rw [argH_at hb hk e, hoOf_lst] at q
    exact .inl ⟨e, (Option.some.inj q).symm⟩
  · rw [argH_at hb hk e, hoOf_tup] at q
    exact .inr ⟨e, (Option.some.inj q).symm⟩
theorem argH_only (ar : ∀ a ∈ A, ArgOb h A a) : OnlyF (argH K h A) := fun b => by
  cases q : argH K h A b with
  | none => exact .inl rfl
  | some u =>
    obtain ⟨_, vs, _, _, ⟨_, e⟩ | ⟨_, e⟩⟩ := argH_is ar q
    · exact .inr ⟨_, _, by rw [e]⟩
    · exact .inr ⟨_, _, by rw [e]⟩
theorem argH_ok (ar : ∀ a ∈ A, ArgOb h A a) : HOk P w (argH K h A) h := fun b u q => by
  obtain ⟨_, vs, h1, h2, ⟨e, rfl⟩ | ⟨e, rfl⟩⟩ := argH_is ar q
  · exact ⟨e, by rw [List.length_map]; exact h1, vs, _, vals_toV h2, e⟩
  · exact ⟨e, by rw [List.length_map]; exact h1, vs, vals_toV h2, _, e, rfl, _, rfl⟩
theorem seq_inj {c c' : Value} {vs us : List Value} (e : (some { cls := c, data := .seq vs.toArray } : Option Obj) = some { cls := c', data := .seq us.toArray }) : c = c' ∧ vs = us := by
  have e1 := Option.some.inj e
  have e2 : c = c' := congrArg Obj.cls e1
  have e3 : Data.seq vs.toArray = Data.seq us.toArray := congrArg Obj.data e1
  injection e3 with e4
  refine ⟨e2, ?_⟩
  have e5 := congrArg Array.toList e4
  simpa using e5
theorem argL (KX : K.In h) (ar : ∀ a ∈ A, ArgOb h A a) {a : Addr} {vs : List Value} (ha : a ∈ A) (e : h.get? a = some { cls := .type "list", data := .seq vs.toArray }) : (∀ u ∈ vs, OkU A u) ∧ SqL K (argH K h A) a (vs.map toV) := by
  obtain ⟨us, h1, h2, h3⟩ := ar a ha
  have hu : us = vs := by
    rcases h3 with q | q
    · rw [e] at q
      exact (seq_inj q).2.symm
    · rw [e] at q
      exact absurd (Value.type.inj (seq_inj q).1) (by decide)
  subst hu
  refine ⟨h2, ?_⟩
  cases hk : K.lookup a with
  | none => exact .inl (.inr ⟨_, by rw [argH_at ha hk e, hoOf_lst]⟩)
  | some o =>
    have e2 := KX a o hk
    rw [e] at e2
    obtain rfl := Option.some.inj e2
    exact .inr ⟨_, us.toArray, _, hk, rfl, rfl, rfl, by rw [List.size_toArray]; exact h1, by simpa using vals_toV h2⟩
theorem argT (KX : K.In h) (ar : ∀ a ∈ A, ArgOb h A a) {a : Addr} {vs : List Value} (ha : a ∈ A) (e : h.get? a = some { cls := .type "tuple", data := .seq vs.toArray }) : (∀ u ∈ vs, OkU A u) ∧ SqT K (argH K h A) a (vs.map toV) := by
  obtain ⟨us, h1, h2, h3⟩ := ar a ha
  have hu : us = vs := by
    rcases h3 with q | q
    · rw [e] at q
      exact absurd (Value.type.inj (seq_inj q).1) (by decide)
    · rw [e] at q
      exact (seq_inj q).2.symm
  subst hu
  refine ⟨h2, ?_⟩
  cases hk : K.lookup a with
  | none => exact .inl (.inr ⟨_, by rw [argH_at ha hk e, hoOf_tup]⟩)
  | some o =>
    have e2 := KX a o hk
    rw [e] at e2
    obtain rfl := Option.some.inj e2
    exact .inr ⟨_, us.toArray, _, hk, rfl, rfl, by rw [List.size_toArray]; exact h1, by simpa using vals_toV h2⟩
mutual
theorem dw_one {Pm : Params} (KX : K.In h) (ar : ∀ a ∈ A, ArgOb h A a) : ∀ (d : WData) (v : Value), Well Pm h v d → plW d = true → OkU A v → Dw K (argH K h A) (toV v) d
  | .none, _, x, _, _ => by
    cases x
    exact .non
  | .bool b, _, x, _, _ => by
    cases x
    exact .bl b
  | .int i, _, x, _, _ => by
    cases x
    exact .int i
  | .str s, _, x, _, _ => by
    cases x
    exact .str s
  | .bytes b, _, x, _, _ => by
    cases x
    have z := Dw.byt (K := K) (H := argH K h A) b.toArray
    exact z
  | .list ds, _, x, p, hu => by
    obtain ⟨a, vs, rfl, ho, hall⟩ := well_list x
    obtain ⟨h2, hs⟩ := argL KX ar hu ho
    exact .lst hs (dw_all KX ar ds _ hall p h2)
  | .tuple ds, _, x, p, hu => by
    obtain ⟨a, vs, rfl, ho, hall⟩ := well_tuple x
    obtain ⟨h2, hs⟩ := argT KX ar hu ho
    exact .tup hs (dw_all KX ar ds _ hall p h2)
  | .float _, _, _, p, _ => Bool.noConfusion (show false = true from p)
  | .dict _, _, _, p, _ => Bool.noConfusion (show false = true from p)
  | .bytearray _, _, _, p, _ => Bool.noConfusion (show false = true from p)
  | .set _, _, _, p, _ => Bool.noConfusion (show false = true from p)
  | .frozenset _, _, _, p, _ => Bool.noConfusion (show false = true from p)
  | .obj _ _, _, _, p, _ => Bool.noConfusion (show false = true from p)
theorem dw_all {Pm : Params} (KX : K.In h) (ar : ∀ a ∈ A, ArgOb h A a) : ∀ (ds : List WData) (vs : List Value), WellAll Pm h vs ds → plWs ds = true → (∀ u ∈ vs, OkU A u) → DwAll K (argH K h A) (vs.map toV) ds
  | [], _, x, _, _ => by
    cases x
    exact .nil
  | d :: ds, _, x, p, hu => by
    obtain ⟨v, vs, rfl, x1, x2⟩ := well_cons x
    have q : plW d = true ∧ plWs ds = true := Bool.and_eq_true_iff.mp p
    exact .cons (dw_one KX ar d v x1 q.1 (hu _ (List.mem_cons_self ..))) (dw_all KX ar ds vs x2 q.2 fun u m => hu u (List.mem_cons_of_mem _ m))
end
end
theorem spec_call {P : Program} {w : World} {K : PySem.W.Frag} {mg mb : Str → Option Value} {CX : CXT} {k : Nat} {fa : Addr} {fd : FuncData} {ps : List Str} {sp : Sp} {s₁ : Shared} {vals : List Value} {ds : List WData} {R : PySem.W.WRecords} {cl : Str → Option Addr} {d0 : WData}
    (KX : K.In s₁.heap) (hns : s₁.heap.Ns mainGlobals mg) (hb : s₁.heap.Ns builtinsNs mb) (hbb : ∀ x : Str, x ≠ "__name__" → mb x = bootBuiltins x) (hlim : s₁.heap.NoLimit) (hg : s₁.gens = #[])
    (hwl : WellAll w.params s₁.heap vals ds) (hpl : plWs ds = true) (hwt : ∀ d ∈ ds, d.weight ≤ 1048576) (hr : Room k callerA)
    (F : ∀ base : Heap, K.In base → base.Ns mainGlobals mg → FnOk P w K mg base CX k fa fd ps sp) (hbind : ∀ (s : Shared) (us : List Value), us.length = ps.length → BindsTo s fd ⟨us, []⟩ (ps.zip us)) (hlen : ds.length = ps.length)
    (hsp : ∀ (H : Hp) (xs : List V), OnlyF H → DwAll K H xs ds → sp xs H (fun v H' => Dw K H' v d0) fun _ _ _ => False)
    (hCX : ∀ H e s', CX [] H s₁ (fun _ _ _ => False) e s' → False) :
    codeAny (model P w) callerA (.call (.ref fa) ⟨vals, []⟩) (fun r s' => ∃ u as, r = .ok (.ret u) ∧ ReadsW R cl s'.heap u d0 as ∧ OldK s₁.heap s'.heap ∧ s'.os = s₁.os ∧ AllBare s'.gens) s₁ := by
  obtain ⟨A, ho, ar⟩ := area_all ds vals hwl hpl hwt
  have hO : OnlyF (argH K s₁.heap A) := argH_only ar
  have hok : HOk P w (argH K s₁.heap A) s₁.heap := argH_ok ar
  have hS := dw_all KX ar ds vals hwl hpl ho
  have hV := vals_toV ho
  have hK : ∀ b u, argH K s₁.heap A b = some u → K.lookup b = none := fun b u q => (argH_is ar q).1
  have noA : ∀ {b : Addr} {o : Obj} {es : Array DictEntry} {ep : Nat}, s₁.heap.get? b = some o → o.data = .dict es ep → argH K s₁.heap A b = none := fun {b o es ep} e d => by
    cases q : argH K s₁.heap A b with
    | none => rfl
    | some u =>
      obtain ⟨_, vs, _, _, ⟨e2, _⟩ | ⟨e2, _⟩⟩ := argH_is ar q
      · rw [e2] at e
        cases e
        have d' : Data.seq vs.toArray _ = Data.dict es ep := d
        cases d'
      · rw [e2] at e
        cases e
        have d' : Data.seq vs.toArray _ = Data.dict es ep := d
        cases d'
  generalize argH K s₁.heap A = H at hO hok hS hK noA
  have base_of : ∀ {b : Addr} {o : Obj}, s₁.heap.get? b = some o → H b = none → (hidT s₁.heap H).get? b = some o := fun e n => hidT_get e n
  have nsK : ∀ {b : Addr} {m : Str → Option Value}, s₁.heap.Ns b m → (hidT s₁.heap H).Ns b m := fun {b m} ⟨o, es, ep, e, d, r⟩ => ⟨o, es, ep, base_of e (noA e d), d, r⟩
  have nK : ∀ b o, K.lookup b = some o → H b = none := fun b o e => by
    cases q : H b with
    | none => rfl
    | some u =>
      rw [hK b u q] at e
      cases e
  have hKb : K.In (hidT s₁.heap H) := fun b o e => base_of (KX b o e) (nK b o e)
  have hM : Mod K mg (hidT s₁.heap H) := ⟨hKb, nsK hns, ⟨mb, nsK hb, hbb⟩, let ⟨mc, h1, h2⟩ := hlim; ⟨mc, nsK h1, h2⟩⟩
  have e0 : Env0 P w K mg (hidT s₁.heap H) callerA [] s₁ H := ⟨rfl, hM, fun b o e => of_hidT e, Nat.le_of_eq (hidT_size _ _), trivial, fun b hb => absurd (show b ∈ ([] : List Addr) from hb) (by simp), hok, .of_eq hg⟩
  have hl : vals.length = ps.length := by rw [wellAll_len hwl]; exact hlen
  refine codeAny_mono ((F _ hKb (nsK hns)).run callerA [] s₁ H ⟨vals, []⟩ vals (vals.map toV) _ _ hr e0 (hbind s₁ vals hl) hV (hsp H _ hO hS)) fun r s' x => ?_
  cases r with
  | error e => exact (hCX H e s' x).elim
  | ok fl =>
    cases fl with
    | next => exact False.elim x
    | brk => exact False.elim x
    | cont => exact False.elim x
    | ret u =>
      obtain ⟨v, H', os, bare, un, hok', r', q⟩ := x
      have kept : ∀ b o, s₁.heap.get? b = some o → s'.heap.get? b = some o := fun b o e => by
        cases q2 : H b with
        | none => exact un.keep b o e q2 (by intro z; exact absurd (show b ∈ ([] : List Addr) from z) (by simp)) (by simp)
        | some u2 =>
          rcases hO b with z | ⟨ob, u3, z⟩
          · rw [q2] at z
            cases z
          · have z2 := un.frzs b ob _ z
            obtain ⟨e1, _⟩ := hok b _ z
            obtain ⟨e2, _⟩ := hok' b _ z2
            rw [e] at e1
            cases e1
            exact e2
      have KX' : K.In s'.heap := fun b o e => kept b o (KX b o e)
      obtain ⟨as, hrd⟩ := Dw.reads (R := R) (cl := cl) hok' KX' d0 v u q r'
      exact ⟨u, as, rfl, hrd, OldK.of_keep kept, os, bare⟩
theorem layable_weight {ds : List WData} (h : WData.layableAll ds = true) : ∀ d ∈ ds, d.weight ≤ 1048576 := fun d hd =>
  (PySem.W.layableW_iff.mp (List.all_eq_true.mp h d hd)).2.2
theorem encAll_len : ∀ (cs : List Codec) (a : Codec.denoteAll cs), (Codec.encAll cs a).length = cs.length
  | [], _ => rfl
  | c :: cs, a => by
    show (Codec.encAll cs a.2).length + 1 = cs.length + 1
    rw [encAll_len cs a.2]
theorem walk_spec {r : OpenSpec} {k : Nat} {q : Program} {loose : List Str} {XP : (Str → Option Value) → Heap → Prop} {YP : World → Heap → Prop} {d : DefRec} {K : Params → PySem.W.Frag} {CX : World → CXT} {ps : List Str} {sp : World → Sp}
    (hwell : r.wellSaid = true) (hdf : d.params.defaults = []) (hlen : r.args.length = ps.length) (hr : Room k callerA)
    (hY : ∀ (w : World) (h : Heap), YP w h → (K w.params).In h)
    (F : ∀ (w : World) (mg : Str → Option Value) (fa : Addr) (h : Heap), YP w h → (K w.params).In h → h.Ns mainGlobals mg → mg d.name = some (.ref fa) →
      ∃ fd : FuncData, (∀ (s : Shared) (us : List Value), us.length = ps.length → BindsTo s fd ⟨us, []⟩ (ps.zip us)) ∧
        ∀ base : Heap, (K w.params).In base → base.Ns mainGlobals mg → FnOk r.prog w (K w.params) mg base (CX w) k fa fd ps (sp w))
    (hsp : ∀ (w : World) (H : Hp) (xs : List V) (a : Codec.denoteAll r.args), OnlyF H → Codec.withinAll r.args a = true → Codec.app r.args r.asked a = true → DwAll (K w.params) H xs (Codec.encAll r.args a) →
      sp w xs H (fun v H' => Dw (K w.params) H' v (r.ret.enc (Codec.app r.args r.f a))) fun _ _ _ => False)
    (hCX : ∀ (w : World) (H : Hp) (s : Shared) (e : Value) (s' : Shared), CX w [] H s (fun _ _ _ => False) e s' → False) :
    PySem.W.WalkOS q loose XP YP r d [] (fun f vs => PySem.call f vs) := by
  intro w s_0 s₁ mg mb G Y fa o pm cd doc dV kV ho hd hcd hD hmg hg args vals as hpre hlay hrd hwl hlo
  obtain ⟨a, e1, e2⟩ := PySem.W.os_pre_some hpre
  obtain ⟨e3, hwi⟩ := Codec.encAll_of_decAll r.args args a e1
  subst e3
  have KX := hY w _ Y
  obtain ⟨fd, hb, hF⟩ := F w mg fa _ Y KX G.T.g hmg
  refine PySem.W.enter_call (codeAny_mono (spec_call (R := []) (cl := classAt s_0.heap) (d0 := r.ret.enc (Codec.app r.args r.f a)) KX G.T.g G.T.b G.T.builtins G.T.nolimit hg hwl (pl_encAll _ _) (layable_weight hlay) hr hF hb (by rw [encAll_len]; exact hlen)
    (fun H xs hO hS => hsp w H xs a hO hwi e2 hS) fun H e s' => hCX w H s₁ e s') fun r' s' hq => ?_)
  obtain ⟨u, as', rfl, h1, h2, h3, h4⟩ := hq
  exact ⟨.inl ⟨u, _, as', rfl, fun _ => rfl, h1, (OpenSpec.post_iff hwell hwi _ _).mpr rfl, fun z => Bool.noConfusion (show false = true from z)⟩, h2, h3, h4⟩
theorem walk_specK {r : OpenSpec} {k : Nat} {q : Program} {loose : List Str} {XP : (Str → Option Value) → Heap → Prop} {YP : World → Heap → Prop} {d : DefRec} {K : Params → PySem.W.Frag} {CX : CXT} {ps : List Str} {sp : PySem.W.Frag → Sp}
    (hwell : r.wellSaid = true) (hdf : d.params.defaults = []) (hlen : r.args.length = ps.length) (hr : Room k callerA)
    (hY : ∀ (w : World) (h : Heap), YP w h → (K w.params).In h)
    (F : ∀ (w : World) (mg : Str → Option Value) (fa : Addr) (h : Heap), YP w h → (K w.params).In h → h.Ns mainGlobals mg → mg d.name = some (.ref fa) →
      ∃ fd : FuncData, (∀ (s : Shared) (us : List Value), us.length = ps.length → BindsTo s fd ⟨us, []⟩ (ps.zip us)) ∧
        ∀ base : Heap, (K w.params).In base → base.Ns mainGlobals mg → FnOk r.prog w (K w.params) mg base CX k fa fd ps (sp (K w.params)))
    (hsp : ∀ (K : PySem.W.Frag) (H : Hp) (xs : List V) (a : Codec.denoteAll r.args), OnlyF H → Codec.withinAll r.args a = true → Codec.app r.args r.asked a = true → DwAll K H xs (Codec.encAll r.args a) →
      sp K xs H (fun v H' => Dw K H' v (r.ret.enc (Codec.app r.args r.f a))) fun _ _ _ => False)
    (hCX : ∀ (H : Hp) (s : Shared) (e : Value) (s' : Shared), CX [] H s (fun _ _ _ => False) e s' → False) :
    PySem.W.WalkOS q loose XP YP r d [] (fun f vs => PySem.call f vs) :=
  walk_spec (K := K) (CX := fun _ => CX) (sp := fun w => sp (K w.params)) hwell hdf hlen hr hY F (fun w H xs a h1 h2 h3 h4 => hsp (K w.params) H xs a h1 h2 h3 h4) fun _ H s e s' => hCX H s e s'
end L2
end
section
set_option Elab.async false
set_option linter.all false
set_option maxRecDepth 100000
set_option genInjectivity false
set_option genSizeOf false
open PySem PySem.Spec PyProof.Rows L2
namespace TT
def top (i : Nat) : Stmt := PySem.Challenge.pw_turntasks_s01_answers.main.body.getD i (.Pass ⟨0, 0, 0, 0⟩)
abbrev s_is_value : Stmt := top 7
theorem sc_is_value : FnScope ["numbers"] ["numbers"] (defScope s_is_value) := ⟨rfl, rfl, rfl, by decide +kernel, rfl, by decide +kernel, by decide +kernel⟩
abbrev s_is_of_kind : Stmt := top 8
theorem sc_is_of_kind : FnScope ["value", "kind"] ["value", "kind"] (defScope s_is_of_kind) := ⟨rfl, rfl, rfl, by decide +kernel, rfl, by decide +kernel, by decide +kernel⟩
abbrev s_is_whole : Stmt := top 9
theorem sc_is_whole : FnScope ["value"] ["value"] (defScope s_is_whole) := ⟨rfl, rfl, rfl, by decide +kernel, rfl, by decide +kernel, by decide +kernel⟩
abbrev s_nothing : Stmt := top 10
theorem sc_nothing : FnScope [] [] (defScope s_nothing) := ⟨rfl, rfl, rfl, by decide +kernel, rfl, by decide +kernel, by decide +kernel⟩
abbrev s_whole : Stmt := top 11
theorem sc_whole : FnScope ["number"] ["number"] (defScope s_whole) := ⟨rfl, rfl, rfl, by decide +kernel, rfl, by decide +kernel, by decide +kernel⟩
abbrev s_channel_value : Stmt := top 12
theorem sc_channel_value : FnScope ["number"] ["number"] (defScope s_channel_value) := ⟨rfl, rfl, rfl, by decide +kernel, rfl, by decide +kernel, by decide +kernel⟩
abbrev s_Task_init : Stmt := inClass (top 25) 0
theorem sc_Task_init : FnScope ["self", "number"] ["self", "number"] (defScope s_Task_init) := ⟨rfl, rfl, rfl, by decide +kernel, rfl, by decide +kernel, by decide +kernel⟩
abbrev s_Task_wait : Stmt := inClass (top 25) 1
theorem sc_Task_wait : FnScope ["self", "state", "target"] ["self", "state", "target"] (defScope s_Task_wait) := ⟨rfl, rfl, rfl, by decide +kernel, rfl, by decide +kernel, by decide +kernel⟩
abbrev s_Task_has_ended : Stmt := inClass (top 25) 2
theorem sc_Task_has_ended : FnScope ["self"] ["self"] (defScope s_Task_has_ended) := ⟨rfl, rfl, rfl, by decide +kernel, rfl, by decide +kernel, by decide +kernel⟩
abbrev s_Task_needs_another : Stmt := inClass (top 25) 3
theorem sc_Task_needs_another : FnScope ["self"] ["self"] (defScope s_Task_needs_another) := ⟨rfl, rfl, rfl, by decide +kernel, rfl, by decide +kernel, by decide +kernel⟩
abbrev s_Channel_init : Stmt := inClass (top 26) 0
theorem sc_Channel_init : FnScope ["self", "room"] ["self", "room"] (defScope s_Channel_init) := ⟨rfl, rfl, rfl, by decide +kernel, rfl, by decide +kernel, by decide +kernel⟩
abbrev s_Held_init : Stmt := inClass (top 27) 0
theorem sc_Held_init : FnScope ["self"] ["self"] (defScope s_Held_init) := ⟨rfl, rfl, rfl, by decide +kernel, rfl, by decide +kernel, by decide +kernel⟩
abbrev s_Held_begin_anew : Stmt := inClass (top 27) 1
theorem sc_Held_begin_anew : FnScope ["self", "steps"] ["self", "steps"] (defScope s_Held_begin_anew) := ⟨rfl, rfl, rfl, by decide +kernel, rfl, by decide +kernel, by decide +kernel⟩
abbrev s_Held_is_full : Stmt := inClass (top 27) 2
theorem sc_Held_is_full : FnScope ["self"] ["self"] (defScope s_Held_is_full) := ⟨rfl, rfl, rfl, by decide +kernel, rfl, by decide +kernel, by decide +kernel⟩
abbrev s_Held_has_all_channels : Stmt := inClass (top 27) 3
theorem sc_Held_has_all_channels : FnScope ["self"] ["self"] (defScope s_Held_has_all_channels) := ⟨rfl, rfl, rfl, by decide +kernel, rfl, by decide +kernel, by decide +kernel⟩
abbrev s_Held_add_task : Stmt := inClass (top 27) 4
theorem sc_Held_add_task : FnScope ["self", "number", "task"] ["self", "number"] (defScope s_Held_add_task) := ⟨rfl, rfl, rfl, by decide +kernel, rfl, by decide +kernel, by decide +kernel⟩
abbrev s_Held_make_ready : Stmt := inClass (top 27) 5
theorem sc_Held_make_ready : FnScope ["self", "task"] ["self", "task"] (defScope s_Held_make_ready) := ⟨rfl, rfl, rfl, by decide +kernel, rfl, by decide +kernel, by decide +kernel⟩
abbrev s_Held_hear : Stmt := inClass (top 27) 6
theorem sc_Held_hear : FnScope ["self", "reply"] ["self", "reply"] (defScope s_Held_hear) := ⟨rfl, rfl, rfl, by decide +kernel, rfl, by decide +kernel, by decide +kernel⟩
abbrev s_Held_is_busy : Stmt := inClass (top 27) 7
theorem sc_Held_is_busy : FnScope ["self", "task"] ["self"] (defScope s_Held_is_busy) := ⟨rfl, rfl, rfl, by decide +kernel, rfl, by decide +kernel, by decide +kernel⟩
abbrev s_Held_all_have_ended : Stmt := inClass (top 27) 8
theorem sc_Held_all_have_ended : FnScope ["self", "task"] ["self"] (defScope s_Held_all_have_ended) := ⟨rfl, rfl, rfl, by decide +kernel, rfl, by decide +kernel, by decide +kernel⟩
abbrev s_Held_sleepers : Stmt := inClass (top 27) 9
theorem sc_Held_sleepers : FnScope ["self", "pairs", "task", "pair"] ["self"] (defScope s_Held_sleepers) := ⟨rfl, rfl, rfl, by decide +kernel, rfl, by decide +kernel, by decide +kernel⟩
abbrev s_Held_stuck_tasks : Stmt := inClass (top 27) 10
theorem sc_Held_stuck_tasks : FnScope ["self", "numbers", "task", "number"] ["self"] (defScope s_Held_stuck_tasks) := ⟨rfl, rfl, rfl, by decide +kernel, rfl, by decide +kernel, by decide +kernel⟩
abbrev s_Held_channel_of : Stmt := inClass (top 27) 11
theorem sc_Held_channel_of : FnScope ["self", "value"] ["self", "value"] (defScope s_Held_channel_of) := ⟨rfl, rfl, rfl, by decide +kernel, rfl, by decide +kernel, by decide +kernel⟩
abbrev s_Held_task_of : Stmt := inClass (top 27) 12
theorem sc_Held_task_of : FnScope ["self", "value"] ["self", "value"] (defScope s_Held_task_of) := ⟨rfl, rfl, rfl, by decide +kernel, rfl, by decide +kernel, by decide +kernel⟩
abbrev s_order_value : Stmt := top 32
theorem sc_order_value : FnScope ["kind", "task", "value"] ["kind", "task", "value"] (defScope s_order_value) := ⟨rfl, rfl, rfl, by decide +kernel, rfl, by decide +kernel, by decide +kernel⟩
abbrev s_hand : Stmt := top 33
theorem sc_hand : FnScope ["held", "orders", "task", "value"] ["held", "orders", "task", "value"] (defScope s_hand) := ⟨rfl, rfl, rfl, by decide +kernel, rfl, by decide +kernel, by decide +kernel⟩
abbrev s_toss : Stmt := top 34
theorem sc_toss : FnScope ["held", "orders", "task", "value"] ["held", "orders", "task", "value"] (defScope s_toss) := ⟨rfl, rfl, rfl, by decide +kernel, rfl, by decide +kernel, by decide +kernel⟩
abbrev s_order_spawn : Stmt := top 35
theorem sc_order_spawn : FnScope ["orders", "task"] ["orders", "task"] (defScope s_order_spawn) := ⟨rfl, rfl, rfl, by decide +kernel, rfl, by decide +kernel, by decide +kernel⟩
abbrev s_tell_orders : Stmt := top 36
theorem sc_tell_orders : FnScope ["orders", "told", "order"] ["orders"] (defScope s_tell_orders) := ⟨rfl, rfl, rfl, by decide +kernel, rfl, by decide +kernel, by decide +kernel⟩
abbrev s_is_in_ring : Stmt := top 38
theorem sc_is_in_ring : FnScope ["held", "task", "other", "k"] ["held", "task"] (defScope s_is_in_ring) := ⟨rfl, rfl, rfl, by decide +kernel, rfl, by decide +kernel, by decide +kernel⟩
abbrev s_values_wanted : Stmt := top 51
theorem sc_values_wanted : FnScope ["at"] ["at"] (defScope s_values_wanted) := ⟨rfl, rfl, rfl, by decide +kernel, rfl, by decide +kernel, by decide +kernel⟩
abbrev s_toss_wrong : Stmt := top 52
theorem sc_toss_wrong : FnScope ["held", "orders", "task"] ["held", "orders", "task"] (defScope s_toss_wrong) := ⟨rfl, rfl, rfl, by decide +kernel, rfl, by decide +kernel, by decide +kernel⟩
abbrev s_stand_at_spawn : Stmt := top 53
theorem sc_stand_at_spawn : FnScope ["orders", "task"] ["orders", "task"] (defScope s_stand_at_spawn) := ⟨rfl, rfl, rfl, by decide +kernel, rfl, by decide +kernel, by decide +kernel⟩
abbrev s_stand_at_channel : Stmt := top 54
theorem sc_stand_at_channel : FnScope ["held", "orders", "task", "value", "fits"] ["held", "orders", "task", "value"] (defScope s_stand_at_channel) := ⟨rfl, rfl, rfl, by decide +kernel, rfl, by decide +kernel, by decide +kernel⟩
abbrev s_stand_at_send : Stmt := top 55
theorem sc_stand_at_send : FnScope ["held", "orders", "task", "target", "value", "channel"] ["held", "orders", "task", "target", "value"] (defScope s_stand_at_send) := ⟨rfl, rfl, rfl, by decide +kernel, rfl, by decide +kernel, by decide +kernel⟩
abbrev s_stand_at_receive : Stmt := top 56
theorem sc_stand_at_receive : FnScope ["held", "orders", "task", "target", "channel", "sender"] ["held", "orders", "task", "target"] (defScope s_stand_at_receive) := ⟨rfl, rfl, rfl, by decide +kernel, rfl, by decide +kernel, by decide +kernel⟩
abbrev s_tell_end : Stmt := top 57
theorem sc_tell_end : FnScope ["held", "orders", "ended", "waiter"] ["held", "orders", "ended", "waiter"] (defScope s_tell_end) := ⟨rfl, rfl, rfl, by decide +kernel, rfl, by decide +kernel, by decide +kernel⟩
abbrev s_stand_at_end : Stmt := top 58
theorem sc_stand_at_end : FnScope ["held", "orders", "task", "target", "other"] ["held", "orders", "task", "target"] (defScope s_stand_at_end) := ⟨rfl, rfl, rfl, by decide +kernel, rfl, by decide +kernel, by decide +kernel⟩
abbrev s_stand_at_sleep : Stmt := top 59
theorem sc_stand_at_sleep : FnScope ["held", "orders", "task", "value", "clock", "until"] ["held", "orders", "task", "value", "clock"] (defScope s_stand_at_sleep) := ⟨rfl, rfl, rfl, by decide +kernel, rfl, by decide +kernel, by decide +kernel⟩
abbrev s_stand : Stmt := top 60
theorem sc_stand : FnScope ["held", "orders", "task", "at", "values", "clock"] ["held", "orders", "task", "at", "values", "clock"] (defScope s_stand) := ⟨rfl, rfl, rfl, by decide +kernel, rfl, by decide +kernel, by decide +kernel⟩
abbrev s_answer_begin : Stmt := top 79
theorem sc_answer_begin : FnScope ["held", "steps"] ["held", "steps"] (defScope s_answer_begin) := ⟨rfl, rfl, rfl, by decide +kernel, rfl, by decide +kernel, by decide +kernel⟩
abbrev s_refusal_of_new : Stmt := top 80
theorem sc_refusal_of_new : FnScope ["held", "number"] ["held", "number"] (defScope s_refusal_of_new) := ⟨rfl, rfl, rfl, by decide +kernel, rfl, by decide +kernel, by decide +kernel⟩
abbrev s_answer_add : Stmt := top 81
theorem sc_answer_add : FnScope ["held", "number", "refused"] ["held", "number"] (defScope s_answer_add) := ⟨rfl, rfl, rfl, by decide +kernel, rfl, by decide +kernel, by decide +kernel⟩
abbrev s_wake_sleepers : Stmt := top 82
theorem sc_wake_sleepers : FnScope ["held", "orders", "clock", "sleepers", "task"] ["held", "orders", "clock"] (defScope s_wake_sleepers) := ⟨rfl, rfl, rfl, by decide +kernel, rfl, by decide +kernel, by decide +kernel⟩
abbrev s_answer_next : Stmt := top 83
theorem sc_answer_next : FnScope ["held", "clock", "orders", "told", "task", "sleepers"] ["held", "clock"] (defScope s_answer_next) := ⟨rfl, rfl, rfl, by decide +kernel, rfl, by decide +kernel, by decide +kernel⟩
abbrev s_values_of_ran : Stmt := top 84
theorem sc_values_of_ran : FnScope ["why", "at"] ["why", "at"] (defScope s_values_of_ran) := ⟨rfl, rfl, rfl, by decide +kernel, rfl, by decide +kernel, by decide +kernel⟩
abbrev s_end_task : Stmt := top 85
theorem sc_end_task : FnScope ["held", "orders", "task", "state", "value", "waiters", "waiter"] ["held", "orders", "task", "state", "value"] (defScope s_end_task) := ⟨rfl, rfl, rfl, by decide +kernel, rfl, by decide +kernel, by decide +kernel⟩
abbrev s_answer_ran : Stmt := top 86
theorem sc_answer_ran : FnScope ["held", "number", "why", "at", "values", "clock", "task", "orders", "value"] ["held", "number", "why", "at", "values", "clock"] (defScope s_answer_ran) := ⟨rfl, rfl, rfl, by decide +kernel, rfl, by decide +kernel, by decide +kernel⟩
abbrev s_answer_spawned : Stmt := top 87
theorem sc_answer_spawned : FnScope ["held", "number", "new", "task", "refused"] ["held", "number", "new"] (defScope s_answer_spawned) := ⟨rfl, rfl, rfl, by decide +kernel, rfl, by decide +kernel, by decide +kernel⟩
abbrev s_answer_state : Stmt := top 88
theorem sc_answer_state : FnScope ["held", "number", "task"] ["held", "number"] (defScope s_answer_state) := ⟨rfl, rfl, rfl, by decide +kernel, rfl, by decide +kernel, by decide +kernel⟩
abbrev s_answer_channel : Stmt := top 89
theorem sc_answer_channel : FnScope ["held", "number", "channel"] ["held", "number"] (defScope s_answer_channel) := ⟨rfl, rfl, rfl, by decide +kernel, rfl, by decide +kernel, by decide +kernel⟩
abbrev s_answer_stuck : Stmt := top 90
theorem sc_answer_stuck : FnScope ["held", "tasks", "told", "task"] ["held"] (defScope s_answer_stuck) := ⟨rfl, rfl, rfl, by decide +kernel, rfl, by decide +kernel, by decide +kernel⟩
abbrev s_Clock_init : Stmt := inClass (top 92) 0
theorem sc_Clock_init : FnScope ["self", "replies"] ["self", "replies"] (defScope s_Clock_init) := ⟨rfl, rfl, rfl, by decide +kernel, rfl, by decide +kernel, by decide +kernel⟩
abbrev s_Clock_ask : Stmt := inClass (top 92) 1
theorem sc_Clock_ask : FnScope ["self", "reply"] ["self"] (defScope s_Clock_ask) := ⟨rfl, rfl, rfl, by decide +kernel, rfl, by decide +kernel, by decide +kernel⟩
abbrev s_Reader_init : Stmt := inClass (top 103) 0
theorem sc_Reader_init : FnScope ["self", "numbers"] ["self", "numbers"] (defScope s_Reader_init) := ⟨rfl, rfl, rfl, by decide +kernel, rfl, by decide +kernel, by decide +kernel⟩
abbrev s_Reader_has_more : Stmt := inClass (top 103) 1
theorem sc_Reader_has_more : FnScope ["self"] ["self"] (defScope s_Reader_has_more) := ⟨rfl, rfl, rfl, by decide +kernel, rfl, by decide +kernel, by decide +kernel⟩
abbrev s_Reader_take_number : Stmt := inClass (top 103) 2
theorem sc_Reader_take_number : FnScope ["self", "number"] ["self"] (defScope s_Reader_take_number) := ⟨rfl, rfl, rfl, by decide +kernel, rfl, by decide +kernel, by decide +kernel⟩
abbrev s_Reader_take_list : Stmt := inClass (top 103) 3
theorem sc_Reader_take_list : FnScope ["self", "length", "first"] ["self"] (defScope s_Reader_take_list) := ⟨rfl, rfl, rfl, by decide +kernel, rfl, by decide +kernel, by decide +kernel⟩
abbrev s_Reader_take_lists : Stmt := inClass (top 103) 4
theorem sc_Reader_take_lists : FnScope ["self", "lists", "k"] ["self"] (defScope s_Reader_take_lists) := ⟨rfl, rfl, rfl, by decide +kernel, rfl, by decide +kernel, by decide +kernel⟩
abbrev s_answer_call : Stmt := top 104
theorem sc_answer_call : FnScope ["held", "call", "numbers", "values", "clock"] ["held", "call", "numbers", "values", "clock"] (defScope s_answer_call) := ⟨rfl, rfl, rfl, by decide +kernel, rfl, by decide +kernel, by decide +kernel⟩
abbrev s_answers : Stmt := top 105
theorem sc_answers : FnScope ["calls", "held", "reader", "answered", "call", "numbers", "lists", "clock", "told"] ["calls"] (defScope s_answers) := ⟨rfl, rfl, rfl, by decide +kernel, rfl, by decide +kernel, by decide +kernel⟩
structure Ad where
  f_is_value : Addr
  d_is_value : FuncData
  f_is_of_kind : Addr
  d_is_of_kind : FuncData
  f_is_whole : Addr
  d_is_whole : FuncData
  f_nothing : Addr
  d_nothing : FuncData
  f_whole : Addr
  d_whole : FuncData
  f_channel_value : Addr
  d_channel_value : FuncData
  f_Task_init : Addr
  d_Task_init : FuncData
  f_Task_wait : Addr
  d_Task_wait : FuncData
  f_Task_has_ended : Addr
  d_Task_has_ended : FuncData
  f_Task_needs_another : Addr
  d_Task_needs_another : FuncData
  f_Channel_init : Addr
  d_Channel_init : FuncData
  f_Held_init : Addr
  d_Held_init : FuncData
  f_Held_begin_anew : Addr
  d_Held_begin_anew : FuncData
  f_Held_is_full : Addr
  d_Held_is_full : FuncData
  f_Held_has_all_channels : Addr
  d_Held_has_all_channels : FuncData
  f_Held_add_task : Addr
  d_Held_add_task : FuncData
  f_Held_make_ready : Addr
  d_Held_make_ready : FuncData
  f_Held_hear : Addr
  d_Held_hear : FuncData
  f_Held_is_busy : Addr
  d_Held_is_busy : FuncData
  f_Held_all_have_ended : Addr
  d_Held_all_have_ended : FuncData
  f_Held_sleepers : Addr
  d_Held_sleepers : FuncData
  f_Held_stuck_tasks : Addr
  d_Held_stuck_tasks : FuncData
  f_Held_channel_of : Addr
  d_Held_channel_of : FuncData
  f_Held_task_of : Addr
  d_Held_task_of : FuncData
  f_order_value : Addr
  d_order_value : FuncData
  f_hand : Addr
  d_hand : FuncData
  f_toss : Addr
  d_toss : FuncData
  f_order_spawn : Addr
  d_order_spawn : FuncData
  f_tell_orders : Addr
  d_tell_orders : FuncData
  f_is_in_ring : Addr
  d_is_in_ring : FuncData
  f_values_wanted : Addr
  d_values_wanted : FuncData
  f_toss_wrong : Addr
  d_toss_wrong : FuncData
  f_stand_at_spawn : Addr
  d_stand_at_spawn : FuncData
  f_stand_at_channel : Addr
  d_stand_at_channel : FuncData
  f_stand_at_send : Addr
  d_stand_at_send : FuncData
  f_stand_at_receive : Addr
  d_stand_at_receive : FuncData
  f_tell_end : Addr
  d_tell_end : FuncData
  f_stand_at_end : Addr
  d_stand_at_end : FuncData
  f_stand_at_sleep : Addr
  d_stand_at_sleep : FuncData
  f_stand : Addr
  d_stand : FuncData
  f_answer_begin : Addr
  d_answer_begin : FuncData
  f_refusal_of_new : Addr
  d_refusal_of_new : FuncData
  f_answer_add : Addr
  d_answer_add : FuncData
  f_wake_sleepers : Addr
  d_wake_sleepers : FuncData
  f_answer_next : Addr
  d_answer_next : FuncData
  f_values_of_ran : Addr
  d_values_of_ran : FuncData
  f_end_task : Addr
  d_end_task : FuncData
  f_answer_ran : Addr
  d_answer_ran : FuncData
  f_answer_spawned : Addr
  d_answer_spawned : FuncData
  f_answer_state : Addr
  d_answer_state : FuncData
  f_answer_channel : Addr
  d_answer_channel : FuncData
  f_answer_stuck : Addr
  d_answer_stuck : FuncData
  f_Clock_init : Addr
  d_Clock_init : FuncData
  f_Clock_ask : Addr
  d_Clock_ask : FuncData
  f_Reader_init : Addr
  d_Reader_init : FuncData
  f_Reader_has_more : Addr
  d_Reader_has_more : FuncData
  f_Reader_take_number : Addr
  d_Reader_take_number : FuncData
  f_Reader_take_list : Addr
  d_Reader_take_list : FuncData
  f_Reader_take_lists : Addr
  d_Reader_take_lists : FuncData
  f_answer_call : Addr
  d_answer_call : FuncData
  f_answers : Addr
  d_answers : FuncData
  C_Task : Addr
  C_Channel : Addr
  C_Held : Addr
  C_Clock : Addr
  C_Reader : Addr
  t_MOST_NUMBERS : Tok
  t_LAST_TIME : Tok
  t_NOTHING : Tok
  t_WHOLE : Tok
  t_TASK : Tok
  t_CHANNEL_forms : Tok
  t_MOST_TASKS : Tok
  t_MOST_CHANNELS : Tok
  t_READY : Tok
  t_GOING : Tok
  t_SPAWNING : Tok
  t_SENDING : Tok
  t_RECEIVING : Tok
  t_AWAITING_END : Tok
  t_AWAITING_TIME : Tok
  t_ENDED : Tok
  t_THROWN : Tok
  t_HAND : Tok
  t_TOSS : Tok
  t_SPAWN : Tok
  t_AT_SPAWN : Tok
  t_AT_PAUSE : Tok
  t_AT_CHANNEL : Tok
  t_AT_SEND : Tok
  t_AT_RECEIVE : Tok
  t_AT_END : Tok
  t_AT_SLEEP : Tok
  t_MOST_ROOM : Tok
  t_WRONG_VALUE : Tok
  t_OWN_END : Tok
  t_NEVER : Tok
  t_MOST_STEPS : Tok
  t_HIGHEST_TASK : Tok
  t_DONE : Tok
  t_NOT_AS_TOLD : Tok
  t_KNOWN : Tok
  t_NO_CHANNEL : Tok
  t_TOO_MANY : Tok
  t_GOES : Tok
  t_IS_BUSY : Tok
  t_TIME_IS_AWAITED : Tok
  t_ALL_ENDED : Tok
  t_NONE_CAN_GO : Tok
  t_TURN_OVER : Tok
  t_BY_ITSELF : Tok
  t_BY_THROW : Tok
  t_STANDS : Tok
  t_NO_THREAD : Tok
  t_BEGIN : Tok
  t_ADD : Tok
  t_NEXT : Tok
  t_RAN : Tok
  t_SPAWNED : Tok
  t_STATE : Tok
  t_CHANNEL_desk : Tok
  t_STUCK : Tok
structure Tx (K : PySem.W.Frag) (mg : Str → Option Value) (a : Ad) : Prop where
  F_is_value : Fun K "is_value" "is_value" s_is_value a.f_is_value a.d_is_value
  m_is_value : mg "is_value" = some (.ref a.f_is_value)
  F_is_of_kind : Fun K "is_of_kind" "is_of_kind" s_is_of_kind a.f_is_of_kind a.d_is_of_kind
  m_is_of_kind : mg "is_of_kind" = some (.ref a.f_is_of_kind)
  F_is_whole : Fun K "is_whole" "is_whole" s_is_whole a.f_is_whole a.d_is_whole
  m_is_whole : mg "is_whole" = some (.ref a.f_is_whole)
  F_nothing : Fun K "nothing" "nothing" s_nothing a.f_nothing a.d_nothing
  m_nothing : mg "nothing" = some (.ref a.f_nothing)
  F_whole : Fun K "whole" "whole" s_whole a.f_whole a.d_whole
  m_whole : mg "whole" = some (.ref a.f_whole)
  F_channel_value : Fun K "channel_value" "channel_value" s_channel_value a.f_channel_value a.d_channel_value
  m_channel_value : mg "channel_value" = some (.ref a.f_channel_value)
  F_Task_init : Fun K "__init__" "Task.__init__" s_Task_init a.f_Task_init a.d_Task_init
  F_Task_wait : Fun K "wait" "Task.wait" s_Task_wait a.f_Task_wait a.d_Task_wait
  M_Task_wait : Meth K a.C_Task "wait" a.f_Task_wait
  F_Task_has_ended : Fun K "has_ended" "Task.has_ended" s_Task_has_ended a.f_Task_has_ended a.d_Task_has_ended
  M_Task_has_ended : Meth K a.C_Task "has_ended" a.f_Task_has_ended
  F_Task_needs_another : Fun K "needs_another" "Task.needs_another" s_Task_needs_another a.f_Task_needs_another a.d_Task_needs_another
  M_Task_needs_another : Meth K a.C_Task "needs_another" a.f_Task_needs_another
  F_Channel_init : Fun K "__init__" "Channel.__init__" s_Channel_init a.f_Channel_init a.d_Channel_init
  F_Held_init : Fun K "__init__" "Held.__init__" s_Held_init a.f_Held_init a.d_Held_init
  F_Held_begin_anew : Fun K "begin_anew" "Held.begin_anew" s_Held_begin_anew a.f_Held_begin_anew a.d_Held_begin_anew
  M_Held_begin_anew : Meth K a.C_Held "begin_anew" a.f_Held_begin_anew
  F_Held_is_full : Fun K "is_full" "Held.is_full" s_Held_is_full a.f_Held_is_full a.d_Held_is_full
  M_Held_is_full : Meth K a.C_Held "is_full" a.f_Held_is_full
  F_Held_has_all_channels : Fun K "has_all_channels" "Held.has_all_channels" s_Held_has_all_channels a.f_Held_has_all_channels a.d_Held_has_all_channels
  M_Held_has_all_channels : Meth K a.C_Held "has_all_channels" a.f_Held_has_all_channels
  F_Held_add_task : Fun K "add_task" "Held.add_task" s_Held_add_task a.f_Held_add_task a.d_Held_add_task
  M_Held_add_task : Meth K a.C_Held "add_task" a.f_Held_add_task
  F_Held_make_ready : Fun K "make_ready" "Held.make_ready" s_Held_make_ready a.f_Held_make_ready a.d_Held_make_ready
  M_Held_make_ready : Meth K a.C_Held "make_ready" a.f_Held_make_ready
  F_Held_hear : Fun K "hear" "Held.hear" s_Held_hear a.f_Held_hear a.d_Held_hear
  M_Held_hear : Meth K a.C_Held "hear" a.f_Held_hear
  F_Held_is_busy : Fun K "is_busy" "Held.is_busy" s_Held_is_busy a.f_Held_is_busy a.d_Held_is_busy
  M_Held_is_busy : Meth K a.C_Held "is_busy" a.f_Held_is_busy
  F_Held_all_have_ended : Fun K "all_have_ended" "Held.all_have_ended" s_Held_all_have_ended a.f_Held_all_have_ended a.d_Held_all_have_ended
  M_Held_all_have_ended : Meth K a.C_Held "all_have_ended" a.f_Held_all_have_ended
  F_Held_sleepers : Fun K "sleepers" "Held.sleepers" s_Held_sleepers a.f_Held_sleepers a.d_Held_sleepers
  M_Held_sleepers : Meth K a.C_Held "sleepers" a.f_Held_sleepers
  F_Held_stuck_tasks : Fun K "stuck_tasks" "Held.stuck_tasks" s_Held_stuck_tasks a.f_Held_stuck_tasks a.d_Held_stuck_tasks
  M_Held_stuck_tasks : Meth K a.C_Held "stuck_tasks" a.f_Held_stuck_tasks
  F_Held_channel_of : Fun K "channel_of" "Held.channel_of" s_Held_channel_of a.f_Held_channel_of a.d_Held_channel_of
  M_Held_channel_of : Meth K a.C_Held "channel_of" a.f_Held_channel_of
  F_Held_task_of : Fun K "task_of" "Held.task_of" s_Held_task_of a.f_Held_task_of a.d_Held_task_of
  M_Held_task_of : Meth K a.C_Held "task_of" a.f_Held_task_of
  F_order_value : Fun K "order_value" "order_value" s_order_value a.f_order_value a.d_order_value
  m_order_value : mg "order_value" = some (.ref a.f_order_value)
  F_hand : Fun K "hand" "hand" s_hand a.f_hand a.d_hand
  m_hand : mg "hand" = some (.ref a.f_hand)
  F_toss : Fun K "toss" "toss" s_toss a.f_toss a.d_toss
  m_toss : mg "toss" = some (.ref a.f_toss)
  F_order_spawn : Fun K "order_spawn" "order_spawn" s_order_spawn a.f_order_spawn a.d_order_spawn
  m_order_spawn : mg "order_spawn" = some (.ref a.f_order_spawn)
  F_tell_orders : Fun K "tell_orders" "tell_orders" s_tell_orders a.f_tell_orders a.d_tell_orders
  m_tell_orders : mg "tell_orders" = some (.ref a.f_tell_orders)
  F_is_in_ring : Fun K "is_in_ring" "is_in_ring" s_is_in_ring a.f_is_in_ring a.d_is_in_ring
  m_is_in_ring : mg "is_in_ring" = some (.ref a.f_is_in_ring)
  F_values_wanted : Fun K "values_wanted" "values_wanted" s_values_wanted a.f_values_wanted a.d_values_wanted
  m_values_wanted : mg "values_wanted" = some (.ref a.f_values_wanted)
  F_toss_wrong : Fun K "toss_wrong" "toss_wrong" s_toss_wrong a.f_toss_wrong a.d_toss_wrong
  m_toss_wrong : mg "toss_wrong" = some (.ref a.f_toss_wrong)
  F_stand_at_spawn : Fun K "stand_at_spawn" "stand_at_spawn" s_stand_at_spawn a.f_stand_at_spawn a.d_stand_at_spawn
  m_stand_at_spawn : mg "stand_at_spawn" = some (.ref a.f_stand_at_spawn)
  F_stand_at_channel : Fun K "stand_at_channel" "stand_at_channel" s_stand_at_channel a.f_stand_at_channel a.d_stand_at_channel
  m_stand_at_channel : mg "stand_at_channel" = some (.ref a.f_stand_at_channel)
  F_stand_at_send : Fun K "stand_at_send" "stand_at_send" s_stand_at_send a.f_stand_at_send a.d_stand_at_send
  m_stand_at_send : mg "stand_at_send" = some (.ref a.f_stand_at_send)
  F_stand_at_receive : Fun K "stand_at_receive" "stand_at_receive" s_stand_at_receive a.f_stand_at_receive a.d_stand_at_receive
  m_stand_at_receive : mg "stand_at_receive" = some (.ref a.f_stand_at_receive)
  F_tell_end : Fun K "tell_end" "tell_end" s_tell_end a.f_tell_end a.d_tell_end
  m_tell_end : mg "tell_end" = some (.ref a.f_tell_end)
  F_stand_at_end : Fun K "stand_at_end" "stand_at_end" s_stand_at_end a.f_stand_at_end a.d_stand_at_end
  m_stand_at_end : mg "stand_at_end" = some (.ref a.f_stand_at_end)
  F_stand_at_sleep : Fun K "stand_at_sleep" "stand_at_sleep" s_stand_at_sleep a.f_stand_at_sleep a.d_stand_at_sleep
  m_stand_at_sleep : mg "stand_at_sleep" = some (.ref a.f_stand_at_sleep)
  F_stand : Fun K "stand" "stand" s_stand a.f_stand a.d_stand
  m_stand : mg "stand" = some (.ref a.f_stand)
  F_answer_begin : Fun K "answer_begin" "answer_begin" s_answer_begin a.f_answer_begin a.d_answer_begin
  m_answer_begin : mg "answer_begin" = some (.ref a.f_answer_begin)
  F_refusal_of_new : Fun K "refusal_of_new" "refusal_of_new" s_refusal_of_new a.f_refusal_of_new a.d_refusal_of_new
  m_refusal_of_new : mg "refusal_of_new" = some (.ref a.f_refusal_of_new)
  F_answer_add : Fun K "answer_add" "answer_add" s_answer_add a.f_answer_add a.d_answer_add
  m_answer_add : mg "answer_add" = some (.ref a.f_answer_add)
  F_wake_sleepers : Fun K "wake_sleepers" "wake_sleepers" s_wake_sleepers a.f_wake_sleepers a.d_wake_sleepers
  m_wake_sleepers : mg "wake_sleepers" = some (.ref a.f_wake_sleepers)
  F_answer_next : Fun K "answer_next" "answer_next" s_answer_next a.f_answer_next a.d_answer_next
  m_answer_next : mg "answer_next" = some (.ref a.f_answer_next)
  F_values_of_ran : Fun K "values_of_ran" "values_of_ran" s_values_of_ran a.f_values_of_ran a.d_values_of_ran
  m_values_of_ran : mg "values_of_ran" = some (.ref a.f_values_of_ran)
  F_end_task : Fun K "end_task" "end_task" s_end_task a.f_end_task a.d_end_task
  m_end_task : mg "end_task" = some (.ref a.f_end_task)
  F_answer_ran : Fun K "answer_ran" "answer_ran" s_answer_ran a.f_answer_ran a.d_answer_ran
  m_answer_ran : mg "answer_ran" = some (.ref a.f_answer_ran)
  F_answer_spawned : Fun K "answer_spawned" "answer_spawned" s_answer_spawned a.f_answer_spawned a.d_answer_spawned
  m_answer_spawned : mg "answer_spawned" = some (.ref a.f_answer_spawned)
  F_answer_state : Fun K "answer_state" "answer_state" s_answer_state a.f_answer_state a.d_answer_state
  m_answer_state : mg "answer_state" = some (.ref a.f_answer_state)
  F_answer_channel : Fun K "answer_channel" "answer_channel" s_answer_channel a.f_answer_channel a.d_answer_channel
  m_answer_channel : mg "answer_channel" = some (.ref a.f_answer_channel)
  F_answer_stuck : Fun K "answer_stuck" "answer_stuck" s_answer_stuck a.f_answer_stuck a.d_answer_stuck
  m_answer_stuck : mg "answer_stuck" = some (.ref a.f_answer_stuck)
  F_Clock_init : Fun K "__init__" "Clock.__init__" s_Clock_init a.f_Clock_init a.d_Clock_init
  F_Clock_ask : Fun K "ask" "Clock.ask" s_Clock_ask a.f_Clock_ask a.d_Clock_ask
  M_Clock_ask : Meth K a.C_Clock "ask" a.f_Clock_ask
  F_Reader_init : Fun K "__init__" "Reader.__init__" s_Reader_init a.f_Reader_init a.d_Reader_init
  F_Reader_has_more : Fun K "has_more" "Reader.has_more" s_Reader_has_more a.f_Reader_has_more a.d_Reader_has_more
  M_Reader_has_more : Meth K a.C_Reader "has_more" a.f_Reader_has_more
  F_Reader_take_number : Fun K "take_number" "Reader.take_number" s_Reader_take_number a.f_Reader_take_number a.d_Reader_take_number
  M_Reader_take_number : Meth K a.C_Reader "take_number" a.f_Reader_take_number
  F_Reader_take_list : Fun K "take_list" "Reader.take_list" s_Reader_take_list a.f_Reader_take_list a.d_Reader_take_list
  M_Reader_take_list : Meth K a.C_Reader "take_list" a.f_Reader_take_list
  F_Reader_take_lists : Fun K "take_lists" "Reader.take_lists" s_Reader_take_lists a.f_Reader_take_lists a.d_Reader_take_lists
  M_Reader_take_lists : Meth K a.C_Reader "take_lists" a.f_Reader_take_lists
  F_answer_call : Fun K "answer_call" "answer_call" s_answer_call a.f_answer_call a.d_answer_call
  m_answer_call : mg "answer_call" = some (.ref a.f_answer_call)
  F_answers : Fun K "answers" "answers" s_answers a.f_answers a.d_answers
  m_answers : mg "answers" = some (.ref a.f_answers)
  m_Task : mg "Task" = some (.ref a.C_Task)
  l_Task : Cls K a.C_Task
  k_Task : Mk K a.C_Task a.f_Task_init
  a_Task_number : NoAttr K a.C_Task "number"
  a_Task_state : NoAttr K a.C_Task "state"
  a_Task_target : NoAttr K a.C_Task "target"
  a_Task_value : NoAttr K a.C_Task "value"
  a_Task_waiters : NoAttr K a.C_Task "waiters"
  m_Channel : mg "Channel" = some (.ref a.C_Channel)
  l_Channel : Cls K a.C_Channel
  k_Channel : Mk K a.C_Channel a.f_Channel_init
  a_Channel_room : NoAttr K a.C_Channel "room"
  a_Channel_kept : NoAttr K a.C_Channel "kept"
  a_Channel_senders : NoAttr K a.C_Channel "senders"
  a_Channel_receivers : NoAttr K a.C_Channel "receivers"
  m_Held : mg "Held" = some (.ref a.C_Held)
  l_Held : Cls K a.C_Held
  k_Held : Mk K a.C_Held a.f_Held_init
  a_Held_steps : NoAttr K a.C_Held "steps"
  a_Held_tasks : NoAttr K a.C_Held "tasks"
  a_Held_channels : NoAttr K a.C_Held "channels"
  a_Held_row : NoAttr K a.C_Held "row"
  a_Held_now : NoAttr K a.C_Held "now"
  m_Clock : mg "Clock" = some (.ref a.C_Clock)
  l_Clock : Cls K a.C_Clock
  k_Clock : Mk K a.C_Clock a.f_Clock_init
  a_Clock_replies : NoAttr K a.C_Clock "replies"
  a_Clock_asked : NoAttr K a.C_Clock "asked"
  m_Reader : mg "Reader" = some (.ref a.C_Reader)
  l_Reader : Cls K a.C_Reader
  k_Reader : Mk K a.C_Reader a.f_Reader_init
  a_Reader_numbers : NoAttr K a.C_Reader "numbers"
  a_Reader_place : NoAttr K a.C_Reader "place"
  c_MOST_NUMBERS : mg "MOST_NUMBERS" = some (.int (64) a.t_MOST_NUMBERS)
  c_LAST_TIME : mg "LAST_TIME" = some (.int (4611686018427387904) a.t_LAST_TIME)
  c_NOTHING : mg "NOTHING" = some (.int (0) a.t_NOTHING)
  c_WHOLE : mg "WHOLE" = some (.int (2) a.t_WHOLE)
  c_TASK : mg "TASK" = some (.int (8) a.t_TASK)
  c_CHANNEL_forms : mg "CHANNEL_forms" = some (.int (9) a.t_CHANNEL_forms)
  c_MOST_TASKS : mg "MOST_TASKS" = some (.int (1000) a.t_MOST_TASKS)
  c_MOST_CHANNELS : mg "MOST_CHANNELS" = some (.int (1000) a.t_MOST_CHANNELS)
  c_READY : mg "READY" = some (.int (0) a.t_READY)
  c_GOING : mg "GOING" = some (.int (1) a.t_GOING)
  c_SPAWNING : mg "SPAWNING" = some (.int (2) a.t_SPAWNING)
  c_SENDING : mg "SENDING" = some (.int (3) a.t_SENDING)
  c_RECEIVING : mg "RECEIVING" = some (.int (4) a.t_RECEIVING)
  c_AWAITING_END : mg "AWAITING_END" = some (.int (5) a.t_AWAITING_END)
  c_AWAITING_TIME : mg "AWAITING_TIME" = some (.int (6) a.t_AWAITING_TIME)
  c_ENDED : mg "ENDED" = some (.int (7) a.t_ENDED)
  c_THROWN : mg "THROWN" = some (.int (8) a.t_THROWN)
  c_HAND : mg "HAND" = some (.int (0) a.t_HAND)
  c_TOSS : mg "TOSS" = some (.int (1) a.t_TOSS)
  c_SPAWN : mg "SPAWN" = some (.int (2) a.t_SPAWN)
  c_AT_SPAWN : mg "AT_SPAWN" = some (.int (41) a.t_AT_SPAWN)
  c_AT_PAUSE : mg "AT_PAUSE" = some (.int (42) a.t_AT_PAUSE)
  c_AT_CHANNEL : mg "AT_CHANNEL" = some (.int (43) a.t_AT_CHANNEL)
  c_AT_SEND : mg "AT_SEND" = some (.int (44) a.t_AT_SEND)
  c_AT_RECEIVE : mg "AT_RECEIVE" = some (.int (45) a.t_AT_RECEIVE)
  c_AT_END : mg "AT_END" = some (.int (46) a.t_AT_END)
  c_AT_SLEEP : mg "AT_SLEEP" = some (.int (47) a.t_AT_SLEEP)
  c_MOST_ROOM : mg "MOST_ROOM" = some (.int (65536) a.t_MOST_ROOM)
  c_WRONG_VALUE : mg "WRONG_VALUE" = some (.int (-1) a.t_WRONG_VALUE)
  c_OWN_END : mg "OWN_END" = some (.int (-2) a.t_OWN_END)
  c_NEVER : mg "NEVER" = some (.int (-1) a.t_NEVER)
  c_MOST_STEPS : mg "MOST_STEPS" = some (.int (100000) a.t_MOST_STEPS)
  c_HIGHEST_TASK : mg "HIGHEST_TASK" = some (.int (4294967295) a.t_HIGHEST_TASK)
  c_DONE : mg "DONE" = some (.int (0) a.t_DONE)
  c_NOT_AS_TOLD : mg "NOT_AS_TOLD" = some (.int (-8) a.t_NOT_AS_TOLD)
  c_KNOWN : mg "KNOWN" = some (.int (-3) a.t_KNOWN)
  c_NO_CHANNEL : mg "NO_CHANNEL" = some (.int (-4) a.t_NO_CHANNEL)
  c_TOO_MANY : mg "TOO_MANY" = some (.int (-5) a.t_TOO_MANY)
  c_GOES : mg "GOES" = some (.int (0) a.t_GOES)
  c_IS_BUSY : mg "IS_BUSY" = some (.int (1) a.t_IS_BUSY)
  c_TIME_IS_AWAITED : mg "TIME_IS_AWAITED" = some (.int (2) a.t_TIME_IS_AWAITED)
  c_ALL_ENDED : mg "ALL_ENDED" = some (.int (3) a.t_ALL_ENDED)
  c_NONE_CAN_GO : mg "NONE_CAN_GO" = some (.int (4) a.t_NONE_CAN_GO)
  c_TURN_OVER : mg "TURN_OVER" = some (.int (0) a.t_TURN_OVER)
  c_BY_ITSELF : mg "BY_ITSELF" = some (.int (1) a.t_BY_ITSELF)
  c_BY_THROW : mg "BY_THROW" = some (.int (2) a.t_BY_THROW)
  c_STANDS : mg "STANDS" = some (.int (3) a.t_STANDS)
  c_NO_THREAD : mg "NO_THREAD" = some (.int (-1) a.t_NO_THREAD)
  c_BEGIN : mg "BEGIN" = some (.int (0) a.t_BEGIN)
  c_ADD : mg "ADD" = some (.int (1) a.t_ADD)
  c_NEXT : mg "NEXT" = some (.int (2) a.t_NEXT)
  c_RAN : mg "RAN" = some (.int (3) a.t_RAN)
  c_SPAWNED : mg "SPAWNED" = some (.int (4) a.t_SPAWNED)
  c_STATE : mg "STATE" = some (.int (5) a.t_STATE)
  c_CHANNEL_desk : mg "CHANNEL_desk" = some (.int (6) a.t_CHANNEL_desk)
  c_STUCK : mg "STUCK" = some (.int (7) a.t_STUCK)
  n_all : mg "all" = none
  n_any : mg "any" = none
  n_len : mg "len" = none
  n_max : mg "max" = none
  n_min : mg "min" = none
  n_range : mg "range" = none
  n_sorted : mg "sorted" = none
section
variable {K : PySem.W.Frag} {mg : Str → Option Value} {a : Ad}
theorem Fun_b0 {x qual : Str} {st : Stmt} {f : Addr} {fd : FuncData} (F : Fun K x qual st f fd) (h : ∀ (kV doc pm : Value) (an : Option Addr) (cdv ct : Value), bindArgs (PySem.W.fnOf x qual (defArgs st) (defBody st) (defScope st) .none kV doc pm an cdv ct) ⟨[], []⟩ = pure (([] : List Str).zip [])) : Binds K fd [] [] :=
  F.binds fun _ _ _ _ _ _ us hl => match us, hl with | [], _ => h _ _ _ _ _ _
theorem Fun_b1 {x qual : Str} {st : Stmt} {f : Addr} {fd : FuncData} {p0 : Str} (F : Fun K x qual st f fd) (h : ∀ (kV doc pm : Value) (an : Option Addr) (cdv ct : Value) (u0 : Value), bindArgs (PySem.W.fnOf x qual (defArgs st) (defBody st) (defScope st) .none kV doc pm an cdv ct) ⟨[u0], []⟩ = pure (([p0] : List Str).zip [u0])) : Binds K fd [p0] [] :=
  F.binds fun _ _ _ _ _ _ us hl => match us, hl with | [u0], _ => h _ _ _ _ _ _ _
theorem Fun_b2 {x qual : Str} {st : Stmt} {f : Addr} {fd : FuncData} {p0 p1 : Str} (F : Fun K x qual st f fd) (h : ∀ (kV doc pm : Value) (an : Option Addr) (cdv ct : Value) (u0 u1 : Value), bindArgs (PySem.W.fnOf x qual (defArgs st) (defBody st) (defScope st) .none kV doc pm an cdv ct) ⟨[u0, u1], []⟩ = pure (([p0, p1] : List Str).zip [u0, u1])) : Binds K fd [p0, p1] [] :=
  F.binds fun _ _ _ _ _ _ us hl => match us, hl with | [u0, u1], _ => h _ _ _ _ _ _ _ _
theorem Fun_b3 {x qual : Str} {st : Stmt} {f : Addr} {fd : FuncData} {p0 p1 p2 : Str} (F : Fun K x qual st f fd) (h : ∀ (kV doc pm : Value) (an : Option Addr) (cdv ct : Value) (u0 u1 u2 : Value), bindArgs (PySem.W.fnOf x qual (defArgs st) (defBody st) (defScope st) .none kV doc pm an cdv ct) ⟨[u0, u1, u2], []⟩ = pure (([p0, p1, p2] : List Str).zip [u0, u1, u2])) : Binds K fd [p0, p1, p2] [] :=
  F.binds fun _ _ _ _ _ _ us hl => match us, hl with | [u0, u1, u2], _ => h _ _ _ _ _ _ _ _ _
theorem Fun_b4 {x qual : Str} {st : Stmt} {f : Addr} {fd : FuncData} {p0 p1 p2 p3 : Str} (F : Fun K x qual st f fd) (h : ∀ (kV doc pm : Value) (an : Option Addr) (cdv ct : Value) (u0 u1 u2 u3 : Value), bindArgs (PySem.W.fnOf x qual (defArgs st) (defBody st) (defScope st) .none kV doc pm an cdv ct) ⟨[u0, u1, u2, u3], []⟩ = pure (([p0, p1, p2, p3] : List Str).zip [u0, u1, u2, u3])) : Binds K fd [p0, p1, p2, p3] [] :=
  F.binds fun _ _ _ _ _ _ us hl => match us, hl with | [u0, u1, u2, u3], _ => h _ _ _ _ _ _ _ _ _ _
theorem Fun_b5 {x qual : Str} {st : Stmt} {f : Addr} {fd : FuncData} {p0 p1 p2 p3 p4 : Str} (F : Fun K x qual st f fd) (h : ∀ (kV doc pm : Value) (an : Option Addr) (cdv ct : Value) (u0 u1 u2 u3 u4 : Value), bindArgs (PySem.W.fnOf x qual (defArgs st) (defBody st) (defScope st) .none kV doc pm an cdv ct) ⟨[u0, u1, u2, u3, u4], []⟩ = pure (([p0, p1, p2, p3, p4] : List Str).zip [u0, u1, u2, u3, u4])) : Binds K fd [p0, p1, p2, p3, p4] [] :=
  F.binds fun _ _ _ _ _ _ us hl => match us, hl with | [u0, u1, u2, u3, u4], _ => h _ _ _ _ _ _ _ _ _ _ _
theorem Fun_b6 {x qual : Str} {st : Stmt} {f : Addr} {fd : FuncData} {p0 p1 p2 p3 p4 p5 : Str} (F : Fun K x qual st f fd) (h : ∀ (kV doc pm : Value) (an : Option Addr) (cdv ct : Value) (u0 u1 u2 u3 u4 u5 : Value), bindArgs (PySem.W.fnOf x qual (defArgs st) (defBody st) (defScope st) .none kV doc pm an cdv ct) ⟨[u0, u1, u2, u3, u4, u5], []⟩ = pure (([p0, p1, p2, p3, p4, p5] : List Str).zip [u0, u1, u2, u3, u4, u5])) : Binds K fd [p0, p1, p2, p3, p4, p5] [] :=
  F.binds fun _ _ _ _ _ _ us hl => match us, hl with | [u0, u1, u2, u3, u4, u5], _ => h _ _ _ _ _ _ _ _ _ _ _ _
theorem b_is_value (T : Tx K mg a) : Binds K a.d_is_value ["numbers"] [] := Fun_b1 T.F_is_value fun _ _ _ _ _ _ _ => rfl
theorem b_is_of_kind (T : Tx K mg a) : Binds K a.d_is_of_kind ["value", "kind"] [] := Fun_b2 T.F_is_of_kind fun _ _ _ _ _ _ _ _ => rfl
theorem b_is_whole (T : Tx K mg a) : Binds K a.d_is_whole ["value"] [] := Fun_b1 T.F_is_whole fun _ _ _ _ _ _ _ => rfl
theorem b_nothing (T : Tx K mg a) : Binds K a.d_nothing [] [] := Fun_b0 T.F_nothing fun _ _ _ _ _ _ => rfl
theorem b_whole (T : Tx K mg a) : Binds K a.d_whole ["number"] [] := Fun_b1 T.F_whole fun _ _ _ _ _ _ _ => rfl
theorem b_channel_value (T : Tx K mg a) : Binds K a.d_channel_value ["number"] [] := Fun_b1 T.F_channel_value fun _ _ _ _ _ _ _ => rfl
theorem b_Task_init (T : Tx K mg a) : Binds K a.d_Task_init ["self", "number"] [] := Fun_b2 T.F_Task_init fun _ _ _ _ _ _ _ _ => rfl
theorem b_Task_wait (T : Tx K mg a) : Binds K a.d_Task_wait ["self", "state", "target"] [] := Fun_b3 T.F_Task_wait fun _ _ _ _ _ _ _ _ _ => rfl
theorem b_Task_has_ended (T : Tx K mg a) : Binds K a.d_Task_has_ended ["self"] [] := Fun_b1 T.F_Task_has_ended fun _ _ _ _ _ _ _ => rfl
theorem b_Task_needs_another (T : Tx K mg a) : Binds K a.d_Task_needs_another ["self"] [] := Fun_b1 T.F_Task_needs_another fun _ _ _ _ _ _ _ => rfl
theorem b_Channel_init (T : Tx K mg a) : Binds K a.d_Channel_init ["self", "room"] [] := Fun_b2 T.F_Channel_init fun _ _ _ _ _ _ _ _ => rfl
theorem b_Held_init (T : Tx K mg a) : Binds K a.d_Held_init ["self"] [] := Fun_b1 T.F_Held_init fun _ _ _ _ _ _ _ => rfl
theorem b_Held_begin_anew (T : Tx K mg a) : Binds K a.d_Held_begin_anew ["self", "steps"] [] := Fun_b2 T.F_Held_begin_anew fun _ _ _ _ _ _ _ _ => rfl
theorem b_Held_is_full (T : Tx K mg a) : Binds K a.d_Held_is_full ["self"] [] := Fun_b1 T.F_Held_is_full fun _ _ _ _ _ _ _ => rfl
theorem b_Held_has_all_channels (T : Tx K mg a) : Binds K a.d_Held_has_all_channels ["self"] [] := Fun_b1 T.F_Held_has_all_channels fun _ _ _ _ _ _ _ => rfl
theorem b_Held_add_task (T : Tx K mg a) : Binds K a.d_Held_add_task ["self", "number"] [] := Fun_b2 T.F_Held_add_task fun _ _ _ _ _ _ _ _ => rfl
theorem b_Held_make_ready (T : Tx K mg a) : Binds K a.d_Held_make_ready ["self", "task"] [] := Fun_b2 T.F_Held_make_ready fun _ _ _ _ _ _ _ _ => rfl
theorem b_Held_hear (T : Tx K mg a) : Binds K a.d_Held_hear ["self", "reply"] [] := Fun_b2 T.F_Held_hear fun _ _ _ _ _ _ _ _ => rfl
theorem b_Held_is_busy (T : Tx K mg a) : Binds K a.d_Held_is_busy ["self"] [] := Fun_b1 T.F_Held_is_busy fun _ _ _ _ _ _ _ => rfl
theorem b_Held_all_have_ended (T : Tx K mg a) : Binds K a.d_Held_all_have_ended ["self"] [] := Fun_b1 T.F_Held_all_have_ended fun _ _ _ _ _ _ _ => rfl
theorem b_Held_sleepers (T : Tx K mg a) : Binds K a.d_Held_sleepers ["self"] [] := Fun_b1 T.F_Held_sleepers fun _ _ _ _ _ _ _ => rfl
theorem b_Held_stuck_tasks (T : Tx K mg a) : Binds K a.d_Held_stuck_tasks ["self"] [] := Fun_b1 T.F_Held_stuck_tasks fun _ _ _ _ _ _ _ => rfl
theorem b_Held_channel_of (T : Tx K mg a) : Binds K a.d_Held_channel_of ["self", "value"] [] := Fun_b2 T.F_Held_channel_of fun _ _ _ _ _ _ _ _ => rfl
theorem b_Held_task_of (T : Tx K mg a) : Binds K a.d_Held_task_of ["self", "value"] [] := Fun_b2 T.F_Held_task_of fun _ _ _ _ _ _ _ _ => rfl
theorem b_order_value (T : Tx K mg a) : Binds K a.d_order_value ["kind", "task", "value"] [] := Fun_b3 T.F_order_value fun _ _ _ _ _ _ _ _ _ => rfl
theorem b_hand (T : Tx K mg a) : Binds K a.d_hand ["held", "orders", "task", "value"] [] := Fun_b4 T.F_hand fun _ _ _ _ _ _ _ _ _ _ => rfl
theorem b_toss (T : Tx K mg a) : Binds K a.d_toss ["held", "orders", "task", "value"] [] := Fun_b4 T.F_toss fun _ _ _ _ _ _ _ _ _ _ => rfl
theorem b_order_spawn (T : Tx K mg a) : Binds K a.d_order_spawn ["orders", "task"] [] := Fun_b2 T.F_order_spawn fun _ _ _ _ _ _ _ _ => rfl
theorem b_tell_orders (T : Tx K mg a) : Binds K a.d_tell_orders ["orders"] [] := Fun_b1 T.F_tell_orders fun _ _ _ _ _ _ _ => rfl
theorem b_is_in_ring (T : Tx K mg a) : Binds K a.d_is_in_ring ["held", "task"] [] := Fun_b2 T.F_is_in_ring fun _ _ _ _ _ _ _ _ => rfl
theorem b_values_wanted (T : Tx K mg a) : Binds K a.d_values_wanted ["at"] [] := Fun_b1 T.F_values_wanted fun _ _ _ _ _ _ _ => rfl
theorem b_toss_wrong (T : Tx K mg a) : Binds K a.d_toss_wrong ["held", "orders", "task"] [] := Fun_b3 T.F_toss_wrong fun _ _ _ _ _ _ _ _ _ => rfl
theorem b_stand_at_spawn (T : Tx K mg a) : Binds K a.d_stand_at_spawn ["orders", "task"] [] := Fun_b2 T.F_stand_at_spawn fun _ _ _ _ _ _ _ _ => rfl
theorem b_stand_at_channel (T : Tx K mg a) : Binds K a.d_stand_at_channel ["held", "orders", "task", "value"] [] := Fun_b4 T.F_stand_at_channel fun _ _ _ _ _ _ _ _ _ _ => rfl
theorem b_stand_at_send (T : Tx K mg a) : Binds K a.d_stand_at_send ["held", "orders", "task", "target", "value"] [] := Fun_b5 T.F_stand_at_send fun _ _ _ _ _ _ _ _ _ _ _ => rfl
theorem b_stand_at_receive (T : Tx K mg a) : Binds K a.d_stand_at_receive ["held", "orders", "task", "target"] [] := Fun_b4 T.F_stand_at_receive fun _ _ _ _ _ _ _ _ _ _ => rfl
theorem b_tell_end (T : Tx K mg a) : Binds K a.d_tell_end ["held", "orders", "ended", "waiter"] [] := Fun_b4 T.F_tell_end fun _ _ _ _ _ _ _ _ _ _ => rfl
theorem b_stand_at_end (T : Tx K mg a) : Binds K a.d_stand_at_end ["held", "orders", "task", "target"] [] := Fun_b4 T.F_stand_at_end fun _ _ _ _ _ _ _ _ _ _ => rfl
theorem b_stand_at_sleep (T : Tx K mg a) : Binds K a.d_stand_at_sleep ["held", "orders", "task", "value", "clock"] [] := Fun_b5 T.F_stand_at_sleep fun _ _ _ _ _ _ _ _ _ _ _ => rfl
theorem b_stand (T : Tx K mg a) : Binds K a.d_stand ["held", "orders", "task", "at", "values", "clock"] [] := Fun_b6 T.F_stand fun _ _ _ _ _ _ _ _ _ _ _ _ => rfl
theorem b_answer_begin (T : Tx K mg a) : Binds K a.d_answer_begin ["held", "steps"] [] := Fun_b2 T.F_answer_begin fun _ _ _ _ _ _ _ _ => rfl
theorem b_refusal_of_new (T : Tx K mg a) : Binds K a.d_refusal_of_new ["held", "number"] [] := Fun_b2 T.F_refusal_of_new fun _ _ _ _ _ _ _ _ => rfl
theorem b_answer_add (T : Tx K mg a) : Binds K a.d_answer_add ["held", "number"] [] := Fun_b2 T.F_answer_add fun _ _ _ _ _ _ _ _ => rfl
theorem b_wake_sleepers (T : Tx K mg a) : Binds K a.d_wake_sleepers ["held", "orders", "clock"] [] := Fun_b3 T.F_wake_sleepers fun _ _ _ _ _ _ _ _ _ => rfl
theorem b_answer_next (T : Tx K mg a) : Binds K a.d_answer_next ["held", "clock"] [] := Fun_b2 T.F_answer_next fun _ _ _ _ _ _ _ _ => rfl
theorem b_values_of_ran (T : Tx K mg a) : Binds K a.d_values_of_ran ["why", "at"] [] := Fun_b2 T.F_values_of_ran fun _ _ _ _ _ _ _ _ => rfl
theorem b_end_task (T : Tx K mg a) : Binds K a.d_end_task ["held", "orders", "task", "state", "value"] [] := Fun_b5 T.F_end_task fun _ _ _ _ _ _ _ _ _ _ _ => rfl
theorem b_answer_ran (T : Tx K mg a) : Binds K a.d_answer_ran ["held", "number", "why", "at", "values", "clock"] [] := Fun_b6 T.F_answer_ran fun _ _ _ _ _ _ _ _ _ _ _ _ => rfl
theorem b_answer_spawned (T : Tx K mg a) : Binds K a.d_answer_spawned ["held", "number", "new"] [] := Fun_b3 T.F_answer_spawned fun _ _ _ _ _ _ _ _ _ => rfl
theorem b_answer_state (T : Tx K mg a) : Binds K a.d_answer_state ["held", "number"] [] := Fun_b2 T.F_answer_state fun _ _ _ _ _ _ _ _ => rfl
theorem b_answer_channel (T : Tx K mg a) : Binds K a.d_answer_channel ["held", "number"] [] := Fun_b2 T.F_answer_channel fun _ _ _ _ _ _ _ _ => rfl
theorem b_answer_stuck (T : Tx K mg a) : Binds K a.d_answer_stuck ["held"] [] := Fun_b1 T.F_answer_stuck fun _ _ _ _ _ _ _ => rfl
theorem b_Clock_init (T : Tx K mg a) : Binds K a.d_Clock_init ["self", "replies"] [] := Fun_b2 T.F_Clock_init fun _ _ _ _ _ _ _ _ => rfl
theorem b_Clock_ask (T : Tx K mg a) : Binds K a.d_Clock_ask ["self"] [] := Fun_b1 T.F_Clock_ask fun _ _ _ _ _ _ _ => rfl
theorem b_Reader_init (T : Tx K mg a) : Binds K a.d_Reader_init ["self", "numbers"] [] := Fun_b2 T.F_Reader_init fun _ _ _ _ _ _ _ _ => rfl
theorem b_Reader_has_more (T : Tx K mg a) : Binds K a.d_Reader_has_more ["self"] [] := Fun_b1 T.F_Reader_has_more fun _ _ _ _ _ _ _ => rfl
theorem b_Reader_take_number (T : Tx K mg a) : Binds K a.d_Reader_take_number ["self"] [] := Fun_b1 T.F_Reader_take_number fun _ _ _ _ _ _ _ => rfl
theorem b_Reader_take_list (T : Tx K mg a) : Binds K a.d_Reader_take_list ["self"] [] := Fun_b1 T.F_Reader_take_list fun _ _ _ _ _ _ _ => rfl
theorem b_Reader_take_lists (T : Tx K mg a) : Binds K a.d_Reader_take_lists ["self"] [] := Fun_b1 T.F_Reader_take_lists fun _ _ _ _ _ _ _ => rfl
theorem b_answer_call (T : Tx K mg a) : Binds K a.d_answer_call ["held", "call", "numbers", "values", "clock"] [] := Fun_b5 T.F_answer_call fun _ _ _ _ _ _ _ _ _ _ _ => rfl
theorem b_answers (T : Tx K mg a) : Binds K a.d_answers ["calls"] [] := Fun_b1 T.F_answers fun _ _ _ _ _ _ _ => rfl
end
end TT
end
section
set_option Elab.async false
set_option linter.all false
set_option maxRecDepth 100000
set_option maxHeartbeats 2000000
set_option genInjectivity false
set_option genSizeOf false
open PySem PySem.Spec PyProof.Rows L2
namespace TT
inductive Role where
  | held | row | tasks | chs | clock | orders | ans
  | task (n : Nat) | wait (n : Nat)
  | chan (i : Nat) | kept (i : Nat) | snd (i : Nat) | rcv (i : Nat)
  deriving DecidableEq
structure Ch where
  room : Int
  kept : List (List Int)
  snd : List Nat
  rcv : List Nat
structure MS where
  steps : Int
  now : Int
  ks : List Nat
  st : Nat → Int
  tg : Nat → Int
  val : Nat → List Int
  wt : Nat → List Nat
  row : List Nat
  ch : List Ch
  clk : Option (List Int × Nat)
  ords : Option (List (List Int))
  ans : Option (List Int)
abbrev Wd := Addr → Option (List Int)
abbrev Nm := Role → Addr
def heldF (steps : Int) (t c r : Addr) (now : Int) : List (Str × V) := [("steps", .int steps), ("tasks", .ref t), ("channels", .ref c), ("row", .ref r), ("now", .int now)]
def taskF (n : Nat) (st tg : Int) (p w : Addr) : List (Str × V) := [("number", .int n), ("state", .int st), ("target", .int tg), ("value", .ref p), ("waiters", .ref w)]
def chanF (room : Int) (k s r : Addr) : List (Str × V) := [("room", .int room), ("kept", .ref k), ("senders", .ref s), ("receivers", .ref r)]
def clockF (p : Addr) (k : Nat) : List (Str × V) := [("replies", .ref p), ("asked", .int k)]
def rs (A : Nm) (l : List Nat) : List V := l.map fun (n : Nat) => V.ref (A (.task n))
def tkv (A : Nm) (l : List Nat) : List (Key × V) := l.map fun (n : Nat) => (Sum.inl (n : Int), V.ref (A (.task n)))
abbrev Toks (W : Wd) : List Addr → List (List Int) → Prop := Paired fun p l => W p = some l
def Cont (a : Ad) (A : Nm) (W : Wd) (M : MS) : Role → HO → Prop
  | .held, o => ∃ dx, o = .ins a.C_Held dx (heldF M.steps (A .tasks) (A .chs) (A .row) M.now)
  | .row, o => o = .lst (rs A M.row)
  | .tasks, o => o = .dK (tkv A M.ks)
  | .chs, o => o = .lst ((List.range M.ch.length).map fun i => V.ref (A (.chan i)))
  | .clock, o => ∃ rl k, M.clk = some (rl, k) ∧ ∃ dx p, o = .ins a.C_Clock dx (clockF p k) ∧ W p = some rl
  | .orders, o => ∃ os, M.ords = some os ∧ ∃ ps, o = .lst (ps.map V.ref) ∧ Toks W ps os
  | .ans, o => ∃ l, M.ans = some l ∧ o = .lst (l.map V.int)
  | .task n, o => ∃ dx p, o = .ins a.C_Task dx (taskF n (M.st n) (M.tg n) p (A (.wait n))) ∧ W p = some (M.val n)
  | .wait n, o => o = .lst (rs A (M.wt n))
  | .chan i, o => ∃ c, M.ch[i]? = some c ∧ ∃ dx, o = .ins a.C_Channel dx (chanF c.room (A (.kept i)) (A (.snd i)) (A (.rcv i)))
  | .kept i, o => ∃ c, M.ch[i]? = some c ∧ ∃ ps, o = .lst (ps.map V.ref) ∧ Toks W ps c.kept
  | .snd i, o => ∃ c, M.ch[i]? = some c ∧ o = .lst (rs A c.snd)
  | .rcv i, o => ∃ c, M.ch[i]? = some c ∧ o = .lst (rs A c.rcv)
def live (M : MS) : Role → Prop
  | .clock => M.clk.isSome = true
  | .orders => M.ords.isSome = true
  | .ans => M.ans.isSome = true
  | .task n => n ∈ M.ks
  | .wait n => n ∈ M.ks
  | .chan i => i < M.ch.length
  | .kept i => i < M.ch.length
  | .snd i => i < M.ch.length
  | .rcv i => i < M.ch.length
  | _ => True
structure Rep (a : Ad) (H : Hp) (A : Nm) (W : Wd) (M : MS) : Prop where
  at_ : ∀ r, live M r → ∃ o, H (A r) = some o ∧ Cont a A W M r o
  inj : ∀ r r', live M r → live M r' → A r = A r' → r = r'
  val : ∀ p l, W p = some l → H p = some (.lst (l.map V.int))
  sep : ∀ r, live M r → W (A r) = none
def Keep (A : Nm) (M : MS) (H H' : Hp) : Prop := ∀ b o, H b = some o → (∀ r, live M r → A r ≠ b) → H' b = some o
def WLe (W W' : Wd) : Prop := ∀ p l, W p = some l → W' p = some l
def wput (W : Wd) (p : Addr) (l : List Int) : Wd := fun q => if q = p then some l else W q
theorem WLe.refl (W : Wd) : WLe W W := fun _ _ h => h
theorem WLe.trans {W W' W2 : Wd} (a : WLe W W') (b : WLe W' W2) : WLe W W2 := fun p l h => b p l (a p l h)
theorem Toks.mono {W W' : Wd} (h : WLe W W') {ps : List Addr} {ls : List (List Int)} (t : Toks W ps ls) : Toks W' ps ls := Paired.mapP t fun p l e => h p l e
theorem Toks.snoc {W : Wd} {ps : List Addr} {ls : List (List Int)} {p : Addr} {l : List Int} (t : Toks W ps ls) (e : W p = some l) : Toks W (ps ++ [p]) (ls ++ [l]) := by
  induction t with
  | nil => exact .cons e .nil
  | cons h _ ih => exact .cons h ih
theorem Cont.mono {a : Ad} {A : Nm} {W W' : Wd} {M : MS} (h : WLe W W') : ∀ {r : Role} {o : HO}, Cont a A W M r o → Cont a A W' M r o
  | .held, _, c => c
  | .row, _, c => c
  | .tasks, _, c => c
  | .chs, _, c => c
  | .clock, _, ⟨rl, k, e, dx, p, e2, w⟩ => ⟨rl, k, e, dx, p, e2, h _ _ w⟩
  | .orders, _, ⟨os, e, ps, e2, t⟩ => ⟨os, e, ps, e2, Toks.mono h t⟩
  | .ans, _, c => c
  | .task n, _, ⟨dx, p, e, w⟩ => ⟨dx, p, e, h _ _ w⟩
  | .wait n, _, c => c
  | .chan i, _, c => c
  | .kept i, _, ⟨c, e, ps, e2, t⟩ => ⟨c, e, ps, e2, Toks.mono h t⟩
  | .snd i, _, c => c
  | .rcv i, _, c => c
section
variable {a : Ad} {H H' : Hp} {A : Nm} {W W' : Wd} {M M' : MS}
theorem Rep.same (R : Rep a H A W M) (s : Same H H') : Rep a H' A W M :=
  ⟨fun r l => let ⟨o, e, c⟩ := R.at_ r l; ⟨o, s _ _ e, c⟩, R.inj, fun p l e => s _ _ (R.val p l e), R.sep⟩
theorem Rep.ne (R : Rep a H A W M) {r r' : Role} (l : live M r) (l' : live M r') (h : r ≠ r') : A r ≠ A r' := fun e => h (R.inj r r' l l' e)
theorem Rep.neW (R : Rep a H A W M) {r : Role} (l : live M r) {p : Addr} {v : List Int} (w : W p = some v) : p ≠ A r := fun e => by
  rw [e, R.sep r l] at w
  cases w
theorem Rep.some_ (R : Rep a H A W M) {r : Role} (l : live M r) : ∃ o, H (A r) = some o := let ⟨o, e, _⟩ := R.at_ r l; ⟨o, e⟩
theorem Rep.neN (R : Rep a H A W M) {r : Role} (l : live M r) {p : Addr} (n : H p = none) : A r ≠ p := fun e => by
  obtain ⟨o, q⟩ := R.some_ l
  rw [e, n] at q
  cases q
theorem Rep.put (R : Rep a H A W M) {r0 : Role} {o' : HO} (hl : live M r0) (hlv : ∀ r, live M' r → live M r) (new : Cont a A W M' r0 o')
    (same : ∀ r, r ≠ r0 → live M' r → ∀ o, Cont a A W M r o → Cont a A W M' r o) : Rep a (upd H (A r0) o') A W M' := by
  refine ⟨fun r l => ?_, fun r r' l l' => R.inj r r' (hlv r l) (hlv r' l'), fun p l e => ?_, fun r l => R.sep r (hlv r l)⟩
  · by_cases h : r = r0
    · subst h
      exact ⟨o', upd_same, new⟩
    · obtain ⟨o, e, c⟩ := R.at_ r (hlv r l)
      exact ⟨o, by rw [upd_ne (R.ne (hlv r l) hl h)]; exact e, same r h l o c⟩
  · rw [upd_ne (R.neW hl e)]
    exact R.val p l e
theorem wput_le (R : Rep a H A W M) {p : Addr} {l : List Int} (hp : H p = none) : WLe W (wput W p l) := fun q v e => by
  unfold wput
  by_cases h : q = p
  · subst h
    rw [R.val q v e] at hp
    cases hp
  · rw [if_neg h]
    exact e
theorem wput_at {W : Wd} {p : Addr} {l : List Int} : wput W p l p = some l := by unfold wput; rw [if_pos rfl]
theorem same_new {p : Addr} {o : HO} (hp : H p = none) : Same H (upd H p o) := fun b u e => by
  rw [upd_ne (ne_of_none e hp)]
  exact e
theorem Rep.addVal (R : Rep a H A W M) {p : Addr} (l : List Int) (hp : H p = none) : Rep a (upd H p (.lst (l.map V.int))) A (wput W p l) M := by
  have s : Same H (upd H p (.lst (l.map V.int))) := same_new hp
  refine ⟨fun r lv => ?_, R.inj, fun q v e => ?_, fun r lv => ?_⟩
  · obtain ⟨o, e, c⟩ := R.at_ r lv
    exact ⟨o, s _ _ e, c.mono (wput_le R hp)⟩
  · unfold wput at e
    by_cases h : q = p
    · rw [if_pos h] at e
      cases e
      rw [h]
      exact upd_same
    · rw [if_neg h] at e
      exact s _ _ (R.val q v e)
  · unfold wput
    rw [if_neg (R.neN lv hp)]
    exact R.sep r lv
theorem Keep.refl : Keep A M H H := fun _ _ e _ => e
theorem Keep.of_same (s : Same H H') : Keep A M H H' := fun b o e _ => s b o e
theorem Keep.put {r0 : Role} {o' : HO} (hl : live M r0) : Keep A M H (upd H (A r0) o') := fun b o e n => by
  rw [upd_ne fun z => n r0 hl z.symm]
  exact e
theorem Keep.trans {H1 H2 : Hp} {A' : Nm} (k1 : Keep A M H H1) (k2 : Keep A' M' H1 H2) (hf : ∀ r, live M' r → (∃ r', live M r' ∧ A r' = A' r) ∨ H (A' r) = none) : Keep A M H H2 := fun b o e n =>
  k2 b o (k1 b o e n) fun r l z => by
    rcases hf r l with ⟨r', l', z'⟩ | z'
    · exact n r' l' (z'.trans z)
    · rw [z, e] at z'
      cases z'
theorem Keep.trans' {H1 H2 : Hp} (k1 : Keep A M H H1) (k2 : Keep A M' H1 H2) (hf : ∀ r, live M' r → live M r) : Keep A M H H2 :=
  k1.trans k2 fun r l => .inl ⟨r, hf r l, rfl⟩
theorem Keep.more {H1 : Hp} (k1 : Keep A M H H1) (r0 : Role) {o' : HO} (hl : live M r0) : Keep A M H (upd H1 (A r0) o') := fun b o e n => by
  rw [upd_ne fun z => n r0 hl z.symm]
  exact k1 b o e n
theorem Keep.new {H1 : Hp} (k1 : Keep A M H H1) {p : Addr} {o' : HO} (hp : H1 p = none) : Keep A M H (upd H1 p o') := fun b o e n => same_new hp b o (k1 b o e n)
theorem Keep.toks (k : Keep A M H H') (R : Rep a H A W M) {p : Addr} {l : List Int} (w : W p = some l) : H' p = some (.lst (l.map V.int)) :=
  k p _ (R.val p l w) fun r lv z => R.neW lv w z.symm
theorem Rep.held (R : Rep a H A W M) : ∃ dx, H (A .held) = some (.ins a.C_Held dx (heldF M.steps (A .tasks) (A .chs) (A .row) M.now)) := by
  obtain ⟨o, e, dx, c⟩ := R.at_ .held trivial
  exact ⟨dx, by rw [e, c]⟩
theorem Rep.row (R : Rep a H A W M) : H (A .row) = some (.lst (rs A M.row)) := by
  obtain ⟨o, e, c⟩ := R.at_ .row trivial
  rw [e, show o = _ from c]
theorem Rep.tasks (R : Rep a H A W M) : H (A .tasks) = some (.dK (tkv A M.ks)) := by
  obtain ⟨o, e, c⟩ := R.at_ .tasks trivial
  rw [e, show o = _ from c]
theorem Rep.chs (R : Rep a H A W M) : H (A .chs) = some (.lst ((List.range M.ch.length).map fun i => V.ref (A (.chan i)))) := by
  obtain ⟨o, e, c⟩ := R.at_ .chs trivial
  rw [e, show o = _ from c]
theorem Rep.task (R : Rep a H A W M) {n : Nat} (hn : n ∈ M.ks) : ∃ dx p, H (A (.task n)) = some (.ins a.C_Task dx (taskF n (M.st n) (M.tg n) p (A (.wait n)))) ∧ W p = some (M.val n) := by
  obtain ⟨o, e, dx, p, c, w⟩ := R.at_ (.task n) hn
  exact ⟨dx, p, by rw [e, c], w⟩
theorem Rep.wait (R : Rep a H A W M) {n : Nat} (hn : n ∈ M.ks) : H (A (.wait n)) = some (.lst (rs A (M.wt n))) := by
  obtain ⟨o, e, c⟩ := R.at_ (.wait n) hn
  rw [e, show o = _ from c]
theorem lt_of_get {α : Type} {l : List α} {i : Nat} {x : α} (h : l[i]? = some x) : i < l.length := (List.getElem?_eq_some_iff.mp h).1
theorem Rep.chan (R : Rep a H A W M) {i : Nat} {c : Ch} (h : M.ch[i]? = some c) : ∃ dx, H (A (.chan i)) = some (.ins a.C_Channel dx (chanF c.room (A (.kept i)) (A (.snd i)) (A (.rcv i)))) := by
  obtain ⟨o, e, c', h', dx, q⟩ := R.at_ (.chan i) (lt_of_get h)
  rw [h] at h'
  cases h'
  exact ⟨dx, by rw [e, q]⟩
theorem Rep.kept (R : Rep a H A W M) {i : Nat} {c : Ch} (h : M.ch[i]? = some c) : ∃ ps, H (A (.kept i)) = some (.lst (ps.map V.ref)) ∧ Toks W ps c.kept := by
  obtain ⟨o, e, c', h', ps, q, t⟩ := R.at_ (.kept i) (lt_of_get h)
  rw [h] at h'
  cases h'
  exact ⟨ps, by rw [e, q], t⟩
theorem Rep.snd (R : Rep a H A W M) {i : Nat} {c : Ch} (h : M.ch[i]? = some c) : H (A (.snd i)) = some (.lst (rs A c.snd)) := by
  obtain ⟨o, e, c', h', q⟩ := R.at_ (.snd i) (lt_of_get h)
  rw [h] at h'
  cases h'
  rw [e, q]
theorem Rep.rcv (R : Rep a H A W M) {i : Nat} {c : Ch} (h : M.ch[i]? = some c) : H (A (.rcv i)) = some (.lst (rs A c.rcv)) := by
  obtain ⟨o, e, c', h', q⟩ := R.at_ (.rcv i) (lt_of_get h)
  rw [h] at h'
  cases h'
  rw [e, q]
theorem Rep.clock (R : Rep a H A W M) {rl : List Int} {k : Nat} (h : M.clk = some (rl, k)) : ∃ dx p, H (A .clock) = some (.ins a.C_Clock dx (clockF p k)) ∧ W p = some rl := by
  obtain ⟨o, e, rl', k', h', dx, p, q, w⟩ := R.at_ .clock (by show M.clk.isSome = true; rw [h]; rfl)
  rw [h] at h'
  cases h'
  exact ⟨dx, p, by rw [e, q], w⟩
theorem Rep.orders (R : Rep a H A W M) {os : List (List Int)} (h : M.ords = some os) : ∃ ps, H (A .orders) = some (.lst (ps.map V.ref)) ∧ Toks W ps os := by
  obtain ⟨o, e, os', h', ps, q, t⟩ := R.at_ .orders (by show M.ords.isSome = true; rw [h]; rfl)
  rw [h] at h'
  cases h'
  exact ⟨ps, by rw [e, q], t⟩
theorem Rep.ans (R : Rep a H A W M) {l : List Int} (h : M.ans = some l) : H (A .ans) = some (.lst (l.map V.int)) := by
  obtain ⟨o, e, l', h', q⟩ := R.at_ .ans (by show M.ans.isSome = true; rw [h]; rfl)
  rw [h] at h'
  cases h'
  rw [e, q]
end
section
variable {s n rm : Int} {t c r p w k : Addr} {m : Nat} {v : V}
theorem hl_steps : (heldF s t c r n).lookup ("steps" : Str) = some (.int s) := by rfl
theorem hl_tasks : (heldF s t c r n).lookup ("tasks" : Str) = some (.ref t) := by rfl
theorem hl_chs : (heldF s t c r n).lookup ("channels" : Str) = some (.ref c) := by rfl
theorem hl_row : (heldF s t c r n).lookup ("row" : Str) = some (.ref r) := by rfl
theorem hl_now : (heldF s t c r n).lookup ("now" : Str) = some (.int n) := by rfl
theorem tl_number : (taskF m s n p w).lookup ("number" : Str) = some (.int m) := by rfl
theorem tl_state : (taskF m s n p w).lookup ("state" : Str) = some (.int s) := by rfl
theorem tl_target : (taskF m s n p w).lookup ("target" : Str) = some (.int n) := by rfl
theorem tl_value : (taskF m s n p w).lookup ("value" : Str) = some (.ref p) := by rfl
theorem tl_waiters : (taskF m s n p w).lookup ("waiters" : Str) = some (.ref w) := by rfl
theorem cl_room : (chanF rm k t r).lookup ("room" : Str) = some (.int rm) := by rfl
theorem cl_kept : (chanF rm k t r).lookup ("kept" : Str) = some (.ref k) := by rfl
theorem cl_snd : (chanF rm k t r).lookup ("senders" : Str) = some (.ref t) := by rfl
theorem cl_rcv : (chanF rm k t r).lookup ("receivers" : Str) = some (.ref r) := by rfl
theorem kl_replies : (clockF p m).lookup ("replies" : Str) = some (.ref p) := by rfl
theorem kl_asked : (clockF p m).lookup ("asked" : Str) = some (.int m) := by rfl
end
def MS.setSt (M : MS) (n : Nat) (c g : Int) : MS := { M with st := fun k => if k = n then c else M.st k, tg := fun k => if k = n then g else M.tg k }
def MS.setVal (M : MS) (n : Nat) (v : List Int) : MS := { M with val := fun k => if k = n then v else M.val k }
def MS.setWt (M : MS) (n : Nat) (l : List Nat) : MS := { M with wt := fun k => if k = n then l else M.wt k }
def MS.ready (M : MS) (n : Nat) : MS := { M.setSt n 0 0 with row := M.row ++ [n] }
def MS.setCh (M : MS) (i : Nat) (c : Ch) : MS := { M with ch := M.ch.set i c }
end TT
end
section
set_option Elab.async false
set_option linter.all false
set_option maxRecDepth 100000
set_option maxHeartbeats 2000000
open PySem PySem.Spec PyProof.Rows L2
namespace TT
def isValB (l : List Int) : Bool := decide (1 ≤ l.length) && decide (l.length ≤ 64)
def isKindB (l : List Int) (k : Int) : Bool := decide (l.length = 2) && decide (l.head? = some k)
def sp_is_value (K : PySem.W.Frag) : Sp := fun vs H Q _ => ∃ (p : Addr) (l : List Int), vs = [.ref p] ∧ H p = some (.lst (l.map V.int)) ∧ Q (.bl (isValB l)) H
def sp_is_of_kind (K : PySem.W.Frag) : Sp := fun vs H Q _ => ∃ (p : Addr) (l : List Int) (k : Int), vs = [.ref p, .int k] ∧ H p = some (.lst (l.map V.int)) ∧ Q (.bl (isKindB l k)) H
def sp_is_whole (K : PySem.W.Frag) : Sp := fun vs H Q _ => ∃ (p : Addr) (l : List Int), vs = [.ref p] ∧ H p = some (.lst (l.map V.int)) ∧ Q (.bl (isKindB l 2)) H
def sp_nothing : Sp := fun vs H Q _ => vs = [] ∧ ∀ p, H p = none → Q (.ref p) (upd H p (.lst ([0].map V.int)))
def sp_whole : Sp := fun vs H Q _ => ∃ z : Int, vs = [.int z] ∧ ∀ p, H p = none → Q (.ref p) (upd H p (.lst ([2, z].map V.int)))
def sp_channel_value : Sp := fun vs H Q _ => ∃ z : Int, vs = [.int z] ∧ ∀ p, H p = none → Q (.ref p) (upd H p (.lst ([9, z].map V.int)))
theorem Qbl {Q : VK} {b b' : Bool} {H : Hp} (h : Q (.bl b) H) (e : b = b') : Q (.bl b') H := e ▸ h
section
variable {P : Program} {w : World} {K : PySem.W.Frag} {mg : Str → Option Value} {base : Heap} {a : Ad}
theorem ok_is_value (T : Tx K mg a) : FnOk P w K mg base CX0 1 a.f_is_value a.d_is_value ["numbers"] (sp_is_value K) := by
  refine T.F_is_value.ok sc_is_value (fun vs H Q E h => ?_) (fun cdv A outer s H vs Q E hr h => ?_)
  · obtain ⟨p, l, rfl, _⟩ := h
    rfl
  · obtain ⟨p, l, rfl, hp, k⟩ := h
    refine ⟨_, (pss_one (ps_ret (pe_chain op_le op_le pe_int (pe_callB (call_len_seq) (by rfl) T.n_len PySem.boot_len (pa_cons (pv 0) pa_nil)) (pe_glob (v := .int (64)) rfl T.c_MOST_NUMBERS ⟨_, rfl⟩)))), ?_⟩
    refine ⟨_, rfl, p, _, rfl, .inl (SqL.of hp), _, _, rfl, rfl, _, rfl, ?_⟩
    refine ite2 (fun h => ⟨_, _, rfl, rfl, Qbl k ?_⟩) (fun h => Qbl k ?_)
    · rw [decide_eq_true_eq, List.length_map] at h
      rw [List.length_map, isValB, decide_eq_true (show 1 ≤ l.length by omega), Bool.true_and]
      exact decide_eq_decide.mpr (by omega)
    · rw [decide_eq_true_eq, List.length_map] at h
      rw [isValB, decide_eq_false (show ¬ 1 ≤ l.length by omega), Bool.false_and]
theorem ok_is_of_kind (T : Tx K mg a) : FnOk P w K mg base CX0 1 a.f_is_of_kind a.d_is_of_kind ["value", "kind"] (sp_is_of_kind K) := by
  refine T.F_is_of_kind.ok sc_is_of_kind (fun vs H Q E h => ?_) (fun cdv A outer s H vs Q E hr h => ?_)
  · obtain ⟨p, l, z, rfl, _⟩ := h
    rfl
  · obtain ⟨p, l, z, rfl, hp, k⟩ := h
    refine ⟨_, (pss_one (ps_ret (pe_and (pe_cmp (pc_eqI (pe_callB (call_len_seq) (by rfl) T.n_len PySem.boot_len (pa_cons (pv 0) pa_nil)) pe_int)) (pe_one (pe_cmp (pc_eqI (pe_ix ix_list (pv 0) pe_int (fun _ _ => rfl)) (pv 1))))))), ?_⟩
    refine ⟨_, rfl, p, _, rfl, .inl (SqL.of hp), _, _, rfl, rfl, _, rfl, ?_⟩
    refine ite2 (fun h => ?_) (fun h => Qbl k ?_)
    · rw [decide_eq_true_eq, List.length_map] at h
      match l, h, hp, k with
      | [x, y], h, hp, k =>
        refine ⟨_, rfl, p, _, _, _, rfl, rfl, SqL.of hp, atI_nat (j := 0) rfl, _, rfl, _, _, rfl, rfl, Qbl k ?_⟩
        simp [isKindB]
    · rw [decide_eq_true_eq, List.length_map] at h
      rw [isKindB, decide_eq_false (show ¬ l.length = 2 by omega), Bool.false_and]
theorem ok_is_whole (T : Tx K mg a) : FnOk P w K mg base CX0 2 a.f_is_whole a.d_is_whole ["value"] (sp_is_whole K) := by
  refine T.F_is_whole.ok sc_is_whole (fun vs H Q E h => ?_) (fun cdv A outer s H vs Q E hr h => ?_)
  · obtain ⟨p, l, rfl, _⟩ := h
    rfl
  · obtain ⟨p, l, rfl, hp, k⟩ := h
    refine ⟨_, (pss_one (ps_ret (pe_call (ok_is_of_kind T) (hr.mono (by decide)) rfl T.m_is_of_kind T.F_is_of_kind.kp (b_is_of_kind T) .nil pass0 (pa_cons (pv 0) (pa_cons (pe_glob (v := .int (2)) rfl T.c_WHOLE ⟨_, rfl⟩) pa_nil))))), ?_⟩
    exact ⟨_, rfl, p, l, 2, rfl, hp, k⟩
theorem ok_nothing (T : Tx K mg a) : FnOk P w K mg base CX0 1 a.f_nothing a.d_nothing [] sp_nothing := by
  refine T.F_nothing.ok sc_nothing (fun vs H Q E h => ?_) (fun cdv A outer s H vs Q E hr h => ?_)
  · obtain ⟨rfl, _⟩ := h
    rfl
  · obtain ⟨rfl, k⟩ := h
    refine ⟨_, (pss_one (ps_ret (pe_lst (pa_cons (pe_glob (v := .int (0)) rfl T.c_NOTHING ⟨_, rfl⟩) pa_nil)))), ?_⟩
    exact ⟨by show 1 ≤ sizeLine; decide, k⟩
theorem ok_whole (T : Tx K mg a) : FnOk P w K mg base CX0 1 a.f_whole a.d_whole ["number"] sp_whole := by
  refine T.F_whole.ok sc_whole (fun vs H Q E h => ?_) (fun cdv A outer s H vs Q E hr h => ?_)
  · obtain ⟨z, rfl, _⟩ := h
    rfl
  · obtain ⟨z, rfl, k⟩ := h
    refine ⟨_, (pss_one (ps_ret (pe_lst (pa_cons (pe_glob (v := .int (2)) rfl T.c_WHOLE ⟨_, rfl⟩) (pa_cons (pv 0) pa_nil))))), ?_⟩
    exact ⟨_, rfl, by show 2 ≤ sizeLine; decide, k⟩
theorem ok_channel_value (T : Tx K mg a) : FnOk P w K mg base CX0 1 a.f_channel_value a.d_channel_value ["number"] sp_channel_value := by
  refine T.F_channel_value.ok sc_channel_value (fun vs H Q E h => ?_) (fun cdv A outer s H vs Q E hr h => ?_)
  · obtain ⟨z, rfl, _⟩ := h
    rfl
  · obtain ⟨z, rfl, k⟩ := h
    refine ⟨_, (pss_one (ps_ret (pe_lst (pa_cons (pe_glob (v := .int (9)) rfl T.c_CHANNEL_forms ⟨_, rfl⟩) (pa_cons (pv 0) pa_nil))))), ?_⟩
    exact ⟨_, rfl, by show 2 ≤ sizeLine; decide, k⟩
end
end TT
end
section
set_option Elab.async false
set_option linter.all false
set_option maxRecDepth 100000
set_option maxHeartbeats 2000000
open PySem PySem.Spec PyProof.Rows L2
namespace TT
def hearN (now z : Int) : Int := if now ≤ z then (if 4611686018427387904 < z then 4611686018427387904 else z) else now
def MS.hear (M : MS) (z : Int) : MS := { M with now := hearN M.now z }
def AExt (M : MS) (A A' : Nm) : Prop := ∀ r, live M r → A' r = A r
def sp_Task_wait (a : Ad) : Sp := fun vs H Q _ => ∃ (A : Nm) (W : Wd) (M : MS) (n : Nat) (c g : Int), vs = [.ref (A (.task n)), .int c, .int g] ∧ Rep a H A W M ∧ n ∈ M.ks ∧
  ∀ H', Rep a H' A W (M.setSt n c g) → Keep A M H H' → Q .non H'
def sp_Task_has_ended (a : Ad) : Sp := fun vs H Q _ => ∃ (x dx : Addr) (n : Nat) (s g : Int) (p t : Addr), vs = [.ref x] ∧ H x = some (.ins a.C_Task dx (taskF n s g p t)) ∧ Q (.bl (decide (s = 7) || decide (s = 8))) H
def sp_Task_init (a : Ad) : Sp := fun vs H Q _ => ∃ (x dx : Addr) (n : Nat), vs = [.ref x, .int n] ∧ H x = some (.ins a.C_Task dx []) ∧
  ∀ (H' : Hp) (p t : Addr), H' x = some (.ins a.C_Task dx (taskF n 0 0 p t)) → H p = none → H t = none → p ≠ t → H' p = some (.lst ([0].map V.int)) → H' t = some (.lst []) → (∀ b o, H b = some o → b ≠ x → H' b = some o) → Q .non H'
def sp_Channel_init (a : Ad) : Sp := fun vs H Q _ => ∃ (x dx : Addr) (z : Int), vs = [.ref x, .int z] ∧ H x = some (.ins a.C_Channel dx []) ∧
  ∀ (H' : Hp) (p s r : Addr), H' x = some (.ins a.C_Channel dx (chanF z p s r)) → H p = none → H s = none → H r = none → p ≠ s → p ≠ r → s ≠ r → H' p = some (.lst []) → H' s = some (.lst []) → H' r = some (.lst []) →
    (∀ b o, H b = some o → b ≠ x → H' b = some o) → Q .non H'
def sp_Held_begin_anew (a : Ad) : Sp := fun vs H Q _ => ∃ (x dx : Addr) (fs : List (Str × V)) (z : Int), vs = [.ref x, .int z] ∧ H x = some (.ins a.C_Held dx fs) ∧ (fs = [] ∨ ∃ s t c r n, fs = heldF s t c r n) ∧
  ∀ (H' : Hp) (t c r : Addr), H' x = some (.ins a.C_Held dx (heldF z t c r 0)) → H t = none → H c = none → H r = none → t ≠ c → t ≠ r → c ≠ r → H' t = some (.dK []) → H' c = some (.lst []) → H' r = some (.lst []) →
    (∀ b o, H b = some o → b ≠ x → H' b = some o) → Q .non H'
def sp_Held_init (a : Ad) : Sp := fun vs H Q _ => ∃ (x dx : Addr), vs = [.ref x] ∧ H x = some (.ins a.C_Held dx []) ∧
  ∀ (H' : Hp) (t c r : Addr), H' x = some (.ins a.C_Held dx (heldF 1 t c r 0)) → H t = none → H c = none → H r = none → t ≠ c → t ≠ r → c ≠ r → H' t = some (.dK []) → H' c = some (.lst []) → H' r = some (.lst []) →
    (∀ b o, H b = some o → b ≠ x → H' b = some o) → Q .non H'
def sp_Held_is_full (a : Ad) : Sp := fun vs H Q _ => ∃ (A : Nm) (W : Wd) (M : MS), vs = [.ref (A .held)] ∧ Rep a H A W M ∧ Q (.bl (decide (1000 ≤ M.ks.length))) H
def sp_Held_has_all_channels (a : Ad) : Sp := fun vs H Q _ => ∃ (A : Nm) (W : Wd) (M : MS), vs = [.ref (A .held)] ∧ Rep a H A W M ∧ Q (.bl (decide (1000 ≤ M.ch.length))) H
def sp_Held_make_ready (a : Ad) : Sp := fun vs H Q _ => ∃ (A : Nm) (W : Wd) (M : MS) (n : Nat), vs = [.ref (A .held), .ref (A (.task n))] ∧ Rep a H A W M ∧ n ∈ M.ks ∧ M.row.length < 100000 ∧
  ∀ H', Rep a H' A W (M.ready n) → Keep A M H H' → Q .non H'
def sp_Held_hear (a : Ad) : Sp := fun vs H Q _ => ∃ (A : Nm) (W : Wd) (M : MS) (z : Int), vs = [.ref (A .held), .int z] ∧ Rep a H A W M ∧ ∀ H', Rep a H' A W (M.hear z) → Keep A M H H' → Q .non H'
theorem big {n m : Nat} (h : n < m) (hm : m ≤ 16777216 := by decide) : n < sizeLine := by rw [sizeLine_eq]; omega
section
variable {a : Ad} {H H' : Hp} {A : Nm} {W : Wd} {M : MS}
theorem Rep.setSt (R : Rep a H A W M) {n : Nat} (hn : n ∈ M.ks) {dx p : Addr} (w : W p = some (M.val n)) (c g : Int) : Rep a (upd H (A (.task n)) (.ins a.C_Task dx (taskF n c g p (A (.wait n))))) A W (M.setSt n c g) := by
  refine R.put (r0 := .task n) hn (fun r l => by cases r <;> exact l) ⟨dx, p, ?_, w⟩ fun r hr l o c' => ?_
  · simp only [MS.setSt, if_pos rfl, ite_true]
  · cases r with
    | task k =>
      have hk : ¬ k = n := fun e => hr (by rw [e])
      obtain ⟨dx', p', e, w'⟩ := c'
      exact ⟨dx', p', by simp only [MS.setSt, if_neg hk]; exact e, w'⟩
    | _ => exact c'
theorem Rep.pushRow (R : Rep a H A W M) (n : Nat) : Rep a (upd H (A .row) (.lst (rs A M.row ++ [V.ref (A (.task n))]))) A W { M with row := M.row ++ [n] } := by
  refine R.put (r0 := .row) trivial (fun r l => by cases r <;> exact l) ?_ fun r hr l o c' => ?_
  · show _ = HO.lst (rs A (M.row ++ [n]))
    rw [rs, rs, List.map_append]
    rfl
  · cases r <;> first | exact c' | exact absurd rfl hr
theorem Rep.hear (R : Rep a H A W M) {dx : Addr} (z : Int) : Rep a (upd H (A .held) (.ins a.C_Held dx (heldF M.steps (A .tasks) (A .chs) (A .row) z))) A W { M with now := z } := by
  refine R.put (r0 := .held) trivial (fun r l => by cases r <;> exact l) ⟨dx, rfl⟩ fun r hr l o c' => ?_
  cases r <;> first | exact c' | exact absurd rfl hr
theorem live_setSt {n : Nat} {c g : Int} {r : Role} : live (M.setSt n c g) r → live M r := fun l => by cases r <;> exact l
end
section
variable {P : Program} {w : World} {K : PySem.W.Frag} {mg : Str → Option Value} {base : Heap} {a : Ad}
theorem ok_Task_wait (T : Tx K mg a) : FnOk P w K mg base CX0 1 a.f_Task_wait a.d_Task_wait ["self", "state", "target"] (sp_Task_wait a) := by
  refine T.F_Task_wait.ok sc_Task_wait (fun vs H Q E h => ?_) (fun cdv A' outer s H vs Q E hr h => ?_)
  · obtain ⟨A, W, M, n, c, g, rfl, _⟩ := h
    rfl
  · obtain ⟨A, W, M, n, c, g, rfl, R, hn, k⟩ := h
    obtain ⟨dx, p, ht, wp⟩ := R.task hn
    refine ⟨_, (pss_cons (ps_fld (pv 0) (pv 1) rfl)
      (pss_one (ps_fld (pv 0) (pv 2) rfl))), ?_⟩
    refine ⟨_, rfl, _, rfl, _, _, dx, _, rfl, ht, T.l_Task, T.a_Task_state, (by show 5 < 1000; decide), ?_⟩
    refine ⟨_, rfl, _, rfl, _, _, dx, _, rfl, upd_same, T.l_Task, T.a_Task_target, (by show 5 < 1000; decide), ?_⟩
    show Q .non _
    rw [upd_upd]
    exact k _ (R.setSt hn wp c g) (Keep.put (r0 := .task n) hn)
theorem ok_Task_has_ended (T : Tx K mg a) : FnOk P w K mg base CX0 1 a.f_Task_has_ended a.d_Task_has_ended ["self"] (sp_Task_has_ended a) := by
  refine T.F_Task_has_ended.ok sc_Task_has_ended (fun vs H Q E h => ?_) (fun cdv A' outer s H vs Q E hr h => ?_)
  · obtain ⟨x, dx, n, s, g, p, t, rfl, _⟩ := h
    rfl
  · obtain ⟨x, dx, n, s, g, p, t, rfl, hx, k⟩ := h
    refine ⟨_, (pss_one (ps_ret (pe_or (pe_cmp (pc_eqI (pe_fld (pv 0) rfl) (pe_glob (v := .int (7)) rfl T.c_ENDED ⟨_, rfl⟩))) (pe_one (pe_cmp (pc_eqI (pe_fld (pv 0) rfl) (pe_glob (v := .int (8)) rfl T.c_THROWN ⟨_, rfl⟩))))))), ?_⟩
    refine ⟨_, rfl, x, _, dx, _, _, rfl, hx, T.l_Task, T.a_Task_state, tl_state, _, _, rfl, rfl, _, rfl, ?_⟩
    refine ite2 (fun h => Qbl k ?_) (fun h => ⟨_, rfl, x, _, dx, _, _, rfl, hx, T.l_Task, T.a_Task_state, tl_state, _, _, rfl, rfl, Qbl k ?_⟩)
    · have h' : decide (s = 7) = true := h
      rw [h', Bool.true_or]
    · have h' : ¬ decide (s = 7) = true := h
      rw [Bool.not_eq_true] at h'
      rw [h', Bool.false_or]
theorem ok_Task_init (T : Tx K mg a) : FnOk P w K mg base CX0 2 a.f_Task_init a.d_Task_init ["self", "number"] (sp_Task_init a) := by
  refine T.F_Task_init.ok sc_Task_init (fun vs H Q E h => ?_) (fun cdv A' outer s H vs Q E hr h => ?_)
  · obtain ⟨x, dx, n, rfl, _⟩ := h
    rfl
  · obtain ⟨x, dx, n, rfl, hx, k⟩ := h
    refine ⟨_, (pss_cons (ps_fld (pv 0) (pv 1) rfl)
      (pss_cons (ps_fld (pv 0) (pe_glob (v := .int (0)) rfl T.c_READY ⟨_, rfl⟩) rfl)
      (pss_cons (ps_fld (pv 0) pe_int rfl)
      (pss_cons (ps_fld (pv 0) (pe_call0 (ok_nothing T) (hr.mono (by decide)) rfl T.m_nothing T.F_nothing.kp (b_nothing T) .nil pass0) rfl)
      (pss_one (ps_fld (pv 0) (pe_lst pa_nil) rfl)))))), ?_⟩
    refine ⟨_, rfl, _, rfl, _, _, dx, _, rfl, hx, T.l_Task, T.a_Task_number, (by show 0 < 1000; decide), ?_⟩
    refine ⟨_, rfl, _, _, dx, _, rfl, upd_same, T.l_Task, T.a_Task_state, (by show 1 < 1000; decide), ?_⟩
    refine ⟨_, rfl, _, _, dx, _, rfl, upd_same, T.l_Task, T.a_Task_target, (by show 2 < 1000; decide), ?_⟩
    rw [upd_upd, upd_upd]
    refine ⟨rfl, fun p hp => ?_⟩
    have px : x ≠ p := ne_of_none upd_same hp
    refine ⟨_, rfl, _, _, dx, _, rfl, (by rw [upd_ne px]; exact upd_same), T.l_Task, T.a_Task_value, (by show 3 < 1000; decide), ?_⟩
    refine ⟨Nat.zero_le _, fun t ht => ?_⟩
    have tx : x ≠ t := ne_of_none upd_same ht
    have tp : p ≠ t := ne_of_none (by rw [upd_ne px.symm]; exact upd_same) ht
    refine ⟨_, rfl, _, _, dx, _, rfl, (by rw [upd_ne tx]; exact upd_same), T.l_Task, T.a_Task_waiters, (by show 4 < 1000; decide), ?_⟩
    refine k _ p t upd_same (by rw [upd_ne px.symm] at hp; exact hp) (by rw [upd_ne tx.symm, upd_ne tp.symm, upd_ne tx.symm] at ht; exact ht) tp ?_ ?_ fun b o e hb => ?_
    · rw [upd_ne px.symm, upd_ne tp, upd_ne px.symm]
      exact upd_same
    · rw [upd_ne tx.symm]
      exact upd_same
    · have bp : b ≠ p := ne_of_none e (by rw [upd_ne px.symm] at hp; exact hp)
      have bt : b ≠ t := ne_of_none e (by rw [upd_ne tx.symm, upd_ne tp.symm, upd_ne tx.symm] at ht; exact ht)
      rw [upd_ne hb, upd_ne bt, upd_ne hb, upd_ne bp, upd_ne hb]
      exact e
theorem ok_Held_make_ready (T : Tx K mg a) : FnOk P w K mg base CX0 2 a.f_Held_make_ready a.d_Held_make_ready ["self", "task"] (sp_Held_make_ready a) := by
  refine T.F_Held_make_ready.ok sc_Held_make_ready (fun vs H Q E h => ?_) (fun cdv A' outer s H vs Q E hr h => ?_)
  · obtain ⟨A, W, M, n, rfl, _⟩ := h
    rfl
  · obtain ⟨A, W, M, n, rfl, R, hn, hz, k⟩ := h
    obtain ⟨dx, p, ht, wp⟩ := R.task hn
    refine ⟨_, (pss_cons (ps_expr (pe_meth (pv 1) T.l_Task T.M_Task_wait (ok_Task_wait T) (hr.mono (by decide)) (b_Task_wait T) .nil pass0 (pa_cons (pe_glob (v := .int (0)) rfl T.c_READY ⟨_, rfl⟩) (pa_cons pe_int pa_nil))))
      (pss_one (ps_expr (pe_bm PySem.F.plainAttrs_list PySem.F.slot_list_append PySem.F.type_list_append mt_append (pe_fld (pv 0) rfl) (pa_cons (pv 1) pa_nil))))), ?_⟩
    refine ⟨_, rfl, _, dx, _, rfl, ht, rfl, A, W, M, n, 0, 0, rfl, R, hn, fun H1 R1 k1 => ?_⟩
    obtain ⟨dh, hh⟩ := R1.held
    refine ⟨_, rfl, _, _, dh, _, _, rfl, hh, T.l_Held, T.a_Held_row, hl_row, .inl ⟨rfl, _, SqL.of R1.row⟩, _, rfl, _, _, _, rfl, rfl, R1.row, big (by rw [rs, List.length_map]; exact hz), ?_⟩
    exact k _ (R1.pushRow n) (k1.more .row trivial)
theorem ok_Held_hear (T : Tx K mg a) : FnOk P w K mg base CX0 1 a.f_Held_hear a.d_Held_hear ["self", "reply"] (sp_Held_hear a) := by
  refine T.F_Held_hear.ok sc_Held_hear (fun vs H Q E h => ?_) (fun cdv A' outer s H vs Q E hr h => ?_)
  · obtain ⟨A, W, M, z, rfl, _⟩ := h
    rfl
  · obtain ⟨A, W, M, z, rfl, R, k⟩ := h
    obtain ⟨dh, hh⟩ := R.held
    refine ⟨_, (pss_one (ps_if (pt_cmp (pc_ge (pv 1) (pe_fld (pv 0) rfl))) (pss_one (ps_fld (pv 0) (pe_callB (call_min2 rfl) (by rfl) T.n_min PyProof.Rows.boot_min (pa_cons (pv 1) (pa_cons (pe_glob (v := .int (4611686018427387904)) rfl T.c_LAST_TIME ⟨_, rfl⟩) pa_nil))) rfl)) pss_nil)), ?_⟩
    refine ⟨_, rfl, _, rfl, _, _, dh, _, _, rfl, hh, T.l_Held, T.a_Held_now, hl_now, _, _, rfl, rfl, _, rfl, ?_⟩
    refine ite2 (fun h => ?_) (fun h => ?_)
    · rw [decide_eq_true_eq] at h
      refine ⟨_, rfl, _, _, rfl, _, rfl, _, _, dh, _, rfl, hh, T.l_Held, T.a_Held_now, (by show 5 < 1000; decide), ?_⟩
      refine k _ ?_ (Keep.put (r0 := .held) trivial)
      have e : M.hear z = { M with now := if 4611686018427387904 < z then 4611686018427387904 else z } := by
        rw [MS.hear, hearN, if_pos h]
      rw [e]
      exact R.hear _
    · rw [decide_eq_true_eq] at h
      refine k _ ?_ Keep.refl
      have e : M.hear z = M := by
        rw [MS.hear, hearN, if_neg h]
      rw [e]
      exact R
theorem ok_Held_is_full (T : Tx K mg a) : FnOk P w K mg base CX0 1 a.f_Held_is_full a.d_Held_is_full ["self"] (sp_Held_is_full a) := by
  refine T.F_Held_is_full.ok sc_Held_is_full (fun vs H Q E h => ?_) (fun cdv A' outer s H vs Q E hr h => ?_)
  · obtain ⟨A, W, M, rfl, _⟩ := h
    rfl
  · obtain ⟨A, W, M, rfl, R, k⟩ := h
    obtain ⟨dh, hh⟩ := R.held
    refine ⟨_, (pss_one (ps_ret (pe_cmp (pc_ge (pe_callB (call_lenD) (by rfl) T.n_len PySem.boot_len (pa_cons (pe_fld (pv 0) rfl) pa_nil)) (pe_glob (v := .int (1000)) rfl T.c_MOST_TASKS ⟨_, rfl⟩))))), ?_⟩
    refine ⟨_, rfl, _, _, dh, _, _, rfl, hh, T.l_Held, T.a_Held_tasks, hl_tasks, _, _, rfl, R.tasks, _, _, rfl, rfl, Qbl k ?_⟩
    rw [tkv, List.length_map]
    exact decide_eq_decide.mpr (by omega)
theorem ok_Held_has_all_channels (T : Tx K mg a) : FnOk P w K mg base CX0 1 a.f_Held_has_all_channels a.d_Held_has_all_channels ["self"] (sp_Held_has_all_channels a) := by
  refine T.F_Held_has_all_channels.ok sc_Held_has_all_channels (fun vs H Q E h => ?_) (fun cdv A' outer s H vs Q E hr h => ?_)
  · obtain ⟨A, W, M, rfl, _⟩ := h
    rfl
  · obtain ⟨A, W, M, rfl, R, k⟩ := h
    obtain ⟨dh, hh⟩ := R.held
    refine ⟨_, (pss_one (ps_ret (pe_cmp (pc_ge (pe_callB (call_len_seq) (by rfl) T.n_len PySem.boot_len (pa_cons (pe_fld (pv 0) rfl) pa_nil)) (pe_glob (v := .int (1000)) rfl T.c_MOST_CHANNELS ⟨_, rfl⟩))))), ?_⟩
    refine ⟨_, rfl, _, _, dh, _, _, rfl, hh, T.l_Held, T.a_Held_channels, hl_chs, _, _, rfl, .inl (SqL.of R.chs), _, _, rfl, rfl, Qbl k ?_⟩
    rw [List.length_map, List.length_range]
    exact decide_eq_decide.mpr (by omega)
end
end TT
end
section
set_option Elab.async false
set_option linter.all false
set_option maxRecDepth 100000
set_option maxHeartbeats 2000000
open PySem PySem.Spec PyProof.Rows L2
namespace TT
def MS.add (M : MS) (n : Nat) : MS := { M with ks := M.ks ++ [n], st := fun k => if k = n then 0 else M.st k, tg := fun k => if k = n then 0 else M.tg k, val := fun k => if k = n then [0] else M.val k, wt := fun k => if k = n then [] else M.wt k, row := M.row ++ [n] }
def MS.chanOf (M : MS) : List Int → Option Nat
  | [9, z] => if 0 ≤ z ∧ z < M.ch.length then some z.toNat else none
  | _ => none
def MS.taskNo (M : MS) (z : Int) : Option Nat := if 0 ≤ z ∧ z.toNat ∈ M.ks then some z.toNat else none
def MS.taskOf (M : MS) : List Int → Option Nat
  | [8, z] => M.taskNo z
  | _ => none
def vOf (A : Nm) (f : Nat → Role) : Option Nat → V
  | some i => .ref (A (f i))
  | none => .non
def sp_Held_channel_of (a : Ad) : Sp := fun vs H Q _ => ∃ (A : Nm) (W : Wd) (M : MS) (p : Addr) (l : List Int), vs = [.ref (A .held), .ref p] ∧ Rep a H A W M ∧ W p = some l ∧ Q (vOf A .chan (M.chanOf l)) H
def sp_Held_task_of (a : Ad) : Sp := fun vs H Q _ => ∃ (A : Nm) (W : Wd) (M : MS) (p : Addr) (l : List Int), vs = [.ref (A .held), .ref p] ∧ Rep a H A W M ∧ W p = some l ∧ Q (vOf A .task (M.taskOf l)) H
def MS.ask (M : MS) : MS := { M with clk := M.clk.map fun x => (x.1, x.2 + 1) }
def sp_Clock_ask (a : Ad) : Sp := fun vs H Q _ => ∃ (A : Nm) (W : Wd) (M : MS) (rl : List Int) (k : Nat), vs = [.ref (A .clock)] ∧ Rep a H A W M ∧ M.clk = some (rl, k) ∧
  ∀ H', Rep a H' A W M.ask → Keep A M H H' → Q (.int (rl.getD k 0)) H'
def sp_Clock_init (a : Ad) : Sp := fun vs H Q _ => ∃ (x dx p : Addr), vs = [.ref x, .ref p] ∧ H x = some (.ins a.C_Clock dx []) ∧
  ∀ (H' : Hp), H' x = some (.ins a.C_Clock dx (clockF p 0)) → (∀ b o, H b = some o → b ≠ x → H' b = some o) → Q .non H'
theorem val_tkv {A : Nm} (z : Int) : ∀ l : List Nat, valV (tkv A l) (Sum.inl z) = if 0 ≤ z ∧ z.toNat ∈ l then some (V.ref (A (.task z.toNat))) else none
  | [] => by simp [tkv, valV]
  | n :: l => by
    have ih := val_tkv (A := A) z l
    by_cases h : (n : Int) = z
    · have e : z.toNat = n := by omega
      rw [show tkv A (n :: l) = ((Sum.inl (n : Int), V.ref (A (.task n))) : Key × V) :: tkv A l from rfl, valV_pos (by show (Sum.inl (n : Int) : Key) = Sum.inl z; rw [h]), if_pos ⟨by omega, by rw [e]; exact List.mem_cons_self⟩, e]
    · rw [show tkv A (n :: l) = ((Sum.inl (n : Int), V.ref (A (.task n))) : Key × V) :: tkv A l from rfl, valV_neg (by show ¬ (Sum.inl (n : Int) : Key) = Sum.inl z; intro e; exact h (Sum.inl.inj e)), ih]
      by_cases h2 : 0 ≤ z ∧ z.toNat ∈ l
      · rw [if_pos h2, if_pos ⟨h2.1, List.mem_cons_of_mem _ h2.2⟩]
      · rw [if_neg h2, if_neg]
        rintro ⟨h3, h4⟩
        rcases List.mem_cons.mp h4 with e | e
        · exact h (by omega)
        · exact h2 ⟨h3, e⟩
theorem val_task {A : Nm} {M : MS} (z : Int) : (valV (tkv A M.ks) (Sum.inl z)).getD .non = vOf A .task (M.taskNo z) := by
  rw [val_tkv, MS.taskNo]
  by_cases h : 0 ≤ z ∧ z.toNat ∈ M.ks
  · rw [if_pos h, if_pos h]; rfl
  · rw [if_neg h, if_neg h]; rfl
theorem put_tkv {A : Nm} {l : List Nat} {n : Nat} (h : n ∉ l) (v : V) : putK (tkv A l) (Sum.inl (n : Int)) v = tkv A l ++ [(Sum.inl (n : Int), v)] := by
  unfold putK
  rw [if_neg]
  rw [valV_any, val_tkv, if_neg]
  · simp
  · rintro ⟨_, h2⟩
    exact h (by simpa using h2)
section
variable {P : Program} {w : World} {K : PySem.W.Frag} {mg : Str → Option Value} {base : Heap} {a : Ad}
theorem ok_Channel_init (T : Tx K mg a) : FnOk P w K mg base CX0 1 a.f_Channel_init a.d_Channel_init ["self", "room"] (sp_Channel_init a) := by
  refine T.F_Channel_init.ok sc_Channel_init (fun vs H Q E h => ?_) (fun cdv A' outer s H vs Q E hr h => ?_)
  · obtain ⟨x, dx, n, rfl, _⟩ := h
    rfl
  · obtain ⟨x, dx, n, rfl, hx, k⟩ := h
    refine ⟨_, (pss_cons (ps_fld (pv 0) (pv 1) rfl)
      (pss_cons (ps_fld (pv 0) (pe_lst pa_nil) rfl)
      (pss_cons (ps_fld (pv 0) (pe_lst pa_nil) rfl)
      (pss_one (ps_fld (pv 0) (pe_lst pa_nil) rfl))))), ?_⟩
    refine ⟨_, rfl, _, rfl, _, _, dx, _, rfl, hx, T.l_Channel, T.a_Channel_room, (by show 0 < 1000; decide), ?_⟩
    refine ⟨Nat.zero_le _, fun p hp => ?_⟩
    have px : x ≠ p := ne_of_none upd_same hp
    have hp' : H p = none := by rw [upd_ne px.symm] at hp; exact hp
    refine ⟨_, rfl, _, _, dx, _, rfl, (by rw [upd_ne px]; exact upd_same), T.l_Channel, T.a_Channel_kept, (by show 1 < 1000; decide), ?_⟩
    refine ⟨Nat.zero_le _, fun s hs => ?_⟩
    have sx : x ≠ s := ne_of_none upd_same hs
    have sp : p ≠ s := ne_of_none (by rw [upd_ne px.symm]; exact upd_same) hs
    have hs' : H s = none := by rw [upd_ne sx.symm, upd_ne sp.symm, upd_ne sx.symm] at hs; exact hs
    refine ⟨_, rfl, _, _, dx, _, rfl, (by rw [upd_ne sx]; exact upd_same), T.l_Channel, T.a_Channel_senders, (by show 2 < 1000; decide), ?_⟩
    refine ⟨Nat.zero_le _, fun r hr' => ?_⟩
    have rx : x ≠ r := ne_of_none upd_same hr'
    have rs' : s ≠ r := ne_of_none (by rw [upd_ne sx.symm]; exact upd_same) hr'
    have rp : p ≠ r := ne_of_none (by rw [upd_ne px.symm, upd_ne sp, upd_ne px.symm]; exact upd_same) hr'
    have hr2 : H r = none := by rw [upd_ne rx.symm, upd_ne rs'.symm, upd_ne rx.symm, upd_ne rp.symm, upd_ne rx.symm] at hr'; exact hr'
    refine ⟨_, rfl, _, _, dx, _, rfl, (by rw [upd_ne rx]; exact upd_same), T.l_Channel, T.a_Channel_receivers, (by show 3 < 1000; decide), ?_⟩
    refine k _ p s r upd_same hp' hs' hr2 sp rp rs' ?_ ?_ ?_ fun b o e hb => ?_
    · rw [upd_ne px.symm, upd_ne rp, upd_ne px.symm, upd_ne sp, upd_ne px.symm]
      exact upd_same
    · rw [upd_ne sx.symm, upd_ne rs', upd_ne sx.symm]
      exact upd_same
    · rw [upd_ne rx.symm]
      exact upd_same
    · rw [upd_ne hb, upd_ne (ne_of_none e hr2), upd_ne hb, upd_ne (ne_of_none e hs'), upd_ne hb, upd_ne (ne_of_none e hp'), upd_ne hb]
      exact e
theorem ok_Held_begin_anew (T : Tx K mg a) : FnOk P w K mg base CX0 1 a.f_Held_begin_anew a.d_Held_begin_anew ["self", "steps"] (sp_Held_begin_anew a) := by
  refine T.F_Held_begin_anew.ok sc_Held_begin_anew (fun vs H Q E h => ?_) (fun cdv A' outer s H vs Q E hr h => ?_)
  · obtain ⟨x, dx, fs, n, rfl, _⟩ := h
    rfl
  · obtain ⟨x, dx, fs, n, rfl, hx, hfs, k⟩ := h
    have hl : fs.length ≤ 5 := by
      rcases hfs with rfl | ⟨_, _, _, _, _, rfl⟩
      · exact Nat.zero_le _
      · exact Nat.le_refl _
    have l1 := length_putF "steps" (.int n) fs
    refine ⟨_, (pss_cons (ps_fld (pv 0) (pv 1) rfl)
      (pss_cons (ps_fld (pv 0) pe_dnewK rfl)
      (pss_cons (ps_fld (pv 0) (pe_lst pa_nil) rfl)
      (pss_cons (ps_fld (pv 0) (pe_lst pa_nil) rfl)
      (pss_one (ps_fld (pv 0) pe_int rfl)))))), ?_⟩
    refine ⟨_, rfl, _, rfl, _, _, dx, _, rfl, hx, T.l_Held, T.a_Held_steps, (by omega), ?_⟩
    intro t ht
    have tx : x ≠ t := ne_of_none upd_same ht
    have ht' : H t = none := by rw [upd_ne tx.symm] at ht; exact ht
    have l2 := length_putF "tasks" (.ref t) (putF "steps" (.int n) fs)
    refine ⟨_, rfl, _, _, dx, _, rfl, (by rw [upd_ne tx]; exact upd_same), T.l_Held, T.a_Held_tasks, (by omega), ?_⟩
    refine ⟨Nat.zero_le _, fun c hc => ?_⟩
    have cx : x ≠ c := ne_of_none upd_same hc
    have ct : t ≠ c := ne_of_none (by rw [upd_ne tx.symm]; exact upd_same) hc
    have hc' : H c = none := by rw [upd_ne cx.symm, upd_ne ct.symm, upd_ne cx.symm] at hc; exact hc
    have l3 := length_putF "channels" (.ref c) (putF "tasks" (.ref t) (putF "steps" (.int n) fs))
    refine ⟨_, rfl, _, _, dx, _, rfl, (by rw [upd_ne cx]; exact upd_same), T.l_Held, T.a_Held_channels, (by omega), ?_⟩
    refine ⟨Nat.zero_le _, fun r hr' => ?_⟩
    have rx : x ≠ r := ne_of_none upd_same hr'
    have rc : c ≠ r := ne_of_none (by rw [upd_ne cx.symm]; exact upd_same) hr'
    have rt : t ≠ r := ne_of_none (by rw [upd_ne tx.symm, upd_ne ct, upd_ne tx.symm]; exact upd_same) hr'
    have hr2 : H r = none := by rw [upd_ne rx.symm, upd_ne rc.symm, upd_ne rx.symm, upd_ne rt.symm, upd_ne rx.symm] at hr'; exact hr'
    have l4 := length_putF "row" (.ref r) (putF "channels" (.ref c) (putF "tasks" (.ref t) (putF "steps" (.int n) fs)))
    refine ⟨_, rfl, _, _, dx, _, rfl, (by rw [upd_ne rx]; exact upd_same), T.l_Held, T.a_Held_row, (by omega), ?_⟩
    refine ⟨_, rfl, _, _, dx, _, rfl, upd_same, T.l_Held, T.a_Held_now, (by omega), ?_⟩
    show Q .non _
    rw [upd_upd]
    refine k _ t c r ?_ ht' hc' hr2 ct rt rc ?_ ?_ ?_ fun b o e hb => ?_
    · rw [upd_same]
      rcases hfs with rfl | ⟨_, _, _, _, _, rfl⟩
      · rfl
      · rfl
    · rw [upd_ne tx.symm, upd_ne rt, upd_ne tx.symm, upd_ne ct, upd_ne tx.symm]
      exact upd_same
    · rw [upd_ne cx.symm, upd_ne rc, upd_ne cx.symm]
      exact upd_same
    · rw [upd_ne rx.symm]
      exact upd_same
    · rw [upd_ne hb, upd_ne (ne_of_none e hr2), upd_ne hb, upd_ne (ne_of_none e hc'), upd_ne hb, upd_ne (ne_of_none e ht'), upd_ne hb]
      exact e
theorem ok_Held_init (T : Tx K mg a) : FnOk P w K mg base CX0 2 a.f_Held_init a.d_Held_init ["self"] (sp_Held_init a) := by
  refine T.F_Held_init.ok sc_Held_init (fun vs H Q E h => ?_) (fun cdv A' outer s H vs Q E hr h => ?_)
  · obtain ⟨x, dx, rfl, _⟩ := h
    rfl
  · obtain ⟨x, dx, rfl, hx, k⟩ := h
    refine ⟨_, (pss_one (ps_expr (pe_meth (pv 0) T.l_Held T.M_Held_begin_anew (ok_Held_begin_anew T) (hr.mono (by decide)) (b_Held_begin_anew T) .nil pass0 (pa_cons pe_int pa_nil)))), ?_⟩
    exact ⟨_, rfl, _, dx, _, rfl, hx, rfl, x, dx, [], 1, rfl, hx, .inl rfl, k⟩
theorem ok_Clock_init (T : Tx K mg a) : FnOk P w K mg base CX0 1 a.f_Clock_init a.d_Clock_init ["self", "replies"] (sp_Clock_init a) := by
  refine T.F_Clock_init.ok sc_Clock_init (fun vs H Q E h => ?_) (fun cdv A' outer s H vs Q E hr h => ?_)
  · obtain ⟨x, dx, p, rfl, _⟩ := h
    rfl
  · obtain ⟨x, dx, p, rfl, hx, k⟩ := h
    refine ⟨_, (pss_cons (ps_fld (pv 0) (pv 1) rfl)
      (pss_one (ps_fld (pv 0) pe_int rfl))), ?_⟩
    refine ⟨_, rfl, _, rfl, _, _, dx, _, rfl, hx, T.l_Clock, T.a_Clock_replies, (by show 0 < 1000; decide), ?_⟩
    refine ⟨_, rfl, _, _, dx, _, rfl, upd_same, T.l_Clock, T.a_Clock_asked, (by show 1 < 1000; decide), ?_⟩
    show Q .non _
    rw [upd_upd]
    exact k _ upd_same fun b o e hb => by rw [upd_ne hb]; exact e
theorem ok_Held_channel_of (T : Tx K mg a) : FnOk P w K mg base CX0 2 a.f_Held_channel_of a.d_Held_channel_of ["self", "value"] (sp_Held_channel_of a) := by
  refine T.F_Held_channel_of.ok sc_Held_channel_of (fun vs H Q E h => ?_) (fun cdv A' outer s H vs Q E hr h => ?_)
  · obtain ⟨A, W, M, p, l, rfl, _⟩ := h
    rfl
  · obtain ⟨A, W, M, p, l, rfl, R, wp, k⟩ := h
    obtain ⟨dh, hh⟩ := R.held
    have hp := R.val p l wp
    refine ⟨_, (pss_cons (ps_if (PW.pt (pw_and (pt_truth (pe_call (ok_is_of_kind T) (hr.mono (by decide)) rfl T.m_is_of_kind T.F_is_of_kind.kp (b_is_of_kind T) .nil pass0 (pa_cons (pv 1) (pa_cons (pe_glob (v := .int (9)) rfl T.c_CHANNEL_forms ⟨_, rfl⟩) pa_nil))) (fun _ => rfl)) (pw_and1 (pt_chain op_le op_lt pe_int (pe_ix ix_list (pv 1) pe_int (fun _ _ => rfl)) (pe_callB (call_len_seq) (by rfl) T.n_len PySem.boot_len (pa_cons (pe_fld (pv 0) rfl) pa_nil)))))) (pss_one (ps_ret (pe_ix ix_list (pe_fld (pv 0) rfl) (pe_ix ix_list (pv 1) pe_int (fun _ _ => rfl)) (fun _ _ => rfl)))) pss_nil)
      (pss_one (ps_ret pe_non))), ?_⟩
    refine ⟨_, rfl, p, l, 9, rfl, hp, _, rfl, ?_⟩
    refine ite2 (fun h => ?_) (fun h => ?_)
    · have h2 : l.length = 2 := by
        simp only [isKindB, Bool.and_eq_true, decide_eq_true_eq] at h
        exact h.1
      match l, h2, hp, k, h with
      | [x, z], h2, hp, k, h =>
        have h9 : x = 9 := by simpa [isKindB] using h
        subst h9
        refine ⟨_, rfl, p, _, _, _, rfl, rfl, SqL.of hp, atI_nat (j := 1) rfl, _, _, rfl, rfl, _, rfl, ?_⟩
        refine ite2 (fun h0 => ?_) (fun h0 => ?_)
        · rw [decide_eq_true_eq] at h0
          refine ⟨_, rfl, _, _, dh, _, _, rfl, hh, T.l_Held, T.a_Held_channels, hl_chs, _, _, rfl, .inl (SqL.of R.chs), _, _, rfl, rfl, _, rfl, ?_⟩
          refine ite2 (fun h1 => ?_) (fun h1 => ?_)
          · rw [decide_eq_true_eq, List.length_map, List.length_range] at h1
            refine ⟨_, rfl, _, _, dh, _, _, rfl, hh, T.l_Held, T.a_Held_channels, hl_chs, _, rfl, p, _, _, _, rfl, rfl, SqL.of hp, atI_nat (j := 1) rfl, _, _, _, _, rfl, rfl, SqL.of R.chs, at_of (j := z.toNat) (v := V.ref (A (.chan z.toNat))) (by omega) ?_, ?_⟩
            · rw [List.getElem?_map, List.getElem?_range (by omega)]
              rfl
            · have e : M.chanOf [9, z] = some z.toNat := by show (if _ then _ else _) = _; rw [if_pos ⟨h0, h1⟩]
              rw [e] at k
              exact k
          · rw [decide_eq_true_eq, List.length_map, List.length_range] at h1
            have e : M.chanOf [9, z] = none := by show (if _ then _ else _) = _; rw [if_neg (fun q => h1 q.2)]
            rw [e] at k
            exact k
        · rw [decide_eq_true_eq] at h0
          refine ⟨_, rfl, ?_⟩
          refine iteF ?_
          have e : M.chanOf [9, z] = none := by show (if _ then _ else _) = _; rw [if_neg (fun q => h0 q.1)]
          rw [e] at k
          exact k
    · refine iteF ?_
      have e : M.chanOf l = none := by
        unfold MS.chanOf
        split
        · rename_i z
          exact absurd (by simp [isKindB]) h
        · rfl
      rw [e] at k
      exact k
theorem ok_Held_task_of (T : Tx K mg a) : FnOk P w K mg base CX0 2 a.f_Held_task_of a.d_Held_task_of ["self", "value"] (sp_Held_task_of a) := by
  refine T.F_Held_task_of.ok sc_Held_task_of (fun vs H Q E h => ?_) (fun cdv A' outer s H vs Q E hr h => ?_)
  · obtain ⟨A, W, M, p, l, rfl, _⟩ := h
    rfl
  · obtain ⟨A, W, M, p, l, rfl, R, wp, k⟩ := h
    obtain ⟨dh, hh⟩ := R.held
    have hp := R.val p l wp
    refine ⟨_, (pss_cons (ps_if (pt_truth (pe_call (ok_is_of_kind T) (hr.mono (by decide)) rfl T.m_is_of_kind T.F_is_of_kind.kp (b_is_of_kind T) .nil pass0 (pa_cons (pv 1) (pa_cons (pe_glob (v := .int (8)) rfl T.c_TASK ⟨_, rfl⟩) pa_nil))) (fun _ => rfl)) (pss_one (ps_ret (pe_dget1 (hu_of hr) (pe_fld (pv 0) rfl) (pe_ix ix_list (pv 1) pe_int (fun _ _ => rfl)) ⟨rfl, rfl, rfl, rfl⟩))) pss_nil)
      (pss_one (ps_ret pe_non))), ?_⟩
    refine ⟨_, rfl, p, l, 8, rfl, hp, _, rfl, ?_⟩
    refine ite2 (fun h => ?_) (fun h => ?_)
    · have h2 : l.length = 2 := by
        simp only [isKindB, Bool.and_eq_true, decide_eq_true_eq] at h
        exact h.1
      match l, h2, hp, k, h with
      | [x, z], h2, hp, k, h =>
        have h8 : x = 8 := by simpa [isKindB] using h
        subst h8
        refine ⟨_, rfl, _, _, dh, _, _, rfl, hh, T.l_Held, T.a_Held_tasks, hl_tasks, _, rfl, .inl ⟨_, .inl R.tasks⟩, _, rfl, p, _, _, _, rfl, rfl, SqL.of hp, atI_nat (j := 1) rfl, _, DGet.k (k := Sum.inl z) R.tasks, ?_⟩
        rw [val_task]
        exact k
    · have e : M.taskOf l = none := by
        unfold MS.taskOf
        split
        · rename_i z
          exact absurd (by simp [isKindB]) h
        · rfl
      rw [e] at k
      exact k
end
end TT
end
section
set_option Elab.async false
set_option linter.all false
set_option maxRecDepth 100000
set_option maxHeartbeats 2000000
open PySem PySem.Spec PyProof.Rows L2
namespace TT
structure Closed (M : MS) : Prop where
  row : ∀ n ∈ M.row, n ∈ M.ks
  wt : ∀ k ∈ M.ks, ∀ n ∈ M.wt k, n ∈ M.ks
  snd : ∀ (i : Nat) (c : Ch), M.ch[i]? = some c → ∀ n ∈ c.snd, n ∈ M.ks
  rcv : ∀ (i : Nat) (c : Ch), M.ch[i]? = some c → ∀ n ∈ c.rcv, n ∈ M.ks
def MS.add0 (M : MS) (n : Nat) : MS := { M with ks := M.ks ++ [n], st := fun k => if k = n then 0 else M.st k, tg := fun k => if k = n then 0 else M.tg k, val := fun k => if k = n then [0] else M.val k, wt := fun k => if k = n then [] else M.wt k }
theorem add0_ready (M : MS) (n : Nat) : (M.add0 n).ready n = M.add n := by
  unfold MS.ready MS.setSt MS.add0 MS.add
  simp only
  congr 1
  · funext k; by_cases h : k = n <;> simp [h]
  · funext k; by_cases h : k = n <;> simp [h]
def nmAdd (A : Nm) (n : Nat) (x t : Addr) : Nm := fun r => if r = .task n then x else if r = .wait n then t else A r
theorem rs_congr {A A' : Nm} {l : List Nat} (h : ∀ n ∈ l, A' (.task n) = A (.task n)) : rs A' l = rs A l := by
  unfold rs
  exact List.map_congr_left fun n hn => by rw [h n hn]
theorem tkv_congr {A A' : Nm} {l : List Nat} (h : ∀ n ∈ l, A' (.task n) = A (.task n)) : tkv A' l = tkv A l := by
  unfold tkv
  exact List.map_congr_left fun n hn => by rw [h n hn]
section
variable {a : Ad} {H H' H1 : Hp} {A A' : Nm} {W : Wd} {M M' : MS}
theorem Rep.addVal' (R : Rep a H A W M) {p : Addr} {l : List Int} (s : Same H H') (hp : H p = none) (hp' : H' p = some (.lst (l.map V.int))) : Rep a H' A (wput W p l) M := by
  refine ⟨fun r lv => ?_, R.inj, fun q v e => ?_, fun r lv => ?_⟩
  · obtain ⟨o, e, c⟩ := R.at_ r lv
    exact ⟨o, s _ _ e, c.mono (wput_le R hp)⟩
  · unfold wput at e
    by_cases h : q = p
    · rw [if_pos h] at e
      cases e
      rw [h]
      exact hp'
    · rw [if_neg h] at e
      exact s _ _ (R.val q v e)
  · unfold wput
    rw [if_neg (R.neN lv hp)]
    exact R.sep r lv
theorem Rep.grow (R : Rep a H A W M) (N : Role → Prop) (old : ∀ r, live M' r → ¬ N r → live M r ∧ A' r = A r)
    (new : ∀ r, live M' r → N r → (∀ r0, live M r0 → A r0 ≠ A' r) ∧ W (A' r) = none) (injN : ∀ r r', N r → N r' → A' r = A' r' → r = r')
    (at_ : ∀ r, live M' r → ∃ o, H' (A' r) = some o ∧ Cont a A' W M' r o) (val : ∀ p l, W p = some l → H' p = some (.lst (l.map V.int))) : Rep a H' A' W M' := by
  refine ⟨at_, fun r r' l l' e => ?_, val, fun r l => ?_⟩
  · by_cases h : N r
    · by_cases h' : N r'
      · exact injN r r' h h' e
      · obtain ⟨l1, e1⟩ := old r' l' h'
        exact absurd (e1.symm.trans e.symm) ((new r l h).1 r' l1)
    · obtain ⟨l0, e0⟩ := old r l h
      by_cases h' : N r'
      · exact absurd (e0.symm.trans e) ((new r' l' h').1 r l0)
      · obtain ⟨l1, e1⟩ := old r' l' h'
        exact R.inj r r' l0 l1 (e0.symm.trans (e.trans e1))
  · by_cases h : N r
    · exact (new r l h).2
    · obtain ⟨l0, e0⟩ := old r l h
      rw [e0]
      exact R.sep r l0
theorem Rep.noW (R : Rep a H A W M) {p : Addr} (h : H p = none) : W p = none := by
  cases e : W p with
  | none => rfl
  | some l =>
    rw [R.val p l e] at h
    cases h
theorem Rep.addTask (R : Rep a H A W M) (hc : Closed M) {n : Nat} (hn : n ∉ M.ks) {x dx p t : Addr} (s : Same H H1) (nx : H x = none) (np : H p = none) (nt : H t = none) (xp : x ≠ p) (xt : x ≠ t) (pt : p ≠ t)
    (hx : H1 x = some (.ins a.C_Task dx (taskF n 0 0 p t))) (hp : H1 p = some (.lst ([0].map V.int))) (ht : H1 t = some (.lst [])) :
    Rep a (upd H1 (A .tasks) (.dK (tkv A M.ks ++ [(Sum.inl (n : Int), V.ref x)]))) (nmAdd A n x t) (wput W p [0]) (M.add0 n) := by
  have R1 := R.addVal' (l := [0]) s np hp
  have at1 : nmAdd A n x t (.task n) = x := by unfold nmAdd; rw [if_pos rfl]
  have at2 : nmAdd A n x t (.wait n) = t := by unfold nmAdd; rw [if_neg (by intro e; cases e), if_pos rfl]
  have at0 : ∀ r, live M r → nmAdd A n x t r = A r := fun r l => by
    unfold nmAdd
    rw [if_neg, if_neg]
    · intro e; subst e; exact hn l
    · intro e; subst e; exact hn l
  have tk : ∀ k ∈ M.ks, nmAdd A n x t (.task k) = A (.task k) := fun k hk => at0 (.task k) hk
  have nT : ∀ {q : Addr}, H q = none → q ≠ A .tasks := fun {q} h e => R.neN (r := .tasks) trivial h e.symm
  refine R1.grow (fun r => r = .task n ∨ r = .wait n) (fun r l h => ?_) (fun r l h => ?_) (fun r r' h h' e => ?_) (fun r l => ?_) (fun q v e => ?_)
  · have lm : live M r := by
      cases r with
      | task k =>
        rcases List.mem_append.mp l with q | q
        · exact q
        · exact absurd (.inl (by rw [List.mem_singleton.mp q])) h
      | wait k =>
        rcases List.mem_append.mp l with q | q
        · exact q
        · exact absurd (.inr (by rw [List.mem_singleton.mp q])) h
      | _ => exact l
    exact ⟨lm, at0 r lm⟩
  · rcases h with rfl | rfl
    · rw [at1]
      refine ⟨fun r0 l0 => R.neN l0 nx, ?_⟩
      unfold wput
      rw [if_neg xp]
      exact R.noW nx
    · rw [at2]
      refine ⟨fun r0 l0 => R.neN l0 nt, ?_⟩
      unfold wput
      rw [if_neg pt.symm]
      exact R.noW nt
  · rcases h with rfl | rfl <;> rcases h' with rfl | rfl
    · rfl
    · rw [at1, at2] at e; exact absurd e xt
    · rw [at1, at2] at e; exact absurd e.symm xt
    · rfl
  · by_cases hT : r = .tasks
    · subst hT
      refine ⟨_, by rw [at0 .tasks trivial]; exact upd_same, ?_⟩
      show HO.dK _ = HO.dK _
      show _ = HO.dK (tkv (nmAdd A n x t) (M.ks ++ [n]))
      rw [show tkv (nmAdd A n x t) (M.ks ++ [n]) = tkv (nmAdd A n x t) M.ks ++ tkv (nmAdd A n x t) [n] from List.map_append, tkv_congr tk]
      show _ = HO.dK (tkv A M.ks ++ [(Sum.inl (n : Int), V.ref (nmAdd A n x t (.task n)))])
      rw [at1]
    by_cases h1 : r = .task n
    · subst h1
      refine ⟨_, by rw [at1, upd_ne (nT nx)]; exact hx, dx, p, ?_, ?_⟩
      · rw [at2]
        simp only [MS.add0, if_pos rfl, ite_true]
      · rw [wput_at]
        simp only [MS.add0, if_pos rfl, ite_true]
    by_cases h2 : r = .wait n
    · subst h2
      refine ⟨_, by rw [at2, upd_ne (nT nt)]; exact ht, ?_⟩
      show HO.lst [] = HO.lst (rs _ (if n = n then [] else M.wt n))
      rw [if_pos rfl]
      rfl
    have lm : live M r := by
      cases r with
      | task k =>
        rcases List.mem_append.mp l with q | q
        · exact q
        · exact absurd (by rw [List.mem_singleton.mp q]) h1
      | wait k =>
        rcases List.mem_append.mp l with q | q
        · exact q
        · exact absurd (by rw [List.mem_singleton.mp q]) h2
      | _ => exact l
    obtain ⟨o, e, c⟩ := R1.at_ r lm
    refine ⟨o, ?_, ?_⟩
    · rw [at0 r lm, upd_ne (R.ne lm (r' := .tasks) trivial hT)]
      exact e
    · cases r with
      | held =>
        obtain ⟨d, q⟩ := c
        exact ⟨d, by rw [q, at0 .tasks trivial, at0 .chs trivial, at0 .row trivial]; rfl⟩
      | row =>
        show o = HO.lst (rs (nmAdd A n x t) M.row)
        rw [rs_congr fun k hk => tk k (hc.row k hk)]
        exact c
      | tasks => exact absurd rfl hT
      | chs =>
        show o = HO.lst ((List.range M.ch.length).map fun i => V.ref (nmAdd A n x t (.chan i)))
        rw [show o = _ from c]
        congr 1
      | clock => exact c
      | orders => exact c
      | ans => exact c
      | task k =>
        have hk : ¬ k = n := fun e => h1 (by rw [e])
        obtain ⟨d, q, e1, e2⟩ := c
        refine ⟨d, q, ?_, ?_⟩
        · rw [at0 (.wait k) lm]
          simp only [MS.add0, if_neg hk]
          exact e1
        · simp only [MS.add0, if_neg hk]
          exact e2
      | wait k =>
        have hk : ¬ k = n := fun e => h2 (by rw [e])
        show o = HO.lst (rs (nmAdd A n x t) (if k = n then [] else M.wt k))
        rw [if_neg hk, rs_congr fun j hj => tk j (hc.wt k lm j hj)]
        exact c
      | chan i => exact c
      | kept i => exact c
      | snd i =>
        obtain ⟨c1, e1, e2⟩ := c
        exact ⟨c1, e1, by rw [rs_congr fun k hk => tk k (hc.snd i c1 e1 k hk)]; exact e2⟩
      | rcv i =>
        obtain ⟨c1, e1, e2⟩ := c
        exact ⟨c1, e1, by rw [rs_congr fun k hk => tk k (hc.rcv i c1 e1 k hk)]; exact e2⟩
  · rw [upd_ne (fun z => R1.neW (r := .tasks) trivial e z)]
    exact R1.val q v e
theorem AExt.add {n : Nat} {x t : Addr} (hn : n ∉ M.ks) : AExt M A (nmAdd A n x t) := fun r l => by
  unfold nmAdd
  rw [if_neg, if_neg]
  · intro e; subst e; exact hn l
  · intro e; subst e; exact hn l
end
end TT
end
section
set_option Elab.async false
set_option linter.all false
set_option maxRecDepth 100000
set_option maxHeartbeats 2000000
open PySem PySem.Spec PyProof.Rows L2
namespace TT
def lexLtP (x y : Int × Int) : Prop := x.1 < y.1 ∨ (x.1 = y.1 ∧ x.2 < y.2)
def rSortedT (K : PySem.W.Frag) : List V → Hp → VK → Prop := fun vs H Q => ∃ (l : Addr) (f : Addr → Int × Int) (ts : List Addr), vs = [V.ref l] ∧ SqL K H l (ts.map V.ref) ∧ (∀ t ∈ ts, H t = some (.tup [.int (f t).1, .int (f t).2])) ∧
  ∀ (ts' : List Addr) (p : Addr), ts'.Perm ts → ts'.Pairwise (fun x y => ¬ lexLtP (f y) (f x)) → H p = none → Q (.ref p) (upd H p (.lst (ts'.map V.ref)))
def unref : Value → Addr
  | .ref a => a
  | _ => 0
theorem vals_refs : ∀ {ts : List Addr} {its : List Value}, Vals (ts.map V.ref) its → its = ts.map Value.ref
  | [], _, r => by rw [List.map_nil] at r; cases r; rfl
  | t :: ts, _, r => by
    rw [List.map_cons] at r
    cases r with
    | cons h t' =>
      cases (show _ = Value.ref t from h)
      rw [List.map_cons, vals_refs t']
theorem refs_vals : ∀ (ts : List Addr), Vals (ts.map V.ref) (ts.map Value.ref)
  | [] => .nil
  | t :: ts => .cons rfl (refs_vals ts)
def noText : Nat → Bool := fun _ => false
theorem key_at {h : Heap} {t : Addr} {o : Obj} {xs : Array Value} {n : Nat} {i j : Int} {t1 t2 : Tok} (ho : h.get? t = some o) (hc : o.cls = .type "tuple") (hd : o.data = .seq xs n) (hx : xs.toList = [.int i t1, .int j t2]) :
    G.tupKeyC h noText (.ref t) = some [Sum.inl i, Sum.inl j] := by
  unfold G.tupKeyC
  have e1 : G.isTupObj h (.ref t) = true := by simp [G.isTupObj, ho, hc]
  rw [if_pos e1]
  simp only [tupKey, ho, hd, hx]
  rfl
theorem lex_pair {i j k l : Int} (h : lexLt itemOrd [Sum.inl i, Sum.inl j] [Sum.inl k, Sum.inl l] = false) : ¬ lexLtP (i, j) (k, l) := by
  have e : lexLt itemOrd [Sum.inl i, Sum.inl j] [Sum.inl k, Sum.inl l] = (decide (i < k) || (!decide (k < i) && (decide (j < l) || (!decide (l < j) && false)))) := rfl
  rw [e] at h
  rintro (h1 | ⟨h1, h2⟩)
  · simp [show i < k from h1] at h
  · have h1' : i = k := h1
    have h2' : j < l := h2
    subst h1'
    simp [h2'] at h
section
variable {X : Cx}
theorem cr_sortedT : CallR X (.builtin "sorted") (rSortedT X.K) := by
  intro pins s σ H vs us Q I r h
  obtain ⟨l, f, ts, rfl, hs, ht, q⟩ := h
  obtain ⟨its, rv, hl, hz⟩ := I.list hs
  rw [Vals.ref1 r]
  have ei := vals_refs rv
  subst ei
  rw [List.length_map] at hz
  have keys : ∀ t ∈ ts, ∃ (o : Obj) (xs : Array Value) (n : Nat) (t1 t2 : Tok), s.heap.get? t = some o ∧ o.cls = .type "tuple" ∧ o.data = .seq xs n ∧ xs.toList = [.int (f t).1 t1, .int (f t).2 t2] := fun t hm => by
    obtain ⟨_, its', rv', o, ho, hc, n, hd⟩ := I.hok t _ (ht t hm)
    obtain ⟨u, v, e, ⟨t1, e1⟩, ⟨t2, e2⟩⟩ := rv'.two
    subst e e1 e2
    exact ⟨o, _, n, t1, t2, ho, hc, hd, rfl⟩
  have keyC : ∀ t ∈ ts, G.tupKeyC s.heap noText (.ref t) = some [Sum.inl (f t).1, Sum.inl (f t).2] := fun t hm => by
    obtain ⟨o, xs, n, t1, t2, ho, hc, hd, hx⟩ := keys t hm
    exact key_at ho hc hd hx
  have firsts : ∀ ts0 : List Addr, (∀ t ∈ ts0, t ∈ ts) → ∃ fs, TupsOf s.heap noText (ts0.map Value.ref) fs := by
    intro ts0
    induction ts0 with
    | nil => intro _; exact ⟨[], .nil⟩
    | cons t ts0 ih =>
      intro hm
      obtain ⟨fs, hfs⟩ := ih fun x hx => hm x (List.mem_cons_of_mem _ hx)
      obtain ⟨o, xs, n, t1, t2, ho, hc, hd, hx⟩ := keys t (hm t List.mem_cons_self)
      refine ⟨.int (f t).1 t1 :: fs, .cons ⟨t, o, xs, n, rfl, ho, hc, hd, ?_, fun _ => ⟨_, _, rfl⟩, fun e => absurd e (by decide)⟩ hfs⟩
      rw [← Array.getElem?_toList, hx]
      rfl
  obtain ⟨fs, hfs⟩ := firsts ts fun _ h => h
  refine G.sorted_tups (shape := noText) (vs := ts.map Value.ref) hl.isList hfs (fun v hv => ?_) (by rw [List.length_map]; exact hz) fun st' hp hsrt _ => ?_
  · obtain ⟨t, hm, rfl⟩ := List.mem_map.mp hv
    exact ⟨_, keyC t hm⟩
  generalize hout : (arrOf st').map (·.2) = out
  have hpl : (arrOf st').toList.Perm ((ts.map Value.ref).zip (ts.map Value.ref)) := by
    have e := Array.perm_iff_toList_perm.mp hp
    rw [pairsOf_toList] at e
    exact e
  have pairEq : ∀ p ∈ (arrOf st').toList, ∃ t ∈ ts, p = (Value.ref t, Value.ref t) := fun p hm => by
    have e := hpl.mem_iff.mp hm
    obtain ⟨i, hi, e2⟩ := List.getElem_of_mem e
    rw [List.getElem_zip, List.getElem_map] at e2
    exact ⟨_, List.getElem_mem _, e2.symm⟩
  have hol : out.toList = (arrOf st').toList.map (·.2) := by rw [← hout, Array.toList_map]
  have hzs : ∀ l : List Value, (l.zip l).map (·.2) = l := fun l => by induction l with
    | nil => rfl
    | cons x l ih => rw [List.zip_cons_cons, List.map_cons, ih]
  have hop : out.toList.Perm (ts.map Value.ref) := by
    rw [hol]
    have e := hpl.map (·.2)
    rw [hzs] at e
    exact e
  have htp : (out.toList.map unref).Perm ts := by
    have e := hop.map unref
    rw [List.map_map, show unref ∘ Value.ref = id from rfl, List.map_id] at e
    exact e
  have hback : (out.toList.map unref).map Value.ref = out.toList := by
    rw [List.map_map]
    refine (List.map_congr_left (g := id) fun v hv => ?_).trans (List.map_id _)
    obtain ⟨t, _, rfl⟩ := List.mem_map.mp (hop.mem_iff.mp hv)
    rfl
  have hlen : (out.toList.map unref).length = (arrOf st').size := by rw [hol, List.length_map, List.length_map, Array.length_toList]
  have hsz : (arrOf st').size = ts.length := by
    have e := hpl.length_eq
    rw [Array.length_toList, List.length_zip, List.length_map, Nat.min_self] at e
    exact e
  have hpw : (out.toList.map unref).Pairwise (fun x y => ¬ lexLtP (f y) (f x)) := by
    rw [List.pairwise_iff_getElem]
    intro i j hi hj hij
    have hj' : j < (arrOf st').size := by rw [← hlen]; exact hj
    have hi' : i < (arrOf st').size := by rw [← hlen]; exact hi
    have at_ : ∀ (m : Nat) (hm : m < (arrOf st').size) (hm2 : m < (out.toList.map unref).length), KK (G.tupKindC s.heap noText) (arrOf st') m = [Sum.inl (f (out.toList.map unref)[m]).1, Sum.inl (f (out.toList.map unref)[m]).2] := by
      intro m hm hm2
      obtain ⟨t, htm, e⟩ := pairEq (arrOf st')[m] (by rw [← Array.getElem_toList]; exact List.getElem_mem _)
      have e2 : (out.toList.map unref)[m] = t := by
        rw [List.getElem_map]
        have e3 : out.toList[m]'(by rw [List.length_map] at hm2; exact hm2) = (arrOf st')[m].2 := by
          simp only [hol, List.getElem_map, Array.getElem_toList]
        rw [e3, e]
        rfl
      unfold KK
      rw [Array.getElem?_eq_getElem hm, e]
      show (G.tupKeyC s.heap noText (Value.ref t)).getD [] = _
      rw [keyC t htm, e2]
      rfl
    have e := hsrt i j (Nat.le_of_lt hij) (by rw [pairsOf_size, List.length_map, ← hsz]; exact hj')
    rw [at_ i hi' hi, at_ j hj' hj] at e
    exact lex_pair (show lexLt itemOrd _ _ = false from e)
  obtain ⟨ep, he'⟩ := PyProof.Rows.sortedAll_at s.heap (ts.map Value.ref) out
  refine ⟨.ref _, upd H (s.heap.objs.size + 1) (.lst ((out.toList.map unref).map V.ref)), I.laid (t' := s.toks) (fun _ _ => PyProof.Rows.sortedAll_old) (Nat.le_succ _) ⟨?_, out.toList, ep, ?_, he'⟩, rfl, q _ _ htp hpw (I.hok.fresh (Nat.le_succ _))⟩
  · rw [List.length_map, htp.length_eq]
    exact hz
  · have e := refs_vals (out.toList.map unref)
    rw [hback] at e
    exact e
end
def rSortedI (K : PySem.W.Frag) : List V → Hp → VK → Prop := fun vs H Q => ∃ (l : Addr) (ns : List Int), vs = [V.ref l] ∧ SqL K H l (ns.map V.int) ∧
  ∀ (ns' : List Int) (p : Addr), ns'.Perm ns → ns'.Pairwise (fun x y => x ≤ y) → H p = none → Q (.ref p) (upd H p (.lst (ns'.map V.int)))
section
variable {X : Cx}
theorem cr_sortedI : CallR X (.builtin "sorted") (rSortedI X.K) := by
  intro pins s σ H vs us Q I r h
  obtain ⟨l, ns, rfl, hs, q⟩ := h
  obtain ⟨its, rv, hl, hz⟩ := I.list hs
  rw [Vals.ref1 r]
  have hi := rv.ints
  rw [List.length_map] at hz
  refine PyProof.Rows.sorted_intsAny hl.isList hi (by rw [hi.length]; exact hz) fun out ns' h1 h2 h3 => ?_
  obtain ⟨ep, he'⟩ := PyProof.Rows.sortedAll_at s.heap its out
  refine ⟨.ref _, upd H (s.heap.objs.size + 1) (.lst (ns'.map V.int)), I.laid (t' := s.toks) (fun _ _ => PyProof.Rows.sortedAll_old) (Nat.le_succ _) ⟨?_, out.toList, ep, vals_of_ints h1, he'⟩, rfl, q ns' _ h2 h3 (I.hok.fresh (Nat.le_succ _))⟩
  rw [List.length_map, h2.length_eq]
  exact hz
end
end TT
end
section
set_option Elab.async false
set_option linter.all false
set_option maxRecDepth 100000
set_option maxHeartbeats 2000000
open PySem PySem.Spec PyProof.Rows L2
namespace TT
def sp_Held_add_task (a : Ad) : Sp := fun vs H Q _ => ∃ (A : Nm) (W : Wd) (M : MS) (n : Nat), vs = [.ref (A .held), .int n] ∧ Rep a H A W M ∧ Closed M ∧ n ∉ M.ks ∧ M.ks.length < 100000 ∧ M.row.length < 100000 ∧
  ∀ H' A' W', Rep a H' A' W' (M.add n) → WLe W W' → AExt M A A' → Keep A M H H' → (∀ r, live (M.add n) r → live M r ∨ H (A' r) = none) → Q .non H'
def busyB (M : MS) (n : Nat) : Bool := decide (M.st n = 1) || decide (M.st n = 2)
def endedB (M : MS) (n : Nat) : Bool := decide (M.st n = 7) || decide (M.st n = 8)
def sp_Held_is_busy (a : Ad) : Sp := fun vs H Q _ => ∃ (A : Nm) (W : Wd) (M : MS), vs = [.ref (A .held)] ∧ Rep a H A W M ∧ M.ks.length < 100000 ∧ ∀ H', Same H H' → Q (.bl (M.ks.any (busyB M))) H'
def sp_Held_all_have_ended (a : Ad) : Sp := fun vs H Q _ => ∃ (A : Nm) (W : Wd) (M : MS), vs = [.ref (A .held)] ∧ Rep a H A W M ∧ M.ks.length < 100000 ∧ ∀ H', Same H H' → Q (.bl (M.ks.all (endedB M))) H'
def slLt (M : MS) (x y : Nat) : Prop := M.tg x < M.tg y ∨ (M.tg x = M.tg y ∧ x < y)
structure Sleep (M : MS) (l : List Nat) : Prop where
  perm : l.Perm (M.ks.filter fun n => decide (M.st n = 6))
  ord : l.Pairwise fun x y => ¬ slLt M y x
def sp_Held_sleepers (a : Ad) : Sp := fun vs H Q _ => ∃ (A : Nm) (W : Wd) (M : MS), vs = [.ref (A .held)] ∧ Rep a H A W M ∧ M.ks.length < 100000 ∧
  ∀ H' p l, Same H H' → H p = none → Sleep M l → H' p = some (.lst (rs A l)) → Q (.ref p) H'
theorem lc_vals {d : Addr} {o : Obj} {kvs : List (Key × V)} {g : TG} {tt : TT} {te : TE} {vs : List Nat} {σ : L2.St} {H1 : Hp} {D : Addr} {Qd : Hp → Prop} (Pv : Nat → Hp → Prop) (h0 : Pv 0 (upd H1 D (.lst []))) (hl : ∀ i H, i ≤ kvs.length → Pv i H → H d = some (.frz o (.dK kvs)))
    (hs : ∀ i k x H, kvs[i]? = some (k, x) → Pv i H → g x (wipe σ vs) H fun σ2 H2 => wipe σ2 vs = wipe σ vs ∧ tt σ2 H2 fun b H3 =>
      if b = true then te σ2 H3 fun y H4 => ∃ acc, H4 D = some (.lst acc) ∧ acc.length < sizeLine ∧ Pv (i + 1) (upd H4 D (.lst (acc ++ [y]))) else Pv (i + 1) H3) (hd : ∀ H, Pv kvs.length H → Qd H) :
    ∃ W : Nat → Nat → Hp → Prop, (∃ m, W 0 m (upd H1 D (.lst []))) ∧ ∀ i m H, W i m H →
      ((Itd d o kvs).stop i H ∧ Qd H) ∨ ((Itd d o kvs).go i H ∧ ∃ Nx : Hp → Prop, (∀ H', Nx H' → ∃ m', m' < m ∧ W (i + 1) m' H') ∧ ∀ x H', (Itd d o kvs).yld i H x H' → g x (wipe σ vs) H' fun σ2 H2 => wipe σ2 vs = wipe σ vs ∧ tt σ2 H2 fun b H3 =>
        if b = true then te σ2 H3 fun y H4 => ∃ acc, H4 D = some (.lst acc) ∧ acc.length < sizeLine ∧ Nx (upd H4 D (.lst (acc ++ [y]))) else Nx H3) := by
  refine ⟨fun i m H => m = kvs.length - i ∧ i ≤ kvs.length ∧ Pv i H, ⟨kvs.length, by simp, Nat.zero_le _, h0⟩, ?_⟩
  rintro i m H ⟨rfl, hi, p⟩
  have q := hl i H hi p
  by_cases hlt : i < kvs.length
  · refine .inr ⟨⟨q, hlt⟩, Pv (i + 1), fun H' p' => ⟨kvs.length - (i + 1), by omega, rfl, hlt, p'⟩, fun x H' y => ?_⟩
    obtain ⟨e, k, y⟩ := y
    subst e
    exact hs i k x _ y p
  · have e : i = kvs.length := by omega
    subst e
    exact .inl ⟨⟨q, Nat.le_refl _⟩, hd H p⟩
theorem take_snoc {α : Type} : ∀ {l : List α} {i : Nat} {x : α}, l[i]? = some x → l.take (i + 1) = l.take i ++ [x]
  | [], i, x, h => by simp at h
  | a :: l, 0, x, h => by
    have e : a = x := Option.some.inj h
    subst e
    rfl
  | a :: l, i + 1, x, h => by
    have ih := take_snoc (l := l) (i := i) (x := x) h
    show a :: l.take (i + 1) = a :: l.take i ++ [x]
    rw [ih]
    rfl
theorem tkv_at {A : Nm} {l : List Nat} {i : Nat} {k : Key} {x : V} (h : (tkv A l)[i]? = some (k, x)) : ∃ n, l[i]? = some n ∧ x = V.ref (A (.task n)) := by
  unfold tkv at h
  rw [List.getElem?_map] at h
  cases e : l[i]? with
  | none => rw [e] at h; cases h
  | some n =>
    rw [e] at h
    exact ⟨n, rfl, (congrArg Prod.snd (Option.some.inj h)).symm⟩
theorem upd_back {H H' : Hp} {d : Addr} {u v : HO} (h : H d = some u) (s : ∀ b o, (upd H d v) b = some o → b ≠ d → H' b = some o) : Same H (upd H' d u) := fun b o e => by
  by_cases hb : b = d
  · subst hb
    rw [upd_same, ← e, h]
  · rw [upd_ne hb]
    exact s b o (by rw [upd_ne hb]; exact e) hb
section
variable {P : Program} {w : World} {K : PySem.W.Frag} {mg : Str → Option Value} {base : Heap} {a : Ad}
theorem ok_Held_add_task (T : Tx K mg a) : FnOk P w K mg base CX0 4 a.f_Held_add_task a.d_Held_add_task ["self", "number"] (sp_Held_add_task a) := by
  refine T.F_Held_add_task.ok sc_Held_add_task (fun vs H Q E h => ?_) (fun cdv A' outer s H vs Q E hr h => ?_)
  · obtain ⟨A, W, M, n, rfl, _⟩ := h
    rfl
  · obtain ⟨A, W, M, n, rfl, R, hc, hn, hk, hz, k⟩ := h
    refine ⟨_, (pss_cons (ps_set (i := 2) sc_Held_add_task.nd rfl (Or.inl rfl) (pe_make T.k_Task (ok_Task_init T) (hr.mono (by decide)) rfl T.m_Task (b_Task_init T) .nil pass0 (pa_cons (pv 1) pa_nil)))
      (pss_cons (ps_dput (hu_of hr) (pe_fld (pv 0) rfl) (pv 1) (pv 2) rfl)
      (pss_one (ps_expr (pe_meth (pv 0) T.l_Held T.M_Held_make_ready (ok_Held_make_ready T) (hr.mono (by decide)) (b_Held_make_ready T) .nil pass0 (pa_cons (pv 2) pa_nil)))))), ?_⟩
    refine ⟨_, rfl, ?_⟩
    intro x dx nx nd nxd
    refine ⟨x, dx, n, rfl, upd_same, fun H1 p t hx np nt pt hp ht kp => ⟨rfl, ?_⟩⟩
    have np' : H p = none := by
      cases e : H p with
      | none => rfl
      | some o => rw [upd_ne (ne_of_none e nx), upd_ne (ne_of_none e nd), e] at np; cases np
    have nt' : H t = none := by
      cases e : H t with
      | none => rfl
      | some o => rw [upd_ne (ne_of_none e nx), upd_ne (ne_of_none e nd), e] at nt; cases nt
    have xp : x ≠ p := ne_of_none upd_same np
    have xt : x ≠ t := ne_of_none upd_same nt
    have s1 : Same H H1 := Same.made nx nd kp
    obtain ⟨dh, hh⟩ := R.held
    refine ⟨_, rfl, _, rfl, _, _, dh, _, _, rfl, s1 _ _ hh, T.l_Held, T.a_Held_tasks, hl_tasks, _, rfl, _, _, rfl, DPut.k (k := Sum.inl (n : Int)) (s1 _ _ R.tasks) (big (by rw [tkv, List.length_map]; exact hk)), ?_⟩
    rw [put_tkv hn]
    have R2 := R.addTask hc hn s1 nx np' nt' xp xt pt hx hp ht
    have ax : AExt M A (nmAdd A n x t) := AExt.add hn
    obtain ⟨dh2, hh2⟩ := R2.held
    have eh : nmAdd A n x t .held = A .held := ax .held trivial
    have et : nmAdd A n x t (.task n) = x := by unfold nmAdd; rw [if_pos rfl]
    rw [eh] at hh2
    refine ⟨_, rfl, _, dh2, _, rfl, hh2, rfl, _, rfl, nmAdd A n x t, wput W p [0], M.add0 n, n, ?_, R2, ?_, hz, fun H3 R3 k3 => ?_⟩
    · show _ = [V.ref (nmAdd A n x t .held), V.ref (nmAdd A n x t (.task n))]
      rw [eh, et]
      rfl
    · exact List.mem_append_right _ (List.mem_singleton.mpr rfl)
    · rw [add0_ready] at R3
      have fr : ∀ r, live (M.add0 n) r → live M r ∨ H (nmAdd A n x t r) = none := fun r l => by
        by_cases lm : live M r
        · exact .inl lm
        refine .inr ?_
        cases r with
        | task j =>
          rcases List.mem_append.mp l with q | q
          · exact absurd q lm
          · rw [List.mem_singleton.mp q, et]
            exact nx
        | wait j =>
          rcases List.mem_append.mp l with q | q
          · exact absurd q lm
          · rw [List.mem_singleton.mp q, show nmAdd A n x t (.wait n) = t by unfold nmAdd; rw [if_neg (by intro e; cases e), if_pos rfl]]
            exact nt'
        | _ => exact absurd l lm
      refine k H3 _ _ R3 (wput_le R np') ax ?_ fun r l => fr r (by cases r <;> exact l)
      refine Keep.trans (A' := nmAdd A n x t) (M' := M.add0 n) ((Keep.of_same s1).more .tasks trivial) k3 fun r l => ?_
      rcases fr r l with lm | z
      · exact .inl ⟨r, lm, (ax r lm).symm⟩
      · exact .inr z
theorem ok_Held_is_busy (T : Tx K mg a) : FnOk P w K mg base CX0 1 a.f_Held_is_busy a.d_Held_is_busy ["self"] (sp_Held_is_busy a) := by
  refine T.F_Held_is_busy.ok sc_Held_is_busy (fun vs H Q E h => ?_) (fun cdv A' outer s H vs Q E hr h => ?_)
  · obtain ⟨A, W, M, rfl, _⟩ := h
    rfl
  · obtain ⟨A, W, M, rfl, R, hk, k⟩ := h
    obtain ⟨dh, hh⟩ := R.held
    refine ⟨_, (pss_one (ps_ret (pe_callB (cr_any rfl) (by rfl) T.n_any PyProof.Rows.boot_any (pa_cons (pe_lock (pe_lc rfl sc_Held_is_busy.nd (pi_values (pe_fld (pv 0) rfl)) (own := [("task", 1)]) (g := gName 1) (tt := tYes) (te := (tOrV (tEqI (tFld K (tVar 1) "state") (tC (.int (1)))) (tEqI (tFld K (tVar 1) "state") (tC (.int (2)))))) (blkOk_by rfl) (fun _ _ _ _ _ => pg_name (i := 1) sc_Held_is_busy.nd rfl (Or.inl rfl)) (fun _ _ _ _ _ => pts_nil) (fun _ _ _ _ _ => (pe_or (pe_cmp (pc_eqI (pe_fld (pv 1) rfl) (pe_glob (v := .int (1)) rfl T.c_GOING ⟨_, rfl⟩))) (pe_one (pe_cmp (pc_eqI (pe_fld (pv 1) rfl) (pe_glob (v := .int (2)) rfl T.c_SPAWNING ⟨_, rfl⟩)))))))) pa_nil)))), ?_⟩
    refine ⟨A .tasks, _, R.tasks, trivial, fun od => ?_⟩
    have hT : A .held ≠ A .tasks := R.ne trivial trivial (by decide)
    refine ⟨_, rfl, _, _, dh, _, _, rfl, (by rw [upd_ne hT]; exact hh), T.l_Held, T.a_Held_tasks, hl_tasks, _, od, _, rfl, upd_same, fun D hD => ?_⟩
    have DT : D ≠ A .tasks := fun e => by rw [e, upd_same] at hD; cases hD
    refine lc_vals (fun i H' => (∀ b o, (upd H (A .tasks) (.frz od (.dK (tkv A M.ks)))) b = some o → H' b = some o) ∧ H' D = some (.lst ((M.ks.take i).map fun n => V.bl (busyB M n)))) ⟨fun b o e => ?_, upd_same⟩ (fun i H' _ ⟨p, _⟩ => p _ _ upd_same) ?_ ?_
    · rw [upd_ne (ne_of_none e hD)]; exact e
    · rintro i kk x H' hi ⟨p, hd⟩
      obtain ⟨n, hn, rfl⟩ := tkv_at hi
      have nk : n ∈ M.ks := List.mem_of_getElem? hn
      obtain ⟨dt, pv', ht, _⟩ := R.task nk
      have ht' : H' (A (.task n)) = _ := p _ _ (by rw [upd_ne (R.ne (r := .task n) (r' := .tasks) nk trivial (by intro e; cases e))]; exact ht)
      refine ⟨rfl, ?_⟩
      have fin : ∀ b' : Bool, b' = busyB M n → ∃ acc, H' D = some (.lst acc) ∧ acc.length < sizeLine ∧ ((∀ b o, (upd H (A .tasks) (.frz od (.dK (tkv A M.ks)))) b = some o → (upd H' D (.lst (acc ++ [V.bl b']))) b = some o) ∧ (upd H' D (.lst (acc ++ [V.bl b']))) D = some (.lst ((M.ks.take (i + 1)).map fun n => V.bl (busyB M n)))) := by
        rintro b' rfl
        refine ⟨_, hd, big (by rw [List.length_map, List.length_take]; exact Nat.lt_of_le_of_lt (Nat.min_le_right _ _) hk), fun b o e => ?_, ?_⟩
        · rw [upd_ne (ne_of_none e hD)]
          exact p b o e
        · rw [upd_same, take_snoc hn, List.map_append]
          rfl
      refine ⟨_, rfl, _, _, dt, _, _, rfl, ht', T.l_Task, T.a_Task_state, tl_state, _, _, rfl, rfl, _, rfl, ?_⟩
      refine ite2 (fun h => fin true ?_) (fun h => ⟨_, rfl, _, _, dt, _, _, rfl, ht', T.l_Task, T.a_Task_state, tl_state, _, _, rfl, rfl, fin _ ?_⟩)
      · have h' : decide (M.st n = 1) = true := h
        rw [busyB, h', Bool.true_or]
      · have h' : ¬ decide (M.st n = 1) = true := h
        rw [Bool.not_eq_true] at h'
        rw [busyB, h', Bool.false_or]
    · rintro H' ⟨p, hd⟩
      refine ⟨p _ _ upd_same, _, M.ks.map (busyB M), rfl, ?_, ?_⟩
      · refine SqL.of ?_
        rw [upd_ne DT, hd, tkv, List.length_map, List.take_length, List.map_map]
        rfl
      · rw [List.any_map]
        exact k _ (upd_back R.tasks fun b o e hb => p b o e)
theorem ok_Held_all_have_ended (T : Tx K mg a) : FnOk P w K mg base CX0 2 a.f_Held_all_have_ended a.d_Held_all_have_ended ["self"] (sp_Held_all_have_ended a) := by
  refine T.F_Held_all_have_ended.ok sc_Held_all_have_ended (fun vs H Q E h => ?_) (fun cdv A' outer s H vs Q E hr h => ?_)
  · obtain ⟨A, W, M, rfl, _⟩ := h
    rfl
  · obtain ⟨A, W, M, rfl, R, hk, k⟩ := h
    obtain ⟨dh, hh⟩ := R.held
    refine ⟨_, (pss_one (ps_ret (pe_callB (cr_all rfl) (by rfl) T.n_all PyProof.Rows.boot_all (pa_cons (pe_lock (pe_lc rfl sc_Held_all_have_ended.nd (pi_values (pe_fld (pv 0) rfl)) (own := [("task", 1)]) (g := gName 1) (tt := tYes) (te := (tMeth a.C_Task "has_ended" (sp_Task_has_ended a) [] E0 (tVar 1) tNil)) (blkOk_by rfl) (fun _ _ _ _ _ => pg_name (i := 1) sc_Held_all_have_ended.nd rfl (Or.inl rfl)) (fun _ _ _ _ _ => pts_nil) (fun _ _ _ _ _ => (pe_meth0 (pv 1) T.l_Task T.M_Task_has_ended (ok_Task_has_ended T) (hr.mono (by decide)) (b_Task_has_ended T) .nil pass0)))) pa_nil)))), ?_⟩
    refine ⟨A .tasks, _, R.tasks, trivial, fun od => ?_⟩
    have hT : A .held ≠ A .tasks := R.ne trivial trivial (by decide)
    refine ⟨_, rfl, _, _, dh, _, _, rfl, (by rw [upd_ne hT]; exact hh), T.l_Held, T.a_Held_tasks, hl_tasks, _, od, _, rfl, upd_same, fun D hD => ?_⟩
    have DT : D ≠ A .tasks := fun e => by rw [e, upd_same] at hD; cases hD
    refine lc_vals (fun i H' => (∀ b o, (upd H (A .tasks) (.frz od (.dK (tkv A M.ks)))) b = some o → H' b = some o) ∧ H' D = some (.lst ((M.ks.take i).map fun n => V.bl (endedB M n)))) ⟨fun b o e => ?_, upd_same⟩ (fun i H' _ ⟨p, _⟩ => p _ _ upd_same) ?_ ?_
    · rw [upd_ne (ne_of_none e hD)]; exact e
    · rintro i kk x H' hi ⟨p, hd⟩
      obtain ⟨n, hn, rfl⟩ := tkv_at hi
      have nk : n ∈ M.ks := List.mem_of_getElem? hn
      obtain ⟨dt, pv', ht, _⟩ := R.task nk
      have ht' : H' (A (.task n)) = _ := p _ _ (by rw [upd_ne (R.ne (r := .task n) (r' := .tasks) nk trivial (by intro e; cases e))]; exact ht)
      refine ⟨rfl, ?_⟩
      refine ⟨_, rfl, _, dt, _, rfl, ht', rfl, _, dt, n, _, _, _, _, rfl, ht', ?_⟩
      refine ⟨_, hd, big (by rw [List.length_map, List.length_take]; exact Nat.lt_of_le_of_lt (Nat.min_le_right _ _) hk), fun b o e => ?_, ?_⟩
      · rw [upd_ne (ne_of_none e hD)]
        exact p b o e
      · rw [upd_same, take_snoc hn, List.map_append]
        rfl
    · rintro H' ⟨p, hd⟩
      refine ⟨p _ _ upd_same, _, M.ks.map (endedB M), rfl, ?_, ?_⟩
      · refine SqL.of ?_
        rw [upd_ne DT, hd, tkv, List.length_map, List.take_length, List.map_map]
        rfl
      · rw [List.all_map]
        exact k _ (upd_back R.tasks fun b o e hb => p b o e)
end
end TT
end
section
set_option Elab.async false
set_option linter.all false
set_option maxRecDepth 100000
set_option maxHeartbeats 2000000
open PySem PySem.Spec PyProof.Rows L2
namespace TT
def tupOf : Option HO → Int × Int
  | some (.tup [.int x, .int y]) => (x, y)
  | _ => (0, 0)
def TupsAt (M : MS) (H : Hp) (ts : List Addr) (l : List Nat) : Prop := Paired (fun t (n : Nat) => H t = some (.tup [.int (M.tg n), .int n])) ts l
theorem TupsAt.map {M : MS} {H : Hp} {ts : List Addr} {l : List Nat} (h : TupsAt M H ts l) : ts.map (fun t => (tupOf (H t)).2.toNat) = l ∧ ∀ t ∈ ts, H t = some (.tup [.int (tupOf (H t)).1, .int (tupOf (H t)).2]) ∧ tupOf (H t) = (M.tg (tupOf (H t)).2.toNat, ((tupOf (H t)).2.toNat : Int)) := by
  induction h with
  | nil => exact ⟨rfl, fun t h => nomatch h⟩
  | @cons t n ts l e _ ih =>
    have e2 : tupOf (H t) = (M.tg n, (n : Int)) := by rw [e]; rfl
    refine ⟨?_, fun t' h => ?_⟩
    · rw [List.map_cons, ih.1, e2]
      simp
    · rcases List.mem_cons.mp h with rfl | h
      · rw [e2]
        exact ⟨e, by simp⟩
      · exact ih.2 t' h
theorem TupsAt.mono {M : MS} {H H' : Hp} {ts : List Addr} {l : List Nat} (h : TupsAt M H ts l) (s : ∀ t xs, H t = some (.tup xs) → H' t = some (.tup xs)) : TupsAt M H' ts l := Paired.mapP h fun t n e => s t _ e
theorem TupsAt.snoc {M : MS} {H : Hp} {ts : List Addr} {l : List Nat} {t : Addr} {n : Nat} (h : TupsAt M H ts l) (e : H t = some (.tup [.int (M.tg n), .int n])) : TupsAt M H (ts ++ [t]) (l ++ [n]) := by
  induction h with
  | nil => exact .cons e .nil
  | cons h _ ih => exact .cons h ih
theorem TupsAt.length {M : MS} {H : Hp} {ts : List Addr} {l : List Nat} (h : TupsAt M H ts l) : ts.length = l.length := Paired.length h
section
variable {P : Program} {w : World} {K : PySem.W.Frag} {mg : Str → Option Value} {base : Heap} {a : Ad}
theorem ok_Clock_ask (T : Tx K mg a) : FnOk P w K mg base CX0 1 a.f_Clock_ask a.d_Clock_ask ["self"] (sp_Clock_ask a) := by
  refine T.F_Clock_ask.ok sc_Clock_ask (fun vs H Q E h => ?_) (fun cdv A' outer s H vs Q E hr h => ?_)
  · obtain ⟨A, W, M, rl, i, rfl, _⟩ := h
    rfl
  · obtain ⟨A, W, M, rl, i, rfl, R, hc, k⟩ := h
    obtain ⟨dc, p, hk, wp⟩ := R.clock hc
    have hp := R.val p rl wp
    have lv : live M .clock := by show M.clk.isSome = true; rw [hc]; rfl
    have R2 : Rep a (upd H (A .clock) (.ins a.C_Clock dc (clockF p (i + 1)))) A W M.ask := by
      refine R.put (r0 := .clock) lv (fun r l => ?_) ⟨rl, i + 1, by simp [MS.ask, hc], dc, p, rfl, wp⟩ fun r hr l o c' => ?_
      · cases r with
        | clock => exact lv
        | _ => exact l
      · cases r <;> first | exact c' | exact absurd rfl hr
    refine ⟨_, (pss_cons (ps_set (i := 1) sc_Clock_ask.nd rfl (Or.inl rfl) pe_int)
      (pss_cons (ps_if (pt_cmp (pc_lt (pe_fld (pv 0) rfl) (pe_callB (call_len_seq) (by rfl) T.n_len PySem.boot_len (pa_cons (pe_fld (pv 0) rfl) pa_nil)))) (pss_one (ps_set (i := 1) sc_Clock_ask.nd rfl (Or.inl rfl) (pe_ix ix_list (pe_fld (pv 0) rfl) (pe_fld (pv 0) rfl) (fun _ _ => rfl)))) pss_nil)
      (pss_cons (ps_fld (pv 0) (pe_op op_add (pe_fld (pv 0) rfl) pe_int) rfl)
      (pss_one (ps_ret (pv 1)))))), ?_⟩
    refine ⟨_, rfl, _, _, dc, _, _, rfl, hk, T.l_Clock, T.a_Clock_asked, kl_asked, _, rfl, _, _, dc, _, _, rfl, hk, T.l_Clock, T.a_Clock_replies, kl_replies, _, _, rfl, .inl (SqL.of hp), _, _, rfl, rfl, _, rfl, ?_⟩
    have fin : ∀ z : Int, z = rl.getD i 0 → Q (.int z) (upd H (A .clock) (.ins a.C_Clock dc (clockF p (i + 1)))) := fun z e => by
      rw [e]
      exact k _ R2 (Keep.put (r0 := .clock) lv)
    refine ite2 (fun h => ?_) (fun h => ?_)
    · rw [decide_eq_true_eq, List.length_map] at h
      have hi : i < rl.length := by omega
      refine ⟨_, rfl, _, _, dc, _, _, rfl, hk, T.l_Clock, T.a_Clock_replies, kl_replies, _, rfl, _, _, dc, _, _, rfl, hk, T.l_Clock, T.a_Clock_asked, kl_asked, _, _, _, _, rfl, rfl, SqL.of hp, atI_nat (j := i) (v := V.int rl[i]) ?_, ?_⟩
      · rw [List.getElem?_map, List.getElem?_eq_getElem hi]
        rfl
      · refine ⟨_, rfl, _, _, dc, _, _, rfl, hk, T.l_Clock, T.a_Clock_asked, kl_asked, _, _, rfl, rfl, _, rfl, _, _, dc, _, rfl, hk, T.l_Clock, T.a_Clock_asked, (by show 2 < 1000; decide), ?_⟩
        refine ⟨_, rfl, ?_⟩
        refine fin _ ?_
        rw [List.getD_eq_getElem?_getD, List.getElem?_eq_getElem hi]
        rfl
    · rw [decide_eq_true_eq, List.length_map] at h
      refine ⟨_, rfl, _, _, dc, _, _, rfl, hk, T.l_Clock, T.a_Clock_asked, kl_asked, _, _, rfl, rfl, _, rfl, _, _, dc, _, rfl, hk, T.l_Clock, T.a_Clock_asked, (by show 2 < 1000; decide), ?_⟩
      refine ⟨_, rfl, ?_⟩
      refine fin _ ?_
      rw [List.getD_eq_getElem?_getD, List.getElem?_eq_none (by omega)]
      rfl
theorem ok_Held_sleepers (T : Tx K mg a) : FnOk P w K mg base CX0 1 a.f_Held_sleepers a.d_Held_sleepers ["self"] (sp_Held_sleepers a) := by
  refine T.F_Held_sleepers.ok sc_Held_sleepers (fun vs H Q E h => ?_) (fun cdv A' outer s H vs Q E hr h => ?_)
  · obtain ⟨A, W, M, rfl, _⟩ := h
    rfl
  · obtain ⟨A, W, M, rfl, R, hk, k⟩ := h
    obtain ⟨dh, hh⟩ := R.held
    refine ⟨_, (pss_cons (ps_lock (ps_setLc (i := 1) (hc := rfl) (hN := sc_Held_sleepers.nd) (hy := rfl) (hyl := rfl) (sw_true rfl rfl rfl rfl) (pi_values (pe_fld (pv 0) rfl)) (own := [("task", 2)]) (g := gName 2) (tt := (tB (tEqI (tFld K (tVar 2) "state") (tC (.int (6)))))) (te := (tTup (tCons (tFld K (tVar 2) "target") (tCons (tFld K (tVar 2) "number") tNil)))) (blkOk_by rfl) (fun _ _ _ _ _ => pg_name (i := 2) sc_Held_sleepers.nd rfl (Or.inl rfl)) (fun _ _ _ _ _ => (pts_one (pt_cmp (pc_eqI (pe_fld (pv 2) rfl) (pe_glob (v := .int (6)) rfl T.c_AWAITING_TIME ⟨_, rfl⟩))))) (fun _ _ _ _ _ => (pe_tup (pa_cons (pe_fld (pv 2) rfl) (pa_cons (pe_fld (pv 2) rfl) pa_nil))))))
      (pss_one (ps_ret (pe_lc rfl sc_Held_sleepers.nd (pi_list (pe_callB (cr_sortedT) (by rfl) T.n_sorted PyProof.Rows.boot_sorted (pa_cons (pv 1) pa_nil))) (own := [("pair", 3)]) (g := gName 3) (tt := tYes) (te := (tDGet (tFld K (tVar 0) "tasks") (tOp (rIxT K) (tVar 3) (tC (.int (1)))))) (blkOk_by rfl) (fun _ _ _ _ _ => pg_name (i := 3) sc_Held_sleepers.nd rfl (Or.inl rfl)) (fun _ _ _ _ _ => pts_nil) (fun _ _ _ _ _ => (pe_dget (hu_of hr) (pe_fld (pv 0) rfl) (pe_ix ix_tup (pv 3) pe_int (fun _ _ => rfl)) (fun _ _ => rfl))))))), ?_⟩
    refine ⟨A .tasks, _, R.tasks, trivial, fun od => ?_⟩
    have hT : A .held ≠ A .tasks := R.ne trivial trivial (by decide)
    refine ⟨_, rfl, _, _, dh, _, _, rfl, (by rw [upd_ne hT]; exact hh), T.l_Held, T.a_Held_tasks, hl_tasks, _, od, _, rfl, upd_same, fun D hD => ?_⟩
    have DT : D ≠ A .tasks := fun e => by rw [e, upd_same] at hD; cases hD
    have nD : H D = none := by rw [upd_ne DT] at hD; exact hD
    refine lc_vals (fun i H' => (∀ b o, (upd H (A .tasks) (.frz od (.dK (tkv A M.ks)))) b = some o → H' b = some o) ∧ ∃ ts, H' D = some (.lst (ts.map V.ref)) ∧ TupsAt M H' ts ((M.ks.take i).filter fun n => decide (M.st n = 6)))
      ⟨fun b o e => ?_, [], upd_same, .nil⟩ (fun i H' _ ⟨p, _⟩ => p _ _ upd_same) ?_ ?_
    · rw [upd_ne (ne_of_none e hD)]; exact e
    · rintro i kk x H' hi ⟨p, ts, hd, tt⟩
      obtain ⟨n, hn, rfl⟩ := tkv_at hi
      have nk : n ∈ M.ks := List.mem_of_getElem? hn
      obtain ⟨dt, pv', ht, _⟩ := R.task nk
      have ht' : H' (A (.task n)) = _ := p _ _ (by rw [upd_ne (R.ne (r := .task n) (r' := .tasks) nk trivial (by intro e; cases e))]; exact ht)
      have hlen : ts.length < 100000 := by
        rw [tt.length]
        exact Nat.lt_of_le_of_lt (Nat.le_trans (List.length_filter_le _ _) (by rw [List.length_take]; exact Nat.min_le_right _ _)) hk
      refine ⟨rfl, ?_⟩
      refine ⟨_, rfl, _, _, dt, _, _, rfl, ht', T.l_Task, T.a_Task_state, tl_state, _, _, rfl, rfl, _, rfl, ?_⟩
      refine ite2 (fun h => ?_) (fun h => ?_)
      · have h6 : M.st n = 6 := by simpa using h
        refine ⟨_, rfl, _, _, dt, _, _, rfl, ht', T.l_Task, T.a_Task_target, tl_target, _, rfl, _, _, dt, _, _, rfl, ht', T.l_Task, T.a_Task_number, tl_number, (by show 2 ≤ sizeLine; decide), fun q hq => ?_⟩
        have qD : D ≠ q := ne_of_none hd hq
        refine ⟨_, by rw [upd_ne qD]; exact hd, big (by rw [List.length_map]; exact hlen), fun b o e => ?_, ts ++ [q], ?_, ?_⟩
        · rw [upd_ne (ne_of_none e hD), upd_ne (ne_of_none (p b o e) hq)]
          exact p b o e
        · rw [upd_same, List.map_append]
          rfl
        · rw [take_snoc hn, List.filter_append, List.filter_cons, if_pos (by simpa using h6), List.filter_nil]
          refine TupsAt.snoc (tt.mono fun t xs e => ?_) ?_
          · rw [upd_ne (ne_of e hd (by intro z; cases z)), upd_ne (ne_of_none e hq)]
            exact e
          · rw [upd_ne qD.symm]
            exact upd_same
      · have h6 : ¬ M.st n = 6 := by simpa using h
        refine ⟨p, ts, hd, ?_⟩
        rw [take_snoc hn, List.filter_append, List.filter_cons, if_neg (by simpa using h6), List.filter_nil, List.append_nil]
        exact tt
    · rintro H' ⟨p, ts, hd, tt⟩
      rw [tkv, List.length_map, List.take_length] at tt
      refine ⟨p _ _ upd_same, ?_⟩
      have s1 : Same H (upd H' (A .tasks) (.dK (tkv A M.ks))) := upd_back R.tasks fun b o e hb => p b o e
      have hd1 : (upd H' (A .tasks) (.dK (tkv A M.ks))) D = some (.lst (ts.map V.ref)) := by rw [upd_ne DT]; exact hd
      have tt1 : TupsAt M (upd H' (A .tasks) (.dK (tkv A M.ks))) ts (M.ks.filter fun n => decide (M.st n = 6)) := tt.mono fun t xs e => by
        rw [upd_ne (ne_of e (p _ _ upd_same) (by intro z; cases z))]
        exact e
      generalize upd H' (A .tasks) (.dK (tkv A M.ks)) = H1 at s1 hd1 tt1 ⊢
      obtain ⟨mp, me⟩ := tt1.map
      refine ⟨_, rfl, D, fun t => tupOf (H1 t), ts, rfl, SqL.of hd1, fun t ht => (me t ht).1, fun ts' S hp hpw hS => ⟨S, rfl, ⟨_, SqL.of upd_same⟩, fun D2 hD2 => ?_⟩⟩
      have sS : Same H1 (upd H1 S (.lst (ts'.map V.ref))) := same_new hS
      have S2 : S ≠ D2 := ne_of_none upd_same hD2
      have gk : ∀ t ∈ ts', (tupOf (H1 t)).2.toNat ∈ M.ks := fun t ht => by
        have e : (tupOf (H1 t)).2.toNat ∈ M.ks.filter fun n => decide (M.st n = 6) := by
          rw [← mp]
          exact List.mem_map.mpr ⟨t, hp.mem_iff.mp ht, rfl⟩
        exact (List.mem_filter.mp e).1
      refine lc_list (K := K) (a := S) (xs := ts'.map V.ref) (fun i H' => Same (upd H1 S (.lst (ts'.map V.ref))) H' ∧ H' D2 = some (.lst (rs A ((ts'.take i).map fun t => (tupOf (H1 t)).2.toNat))))
        ⟨same_new hD2, upd_same⟩ (fun i H' _ ⟨p2, _⟩ => SqL.of (p2 _ _ upd_same)) ?_ ?_
      · rintro i x H' hi ⟨p2, hd2⟩
        obtain ⟨t, ht, rfl⟩ : ∃ t, ts'[i]? = some t ∧ x = V.ref t := by
          rw [List.getElem?_map] at hi
          cases e : ts'[i]? with
          | none => rw [e] at hi; cases hi
          | some t => rw [e] at hi; exact ⟨t, rfl, (Option.some.inj hi).symm⟩
        have tm : t ∈ ts' := List.mem_of_getElem? ht
        obtain ⟨m1, m2⟩ := me t (hp.mem_iff.mp tm)
        have nk := gk t tm
        refine ⟨rfl, ?_⟩
        refine ⟨_, rfl, _, _, dh, _, _, rfl, p2 _ _ (sS _ _ (s1 _ _ hh)), T.l_Held, T.a_Held_tasks, hl_tasks, _, rfl, t, _, _, _, rfl, rfl, SqT.of (p2 _ _ (sS _ _ m1)), atI_nat (j := 1) rfl, _, V.ref (A (.task (tupOf (H1 t)).2.toNat)), rfl, ?_, ?_⟩
        · have e := DGet.k (H := H') (a := A .tasks) (k := Sum.inl (tupOf (H1 t)).2) (p2 _ _ (sS _ _ (s1 _ _ R.tasks)))
          rw [val_tkv, if_pos ⟨by rw [m2]; exact Int.natCast_nonneg _, nk⟩] at e
          exact e
        · refine ⟨_, hd2, big (m := 100000) ?_, ?_, ?_⟩
          · rw [rs, List.length_map, List.length_map, List.length_take]
            refine Nat.lt_of_le_of_lt (Nat.min_le_right _ _) ?_
            rw [hp.length_eq, tt.length]
            exact Nat.lt_of_le_of_lt (List.length_filter_le _ _) hk
          · intro b o e
            rw [upd_ne (ne_of_none e hD2)]
            exact p2 b o e
          · rw [upd_same, take_snoc ht, List.map_append, rs, rs, List.map_append]
            rfl
      · rintro H' ⟨p2, hd2⟩
        rw [List.length_map, List.take_length] at hd2
        refine k H' D2 (ts'.map fun t => (tupOf (H1 t)).2.toNat) ((s1.trans sS).trans p2) ?_ ⟨?_, ?_⟩ hd2
        · exact (s1.trans sS).free hD2
        · have e := hp.map (fun t => (tupOf (H1 t)).2.toNat)
          rw [mp] at e
          exact e
        · rw [List.pairwise_map]
          refine hpw.imp_of_mem fun {x y} hx hy h => ?_
          have ex1 := congrArg Prod.fst (me x (hp.mem_iff.mp hx)).2
          have ey1 := congrArg Prod.fst (me y (hp.mem_iff.mp hy)).2
          have ex2 := congrArg Prod.snd (me x (hp.mem_iff.mp hx)).2
          have ey2 := congrArg Prod.snd (me y (hp.mem_iff.mp hy)).2
          dsimp only at ex1 ey1 ex2 ey2
          rintro (h1 | ⟨h1, h2⟩)
          · refine h (.inl ?_)
            show (tupOf (H1 y)).1 < (tupOf (H1 x)).1
            rw [ex1, ey1]
            exact h1
          · refine h (.inr ⟨?_, ?_⟩)
            · show (tupOf (H1 y)).1 = (tupOf (H1 x)).1
              rw [ex1, ey1]
              exact h1
            · show (tupOf (H1 y)).2 < (tupOf (H1 x)).2
              omega
end
end TT
end
section
set_option Elab.async false
set_option linter.all false
set_option maxRecDepth 100000
set_option maxHeartbeats 2000000
open PySem PySem.Spec PyProof.Rows L2
namespace TT
def needsB (M : MS) (n : Nat) : Bool := decide (M.st n = 3) || (decide (M.st n = 4) || decide (M.st n = 5))
def sp_Task_needs_another (a : Ad) : Sp := fun vs H Q _ => ∃ (x dx : Addr) (n : Nat) (s g : Int) (p t : Addr), vs = [.ref x] ∧ H x = some (.ins a.C_Task dx (taskF n s g p t)) ∧ Q (.bl (decide (s = 3) || (decide (s = 4) || decide (s = 5)))) H
structure Stuck (M : MS) (l : List Nat) : Prop where
  perm : l.Perm (M.ks.filter (needsB M))
  ord : l.Pairwise fun x y => x ≤ y
def sp_Held_stuck_tasks (a : Ad) : Sp := fun vs H Q _ => ∃ (A : Nm) (W : Wd) (M : MS), vs = [.ref (A .held)] ∧ Rep a H A W M ∧ M.ks.length < 100000 ∧
  ∀ H' p l, Same H H' → H p = none → Stuck M l → H' p = some (.lst (rs A l)) → Q (.ref p) H'
def ringM (M : MS) (t : Nat) : Nat → Nat → Bool
  | 0, _ => false
  | f + 1, o => if M.st o = 5 then (if (M.tg o).toNat = t then true else ringM M t f (M.tg o).toNat) else false
def JoinOk (M : MS) : Prop := ∀ n ∈ M.ks, M.st n = 5 → 0 ≤ M.tg n ∧ (M.tg n).toNat ∈ M.ks
def sp_is_in_ring (a : Ad) : Sp := fun vs H Q _ => ∃ (A : Nm) (W : Wd) (M : MS) (n : Nat), vs = [.ref (A .held), .ref (A (.task n))] ∧ Rep a H A W M ∧ n ∈ M.ks ∧ JoinOk M ∧ M.ks.length < 100000 ∧ Q (.bl (ringM M n M.ks.length n)) H
section
variable {P : Program} {w : World} {K : PySem.W.Frag} {mg : Str → Option Value} {base : Heap} {a : Ad}
theorem ok_Task_needs_another (T : Tx K mg a) : FnOk P w K mg base CX0 1 a.f_Task_needs_another a.d_Task_needs_another ["self"] (sp_Task_needs_another a) := by
  refine T.F_Task_needs_another.ok sc_Task_needs_another (fun vs H Q E h => ?_) (fun cdv A' outer s H vs Q E hr h => ?_)
  · obtain ⟨x, dx, n, s, g, p, t, rfl, _⟩ := h
    rfl
  · obtain ⟨x, dx, n, s, g, p, t, rfl, hx, k⟩ := h
    refine ⟨_, (pss_one (ps_ret (pe_or (pe_cmp (pc_eqI (pe_fld (pv 0) rfl) (pe_glob (v := .int (3)) rfl T.c_SENDING ⟨_, rfl⟩))) (pe_or (pe_cmp (pc_eqI (pe_fld (pv 0) rfl) (pe_glob (v := .int (4)) rfl T.c_RECEIVING ⟨_, rfl⟩))) (pe_one (pe_cmp (pc_eqI (pe_fld (pv 0) rfl) (pe_glob (v := .int (5)) rfl T.c_AWAITING_END ⟨_, rfl⟩)))))))), ?_⟩
    refine ⟨_, rfl, x, _, dx, _, _, rfl, hx, T.l_Task, T.a_Task_state, tl_state, _, _, rfl, rfl, _, rfl, ?_⟩
    refine ite2 (fun h => Qbl k ?_) (fun h => ?_)
    · have h' : decide (s = 3) = true := h
      rw [h', Bool.true_or]
    have h3 : ¬ decide (s = 3) = true := h
    rw [Bool.not_eq_true] at h3
    refine ⟨_, rfl, x, _, dx, _, _, rfl, hx, T.l_Task, T.a_Task_state, tl_state, _, _, rfl, rfl, _, rfl, ?_⟩
    refine ite2 (fun h => Qbl k ?_) (fun h => ⟨_, rfl, x, _, dx, _, _, rfl, hx, T.l_Task, T.a_Task_state, tl_state, _, _, rfl, rfl, Qbl k ?_⟩)
    · have h' : decide (s = 4) = true := h
      rw [h3, h', Bool.false_or, Bool.true_or]
    · have h' : ¬ decide (s = 4) = true := h
      rw [Bool.not_eq_true] at h'
      rw [h3, h', Bool.false_or, Bool.false_or]
theorem ok_Held_stuck_tasks (T : Tx K mg a) : FnOk P w K mg base CX0 2 a.f_Held_stuck_tasks a.d_Held_stuck_tasks ["self"] (sp_Held_stuck_tasks a) := by
  refine T.F_Held_stuck_tasks.ok sc_Held_stuck_tasks (fun vs H Q E h => ?_) (fun cdv A' outer s H vs Q E hr h => ?_)
  · obtain ⟨A, W, M, rfl, _⟩ := h
    rfl
  · obtain ⟨A, W, M, rfl, R, hk, k⟩ := h
    obtain ⟨dh, hh⟩ := R.held
    refine ⟨_, (pss_cons (ps_lock (ps_setLc (i := 1) (hc := rfl) (hN := sc_Held_stuck_tasks.nd) (hy := rfl) (hyl := rfl) (sw_true rfl rfl rfl rfl) (pi_values (pe_fld (pv 0) rfl)) (own := [("task", 2)]) (g := gName 2) (tt := (fun σ H Q => (tMeth a.C_Task "needs_another" (sp_Task_needs_another a) [] E0 (tVar 2) tNil) σ H fun x H' => ∃ k, TruV K x H' k ∧ Q k H')) (te := (tFld K (tVar 2) "number")) (blkOk_by rfl) (fun _ _ _ _ _ => pg_name (i := 2) sc_Held_stuck_tasks.nd rfl (Or.inl rfl)) (fun _ _ _ _ _ => (pts_one (pt_truth (pe_meth0 (pv 2) T.l_Task T.M_Task_needs_another (ok_Task_needs_another T) (hr.mono (by decide)) (b_Task_needs_another T) .nil pass0) (fun _ => rfl)))) (fun _ _ _ _ _ => (pe_fld (pv 2) rfl))))
      (pss_one (ps_ret (pe_lc rfl sc_Held_stuck_tasks.nd (pi_list (pe_callB (cr_sortedI) (by rfl) T.n_sorted PyProof.Rows.boot_sorted (pa_cons (pv 1) pa_nil))) (own := [("number", 3)]) (g := gName 3) (tt := tYes) (te := (tDGet (tFld K (tVar 0) "tasks") (tVar 3))) (blkOk_by rfl) (fun _ _ _ _ _ => pg_name (i := 3) sc_Held_stuck_tasks.nd rfl (Or.inl rfl)) (fun _ _ _ _ _ => pts_nil) (fun _ _ _ _ _ => (pe_dget (hu_of hr) (pe_fld (pv 0) rfl) (pv 3) (fun _ _ => rfl))))))), ?_⟩
    refine ⟨A .tasks, _, R.tasks, trivial, fun od => ?_⟩
    have hT : A .held ≠ A .tasks := R.ne trivial trivial (by decide)
    refine ⟨_, rfl, _, _, dh, _, _, rfl, (by rw [upd_ne hT]; exact hh), T.l_Held, T.a_Held_tasks, hl_tasks, _, od, _, rfl, upd_same, fun D hD => ?_⟩
    have DT : D ≠ A .tasks := fun e => by rw [e, upd_same] at hD; cases hD
    have nD : H D = none := by rw [upd_ne DT] at hD; exact hD
    refine lc_vals (g := gName 2) (tt := fun σ H Q => (tMeth a.C_Task "needs_another" (sp_Task_needs_another a) [] E0 (tVar 2) tNil) σ H fun x H' => ∃ k, TruV K x H' k ∧ Q k H') (te := tFld K (tVar 2) "number") (fun i H' => (∀ b o, (upd H (A .tasks) (.frz od (.dK (tkv A M.ks)))) b = some o → H' b = some o) ∧ H' D = some (.lst (((M.ks.take i).filter (needsB M)).map fun (n : Nat) => V.int n)))
      ⟨fun b o e => ?_, upd_same⟩ (fun i H' _ ⟨p, _⟩ => p _ _ upd_same) ?_ ?_
    · rw [upd_ne (ne_of_none e hD)]; exact e
    · rintro i kk x H' hi ⟨p, hd⟩
      obtain ⟨n, hn, rfl⟩ := tkv_at hi
      have nk : n ∈ M.ks := List.mem_of_getElem? hn
      obtain ⟨dt, pv', ht, _⟩ := R.task nk
      have ht' : H' (A (.task n)) = _ := p _ _ (by rw [upd_ne (R.ne (r := .task n) (r' := .tasks) nk trivial (by intro e; cases e))]; exact ht)
      have hlen : ((M.ks.take i).filter (needsB M)).length < 100000 := Nat.lt_of_le_of_lt (Nat.le_trans (List.length_filter_le _ _) (by rw [List.length_take]; exact Nat.min_le_right _ _)) hk
      refine ⟨rfl, ?_⟩
      refine ⟨_, rfl, _, dt, _, rfl, ht', rfl, _, dt, n, _, _, _, _, rfl, ht', _, rfl, ?_⟩
      refine ite2 (fun h => ?_) (fun h => ?_)
      · have h6 : needsB M n = true := h
        refine ⟨_, rfl, _, _, dt, _, _, rfl, ht', T.l_Task, T.a_Task_number, tl_number, _, hd, big (by rw [List.length_map]; exact hlen), fun b o e => ?_, ?_⟩
        · rw [upd_ne (ne_of_none e hD)]
          exact p b o e
        · rw [upd_same, take_snoc hn, List.filter_append, List.filter_cons, if_pos h6, List.filter_nil, List.map_append]
          rfl
      · have h6 : ¬ needsB M n = true := h
        refine ⟨p, ?_⟩
        rw [take_snoc hn, List.filter_append, List.filter_cons, if_neg h6, List.filter_nil, List.append_nil]
        exact hd
    · rintro H' ⟨p, hd⟩
      rw [tkv, List.length_map, List.take_length] at hd
      refine ⟨p _ _ upd_same, ?_⟩
      have s1 : Same H (upd H' (A .tasks) (.dK (tkv A M.ks))) := upd_back R.tasks fun b o e hb => p b o e
      have hd1 : (upd H' (A .tasks) (.dK (tkv A M.ks))) D = some (.lst (((M.ks.filter (needsB M)).map fun (n : Nat) => (n : Int)).map V.int)) := by
        rw [upd_ne DT, hd, List.map_map]
        rfl
      generalize upd H' (A .tasks) (.dK (tkv A M.ks)) = H1 at s1 hd1 ⊢
      refine ⟨_, rfl, D, _, rfl, SqL.of hd1, fun ns' S hp hpw hS => ⟨S, rfl, ⟨_, SqL.of upd_same⟩, fun D2 hD2 => ?_⟩⟩
      have sS : Same H1 (upd H1 S (.lst (ns'.map V.int))) := same_new hS
      have gk : ∀ z ∈ ns', 0 ≤ z ∧ z.toNat ∈ M.ks := fun z hz => by
        obtain ⟨n, hn, e⟩ := List.mem_map.mp (hp.mem_iff.mp hz)
        have e' : (n : Int) = z := e
        rw [← e']
        exact ⟨Int.natCast_nonneg _, (List.mem_filter.mp hn).1⟩
      refine lc_list (K := K) (a := S) (xs := ns'.map V.int) (fun i H' => Same (upd H1 S (.lst (ns'.map V.int))) H' ∧ H' D2 = some (.lst (rs A ((ns'.take i).map Int.toNat))))
        ⟨same_new hD2, upd_same⟩ (fun i H' _ ⟨p2, _⟩ => SqL.of (p2 _ _ upd_same)) ?_ ?_
      · rintro i x H' hi ⟨p2, hd2⟩
        obtain ⟨z, hz, rfl⟩ : ∃ z, ns'[i]? = some z ∧ x = V.int z := by
          rw [List.getElem?_map] at hi
          cases e : ns'[i]? with
          | none => rw [e] at hi; cases hi
          | some t => rw [e] at hi; exact ⟨t, rfl, (Option.some.inj hi).symm⟩
        obtain ⟨z0, zk⟩ := gk z (List.mem_of_getElem? hz)
        refine ⟨rfl, ?_⟩
        refine ⟨_, rfl, _, _, dh, _, _, rfl, p2 _ _ (sS _ _ (s1 _ _ hh)), T.l_Held, T.a_Held_tasks, hl_tasks, _, rfl, _, V.ref (A (.task z.toNat)), rfl, ?_, ?_⟩
        · have e := DGet.k (H := H') (a := A .tasks) (k := Sum.inl z) (p2 _ _ (sS _ _ (s1 _ _ R.tasks)))
          rw [val_tkv, if_pos ⟨z0, zk⟩] at e
          exact e
        · refine ⟨_, hd2, big (m := 100000) ?_, ?_, ?_⟩
          · rw [rs, List.length_map, List.length_map, List.length_take]
            refine Nat.lt_of_le_of_lt (Nat.min_le_right _ _) ?_
            rw [hp.length_eq, List.length_map]
            exact Nat.lt_of_le_of_lt (List.length_filter_le _ _) hk
          · intro b o e
            rw [upd_ne (ne_of_none e hD2)]
            exact p2 b o e
          · rw [upd_same, take_snoc hz, List.map_append, rs, rs, List.map_append]
            rfl
      · rintro H' ⟨p2, hd2⟩
        rw [List.length_map, List.take_length] at hd2
        refine k H' D2 (ns'.map Int.toNat) ((s1.trans sS).trans p2) ?_ ⟨?_, ?_⟩ hd2
        · exact (s1.trans sS).free hD2
        · have e := hp.map Int.toNat
          rw [List.map_map, show (Int.toNat ∘ fun (n : Nat) => (n : Int)) = id from funext fun n => Int.toNat_natCast n, List.map_id] at e
          exact e
        · rw [List.pairwise_map]
          exact hpw.imp fun {x y} h => Int.toNat_le_toNat h
theorem ok_is_in_ring (T : Tx K mg a) : FnOk P w K mg base CX0 1 a.f_is_in_ring a.d_is_in_ring ["held", "task"] (sp_is_in_ring a) := by
  refine T.F_is_in_ring.ok sc_is_in_ring (fun vs H Q E h => ?_) (fun cdv A' outer s H vs Q E hr h => ?_)
  · obtain ⟨A, W, M, n, rfl, _⟩ := h
    rfl
  · obtain ⟨A, W, M, n, rfl, R, hn, hj, hk, k⟩ := h
    have fin : ∀ b : Bool, b = ringM M n M.ks.length n → Q (.bl b) H := fun b e => e ▸ k
    obtain ⟨dh, hh⟩ := R.held
    obtain ⟨dn, pn, htn, _⟩ := R.task hn
    have el : (((tkv A M.ks).length : Nat) : Int).toNat = M.ks.length := by rw [Int.toNat_natCast, tkv, List.length_map]
    refine ⟨_, (pss_cons (ps_set (i := 2) sc_is_in_ring.nd rfl (Or.inl rfl) (pv 1))
      (pss_cons (ps_for PassesOwn.never rfl (pi_range1 rfl T.n_range (pa_cons (pe_callB (call_lenD) (by rfl) T.n_len PySem.boot_len (pa_cons (pe_fld (pv 0) rfl) pa_nil)) pa_nil)) (pg_name (i := 3) sc_is_in_ring.nd rfl (Or.inl rfl)) (pss_cons (ps_if (pt_cmp (pc_neI (pe_fld (pv 2) rfl) (pe_glob (v := .int (5)) rfl T.c_AWAITING_END ⟨_, rfl⟩))) (pss_one (ps_ret pe_bl)) pss_nil)
      (pss_cons (ps_set (i := 2) sc_is_in_ring.nd rfl (Or.inl rfl) (pe_dget (hu_of hr) (pe_fld (pv 0) rfl) (pe_fld (pv 2) rfl) (fun _ _ => rfl)))
      (pss_one (ps_if (pt_cmp (pc_eqI (pe_fld (pv 2) rfl) (pe_fld (pv 1) rfl))) (pss_one (ps_ret pe_bl)) pss_nil)))))
      (pss_one (ps_ret pe_bl)))), ?_⟩
    refine ⟨_, rfl, _, rfl, _, _, dh, _, _, rfl, hh, T.l_Held, T.a_Held_tasks, hl_tasks, _, _, rfl, R.tasks, _, rfl, ?_, ?_, ?_⟩
    · have : (0 : Int) ≤ ((tkv A M.ks).length : Nat) := Int.natCast_nonneg _
      omega
    · have : (tkv A M.ks).length = M.ks.length := by rw [tkv, List.length_map]
      omega
    rw [el]
    refine for_range (fun i σ H' => H' = H ∧ ∃ (o : Nat) (v3 : Option V), σ = [some (.ref (A .held)), some (.ref (A (.task n))), some (.ref (A (.task o))), v3] ∧ o ∈ M.ks ∧ ringM M n (M.ks.length - i) o = ringM M n M.ks.length n)
      ⟨rfl, n, none, rfl, hn, rfl⟩ ?_ ?_
    · rintro i σ H' hi ⟨rfl, o, v3, rfl, ho, hring⟩
      obtain ⟨f, hf⟩ : ∃ f, M.ks.length - i = f + 1 := ⟨M.ks.length - i - 1, by omega⟩
      have hf' : M.ks.length - (i + 1) = f := by omega
      rw [hf, ringM] at hring
      obtain ⟨dt, pt, ht, _⟩ := R.task ho
      refine ⟨_, rfl, _, _, dt, _, _, rfl, ht, T.l_Task, T.a_Task_state, tl_state, _, _, rfl, rfl, _, rfl, ?_⟩
      refine ite2 (fun h => ?_) (fun h => ?_)
      · have h5 : ¬ M.st o = 5 := by simpa using h
        rw [if_neg h5] at hring
        exact fin false hring
      have h5 : M.st o = 5 := by simpa using h
      rw [if_pos h5] at hring
      obtain ⟨j0, j1⟩ := hj o ho h5
      obtain ⟨du, pu, hu, _⟩ := R.task j1
      refine ⟨_, rfl, _, _, dh, _, _, rfl, hh, T.l_Held, T.a_Held_tasks, hl_tasks, _, rfl, _, _, dt, _, _, rfl, ht, T.l_Task, T.a_Task_target, tl_target, _, V.ref (A (.task (M.tg o).toNat)), rfl, ?_, ?_⟩
      · have e := DGet.k (H := H') (a := A .tasks) (k := Sum.inl (M.tg o)) R.tasks
        rw [val_tkv, if_pos ⟨j0, j1⟩] at e
        exact e
      refine ⟨_, rfl, _, _, du, _, _, rfl, hu, T.l_Task, T.a_Task_number, tl_number, _, rfl, _, _, dn, _, _, rfl, htn, T.l_Task, T.a_Task_number, tl_number, _, _, rfl, rfl, _, rfl, ?_⟩
      refine ite2 (fun h => ?_) (fun h => ?_)
      · have h6 : (M.tg o).toNat = n := by
          have h' : (((M.tg o).toNat : Nat) : Int) = (n : Int) := by simpa using h
          omega
        rw [if_pos h6] at hring
        exact fin true hring
      · have h6 : ¬ (M.tg o).toNat = n := fun e => by
          have h' : ¬ (((M.tg o).toNat : Nat) : Int) = (n : Int) := by simpa using h
          exact h' (by rw [e])
        rw [if_neg h6] at hring
        exact ⟨rfl, _, _, rfl, j1, by rw [hf']; exact hring⟩
    · rintro σ H' ⟨rfl, o, v3, rfl, ho, hring⟩
      rw [Nat.sub_self] at hring
      exact fin false hring
end
end TT
end
section
set_option Elab.async false
set_option linter.all false
set_option maxRecDepth 100000
set_option maxHeartbeats 2000000
open PySem PySem.Spec PyProof.Rows L2
namespace TT
def MS.order (M : MS) (o : List Int) : MS := { M with ords := M.ords.map (· ++ [o]) }
def ordV (k : Int) (n : Nat) (l : List Int) : List Int := k :: (n : Int) :: (l.length : Int) :: l
def MS.give (M : MS) (k : Int) (n : Nat) (l : List Int) : MS := (M.order (ordV k n l)).ready n
def sp_order_value (a : Ad) : Sp := fun vs H Q _ => ∃ (A : Nm) (W : Wd) (M : MS) (k : Int) (n : Nat) (p : Addr) (l : List Int), vs = [.int k, .ref (A (.task n)), .ref p] ∧ Rep a H A W M ∧ n ∈ M.ks ∧ W p = some l ∧ l.length ≤ 1000 ∧
  ∀ H' q, Same H H' → H q = none → H' q = some (.lst ((ordV k n l).map V.int)) → Q (.ref q) H'
def spGive (a : Ad) (k : Int) : Sp := fun vs H Q _ => ∃ (A : Nm) (W : Wd) (M : MS) (n : Nat) (p : Addr) (l : List Int) (os : List (List Int)), vs = [.ref (A .held), .ref (A .orders), .ref (A (.task n)), .ref p] ∧ Rep a H A W M ∧ n ∈ M.ks ∧ W p = some l ∧ l.length ≤ 1000 ∧
  M.ords = some os ∧ os.length < 100000 ∧ M.row.length < 100000 ∧ ∀ H' W', Rep a H' A W' (M.give k n l) → WLe W W' → Keep A M H H' → Q .non H'
abbrev sp_hand (a : Ad) : Sp := spGive a 0
abbrev sp_toss (a : Ad) : Sp := spGive a 1
def sp_order_spawn (a : Ad) : Sp := fun vs H Q _ => ∃ (A : Nm) (W : Wd) (M : MS) (n : Nat) (os : List (List Int)), vs = [.ref (A .orders), .ref (A (.task n))] ∧ Rep a H A W M ∧ n ∈ M.ks ∧ M.ords = some os ∧ os.length < 100000 ∧
  ∀ H' W', Rep a H' A W' (M.order [2, (n : Int)]) → WLe W W' → Keep A M H H' → Q .non H'
def sp_tell_orders (a : Ad) : Sp := fun vs H Q _ => ∃ (A : Nm) (W : Wd) (M : MS) (os : List (List Int)), vs = [.ref (A .orders)] ∧ Rep a H A W M ∧ M.ords = some os ∧ os.flatten.length < 16000000 ∧
  ∀ H' p, Same H H' → H p = none → H' p = some (.lst (((os.length : Int) :: os.flatten).map V.int)) → Q (.ref p) H'
section
variable {a : Ad} {H H' : Hp} {A : Nm} {W : Wd} {M : MS}
theorem Toks.length {ps : List Addr} {ls : List (List Int)} (t : Toks W ps ls) : ps.length = ls.length := Paired.length t
theorem Toks.at_ {ps : List Addr} {ls : List (List Int)} (t : Toks W ps ls) {i : Nat} {p : Addr} (h : ps[i]? = some p) : ∃ l, ls[i]? = some l ∧ W p = some l := by
  induction t generalizing i with
  | nil => simp at h
  | @cons p' l' ps' ls' e _ ih =>
    cases i with
    | zero =>
      have e2 : p' = p := by simpa using h
      subst e2
      exact ⟨l', rfl, e⟩
    | succ i =>
      obtain ⟨l, h1, h2⟩ := ih (i := i) (by simpa using h)
      exact ⟨l, by simpa using h1, h2⟩
theorem Rep.pushOrd (R : Rep a H A W M) {os : List (List Int)} (ho : M.ords = some os) {ps : List Addr} (t : Toks W ps os) {q : Addr} {o : List Int} (w : W q = some o) : Rep a (upd H (A .orders) (.lst (ps.map V.ref ++ [V.ref q]))) A W (M.order o) := by
  have lv : live M .orders := by show M.ords.isSome = true; rw [ho]; rfl
  refine R.put (r0 := .orders) lv (fun r l => ?_) ⟨os ++ [o], by simp [MS.order, ho], ps ++ [q], by rw [List.map_append]; rfl, t.snoc w⟩ fun r hr l o' c' => ?_
  · cases r with
    | orders => exact lv
    | _ => exact l
  · cases r <;> first | exact c' | exact absurd rfl hr
end
section
variable {P : Program} {w : World} {K : PySem.W.Frag} {mg : Str → Option Value} {base : Heap} {a : Ad}
theorem ok_order_value (T : Tx K mg a) : FnOk P w K mg base CX0 1 a.f_order_value a.d_order_value ["kind", "task", "value"] (sp_order_value a) := by
  refine T.F_order_value.ok sc_order_value (fun vs H Q E h => ?_) (fun cdv A' outer s H vs Q E hr h => ?_)
  · obtain ⟨A, W, M, i, n, p, l, rfl, _⟩ := h
    rfl
  · obtain ⟨A, W, M, i, n, p, l, rfl, R, hn, wp, hl, k⟩ := h
    obtain ⟨dt, pt, ht, _⟩ := R.task hn
    have hp := R.val p l wp
    refine ⟨_, (pss_one (ps_ret (pe_op op_cat (pe_lst (pa_cons (pv 0) (pa_cons (pe_fld (pv 1) rfl) (pa_cons (pe_callB (call_len_seq) (by rfl) T.n_len PySem.boot_len (pa_cons (pv 2) pa_nil)) pa_nil)))) (pv 2)))), ?_⟩
    refine ⟨_, rfl, _, rfl, _, _, dt, _, _, rfl, ht, T.l_Task, T.a_Task_number, tl_number, _, rfl, p, _, rfl, .inl (SqL.of hp), (by show 3 ≤ sizeLine; decide), fun t1 ht1 => ?_⟩
    have s1 := same_new (o := HO.lst [V.int i, V.int n, V.int ((l.map V.int).length : Nat)]) ht1
    refine ⟨_, rfl, t1, p, _, _, rfl, rfl, upd_same, s1 _ _ hp, ?_, fun q hq => ?_⟩
    · rw [List.length_map, sizeLine_eq]
      show 3 + _ ≤ _
      omega
    · refine k _ q (s1.trans (same_new hq)) (s1.free hq) ?_
      rw [upd_same, List.length_map]
      rfl
theorem ok_hand (T : Tx K mg a) : FnOk P w K mg base CX0 3 a.f_hand a.d_hand ["held", "orders", "task", "value"] (sp_hand a) := by
  refine T.F_hand.ok sc_hand (fun vs H Q E h => ?_) (fun cdv A' outer s H vs Q E hr h => ?_)
  · obtain ⟨A, W, M, n, p, l, os, rfl, _⟩ := h
    rfl
  · obtain ⟨A, W, M, n, p, l, os, rfl, R, hn, wp, hl, ho, hz, hrow, k⟩ := h
    obtain ⟨ps, hps, tk⟩ := R.orders ho
    refine ⟨_, (pss_cons (ps_expr (pe_bm PySem.F.plainAttrs_list PySem.F.slot_list_append PySem.F.type_list_append mt_append (pv 1) (pa_cons (pe_call (ok_order_value T) (hr.mono (by decide)) rfl T.m_order_value T.F_order_value.kp (b_order_value T) .nil pass0 (pa_cons (pe_glob (v := .int (0)) rfl T.c_HAND ⟨_, rfl⟩) (pa_cons (pv 2) (pa_cons (pv 3) pa_nil)))) pa_nil)))
      (pss_one (ps_expr (pe_meth (pv 0) T.l_Held T.M_Held_make_ready (ok_Held_make_ready T) (hr.mono (by decide)) (b_Held_make_ready T) .nil pass0 (pa_cons (pv 2) pa_nil))))), ?_⟩
    refine ⟨_, rfl, .inl ⟨rfl, _, SqL.of hps⟩, _, rfl, _, rfl, A, W, M, 0, n, p, l, rfl, R, hn, wp, hl, fun H1 q s1 nq hq => ?_⟩
    have R1 := R.addVal' (l := ordV 0 n l) s1 nq hq
    have wl := wput_le R (l := ordV 0 n l) nq
    refine ⟨_, _, _, rfl, rfl, s1 _ _ hps, big (m := 100000) (by rw [List.length_map, tk.length]; exact hz), ?_⟩
    have R2 := R1.pushOrd ho (tk.mono wl) (q := q) wput_at
    obtain ⟨dh, hh⟩ := R2.held
    refine ⟨_, rfl, _, dh, _, rfl, hh, rfl, _, rfl, A, _, _, n, rfl, R2, hn, hrow, fun H3 R3 k3 => ?_⟩
    have lv : live M .orders := by show M.ords.isSome = true; rw [ho]; rfl
    refine k H3 _ R3 wl (((Keep.of_same s1).more .orders lv).trans' k3 fun r l => ?_)
    cases r with
    | orders => exact lv
    | _ => exact l
theorem ok_toss (T : Tx K mg a) : FnOk P w K mg base CX0 3 a.f_toss a.d_toss ["held", "orders", "task", "value"] (sp_toss a) := by
  refine T.F_toss.ok sc_toss (fun vs H Q E h => ?_) (fun cdv A' outer s H vs Q E hr h => ?_)
  · obtain ⟨A, W, M, n, p, l, os, rfl, _⟩ := h
    rfl
  · obtain ⟨A, W, M, n, p, l, os, rfl, R, hn, wp, hl, ho, hz, hrow, k⟩ := h
    obtain ⟨ps, hps, tk⟩ := R.orders ho
    refine ⟨_, (pss_cons (ps_expr (pe_bm PySem.F.plainAttrs_list PySem.F.slot_list_append PySem.F.type_list_append mt_append (pv 1) (pa_cons (pe_call (ok_order_value T) (hr.mono (by decide)) rfl T.m_order_value T.F_order_value.kp (b_order_value T) .nil pass0 (pa_cons (pe_glob (v := .int (1)) rfl T.c_TOSS ⟨_, rfl⟩) (pa_cons (pv 2) (pa_cons (pv 3) pa_nil)))) pa_nil)))
      (pss_one (ps_expr (pe_meth (pv 0) T.l_Held T.M_Held_make_ready (ok_Held_make_ready T) (hr.mono (by decide)) (b_Held_make_ready T) .nil pass0 (pa_cons (pv 2) pa_nil))))), ?_⟩
    refine ⟨_, rfl, .inl ⟨rfl, _, SqL.of hps⟩, _, rfl, _, rfl, A, W, M, 1, n, p, l, rfl, R, hn, wp, hl, fun H1 q s1 nq hq => ?_⟩
    have R1 := R.addVal' (l := ordV 1 n l) s1 nq hq
    have wl := wput_le R (l := ordV 1 n l) nq
    refine ⟨_, _, _, rfl, rfl, s1 _ _ hps, big (m := 100000) (by rw [List.length_map, tk.length]; exact hz), ?_⟩
    have R2 := R1.pushOrd ho (tk.mono wl) (q := q) wput_at
    obtain ⟨dh, hh⟩ := R2.held
    refine ⟨_, rfl, _, dh, _, rfl, hh, rfl, _, rfl, A, _, _, n, rfl, R2, hn, hrow, fun H3 R3 k3 => ?_⟩
    have lv : live M .orders := by show M.ords.isSome = true; rw [ho]; rfl
    refine k H3 _ R3 wl (((Keep.of_same s1).more .orders lv).trans' k3 fun r l => ?_)
    cases r with
    | orders => exact lv
    | _ => exact l
theorem ok_order_spawn (T : Tx K mg a) : FnOk P w K mg base CX0 1 a.f_order_spawn a.d_order_spawn ["orders", "task"] (sp_order_spawn a) := by
  refine T.F_order_spawn.ok sc_order_spawn (fun vs H Q E h => ?_) (fun cdv A' outer s H vs Q E hr h => ?_)
  · obtain ⟨A, W, M, n, os, rfl, _⟩ := h
    rfl
  · obtain ⟨A, W, M, n, os, rfl, R, hn, ho, hz, k⟩ := h
    obtain ⟨ps, hps, tk⟩ := R.orders ho
    obtain ⟨dt, pt, ht, _⟩ := R.task hn
    refine ⟨_, (pss_one (ps_expr (pe_bm PySem.F.plainAttrs_list PySem.F.slot_list_append PySem.F.type_list_append mt_append (pv 0) (pa_cons (pe_lst (pa_cons (pe_glob (v := .int (2)) rfl T.c_SPAWN ⟨_, rfl⟩) (pa_cons (pe_fld (pv 1) rfl) pa_nil))) pa_nil)))), ?_⟩
    refine ⟨_, rfl, .inl ⟨rfl, _, SqL.of hps⟩, _, rfl, _, _, dt, _, _, rfl, ht, T.l_Task, T.a_Task_number, tl_number, (by show 2 ≤ sizeLine; decide), fun q nq => ?_⟩
    have s1 : Same H _ := same_new (o := HO.lst [V.int 2, V.int n]) nq
    have R1 := R.addVal (p := q) [2, (n : Int)] nq
    have wl := wput_le R (l := [2, (n : Int)]) nq
    refine ⟨_, _, _, rfl, rfl, s1 _ _ hps, big (m := 100000) (by rw [List.length_map, tk.length]; exact hz), ?_⟩
    have R2 := R1.pushOrd ho (tk.mono wl) (q := q) wput_at
    have lv : live M .orders := by show M.ords.isSome = true; rw [ho]; rfl
    exact k _ _ R2 wl ((Keep.of_same s1).more .orders lv)
theorem ok_tell_orders (T : Tx K mg a) : FnOk P w K mg base CX0 1 a.f_tell_orders a.d_tell_orders ["orders"] (sp_tell_orders a) := by
  refine T.F_tell_orders.ok sc_tell_orders (fun vs H Q E h => ?_) (fun cdv A' outer s H vs Q E hr h => ?_)
  · obtain ⟨A, W, M, os, rfl, _⟩ := h
    rfl
  · obtain ⟨A, W, M, os, rfl, R, ho, hz, k⟩ := h
    obtain ⟨ps, hps, tk⟩ := R.orders ho
    refine ⟨_, (pss_cons (ps_set (i := 1) sc_tell_orders.nd rfl (Or.inl rfl) (pe_lst (pa_cons (pe_callB (call_len_seq) (by rfl) T.n_len PySem.boot_len (pa_cons (pv 0) pa_nil)) pa_nil)))
      (pss_cons (ps_for PassesOwn.never rfl (pi_list (pv 0)) (pg_name (i := 2) sc_tell_orders.nd rfl (Or.inl rfl)) (pss_one (ps_expr (pe_bm PySem.F.plainAttrs_list PySem.F.slot_list_extend PySem.F.type_list_extend mt_extend (pv 1) (pa_cons (pv 2) pa_nil)))))
      (pss_one (ps_ret (pv 1))))), ?_⟩
    refine ⟨_, rfl, _, _, rfl, .inl (SqL.of hps), (by show 1 ≤ sizeLine; decide), fun q nq => ?_⟩
    have s1 : Same H _ := same_new (o := HO.lst [V.int ((ps.map V.ref).length : Nat)]) nq
    refine ⟨_, rfl, _, rfl, ⟨_, SqL.of (s1 _ _ hps)⟩, for_list (K := K) (a := A .orders) (xs := ps.map V.ref) (fun i σ H' => ∃ v : Option V, σ = [some (.ref (A .orders)), some (.ref q), v] ∧ Same H H' ∧ H' q = some (.lst (((os.length : Int) :: (os.take i).flatten).map V.int)))
      ⟨none, rfl, s1, ?_⟩ (fun i σ H' _ ⟨_, _, s2, _⟩ => SqL.of (s2 _ _ hps)) ?_ ?_⟩
    · rw [upd_same, List.length_map, tk.length]
      rfl
    · rintro i y σ H' hi ⟨v, rfl, s2, hq⟩
      obtain ⟨p, hp, rfl⟩ : ∃ p, ps[i]? = some p ∧ y = V.ref p := by
        rw [List.getElem?_map] at hi
        cases e : ps[i]? with
        | none => rw [e] at hi; cases hi
        | some t => rw [e] at hi; exact ⟨t, rfl, (Option.some.inj hi).symm⟩
      obtain ⟨l, hl, wl⟩ := tk.at_ hp
      have hlen : ((os.take (i + 1)).flatten).length ≤ os.flatten.length := by
        conv => rhs; rw [← List.take_append_drop (i + 1) os, List.flatten_append, List.length_append]
        exact Nat.le_add_right _ _
      have he : (os.take (i + 1)).flatten = (os.take i).flatten ++ l := by rw [take_snoc hl, List.flatten_append]; simp
      rw [he, List.length_append] at hlen
      refine ⟨_, rfl, .inl ⟨rfl, _, SqL.of hq⟩, _, rfl, q, p, _, _, rfl, rfl, hq, s2 _ _ (R.val p l wl), ?_, ?_⟩
      · rw [List.length_map, List.length_map, List.length_cons, sizeLine_eq]
        omega
      · refine ⟨_, rfl, fun b o e => ?_, ?_⟩
        · rw [upd_ne (ne_of_none e nq)]
          exact s2 b o e
        · rw [upd_same, he, ← List.map_append]
          rfl
    · rintro σ H' ⟨v, rfl, s2, hq⟩
      refine ⟨_, rfl, ?_⟩
      rw [List.length_map, tk.length, List.take_length] at hq
      exact k H' q s2 nq hq
end
end TT
end
section
set_option Elab.async false
set_option linter.all false
set_option maxRecDepth 100000
set_option maxHeartbeats 2000000
open PySem PySem.Spec PyProof.Rows L2
namespace TT
structure Step (a : Ad) (H : Hp) (A : Nm) (W : Wd) (M : MS) (H' : Hp) (A' : Nm) (W' : Wd) (M' : MS) : Prop where
  rep : Rep a H' A' W' M'
  wle : WLe W W'
  ext : ∀ r, live M r → (∀ k, r ≠ .wait k) → A' r = A r
  keep : Keep A M H H'
  grow : ∀ b o, H b = some o → ∃ o', H' b = some o'
  stay : ∀ r, live M r → live M' r
  fresh : ∀ r, live M' r → (∃ r', live M r' ∧ A r' = A' r) ∨ H (A' r) = none
section
variable {a : Ad} {H H1 H2 H' : Hp} {A A1 A2 A' : Nm} {W W1 W2 W' : Wd} {M M1 M2 M' : MS}
theorem grow_of (R : Rep a H' A' W' M') (ext : ∀ r, live M r → A' r = A r) (keep : Keep A M H H') (stay : ∀ r, live M r → live M' r) : ∀ b o, H b = some o → ∃ o', H' b = some o' := fun b o e => by
  by_cases f : ∃ r', live M r' ∧ A r' = b
  · obtain ⟨r', l', e'⟩ := f
    obtain ⟨o', q'⟩ := R.some_ (stay r' l')
    rw [ext r' l', e'] at q'
    exact ⟨o', q'⟩
  · exact ⟨o, keep b o e fun r' l' z => f ⟨r', l', z⟩⟩
theorem Step.of (R : Rep a H' A W' M') (wl : WLe W W') (k : Keep A M H H') (hl : ∀ r, live M' r ↔ live M r) : Step a H A W M H' A W' M' :=
  ⟨R, wl, fun _ _ _ => rfl, k, grow_of R (fun _ _ => rfl) k fun r l => (hl r).mpr l, fun r l => (hl r).mpr l, fun r l => .inl ⟨r, (hl r).mp l, rfl⟩⟩
theorem Step.refl (R : Rep a H A W M) : Step a H A W M H A W M := .of R (WLe.refl W) Keep.refl fun _ => Iff.rfl
theorem Step.same (R : Rep a H A W M) (s : Same H H') : Step a H A W M H' A W M := .of (R.same s) (WLe.refl W) (Keep.of_same s) fun _ => Iff.rfl
theorem Step.val (R : Rep a H A W M) {p : Addr} (l : List Int) (hp : H p = none) : Step a H A W M (upd H p (.lst (l.map V.int))) A (wput W p l) M := .of (R.addVal l hp) (wput_le R hp) (Keep.of_same (same_new hp)) fun _ => Iff.rfl
theorem Step.val' (R : Rep a H A W M) {p : Addr} {l : List Int} (s : Same H H') (hp : H p = none) (hp' : H' p = some (.lst (l.map V.int))) : Step a H A W M H' A (wput W p l) M := .of (R.addVal' s hp hp') (wput_le R hp) (Keep.of_same s) fun _ => Iff.rfl
theorem Step.back (s : Step a H A W M H' A' W' M') {b : Addr} (h : H' b = none) : H b = none := by
  cases e : H b with
  | none => rfl
  | some o =>
    obtain ⟨o', q⟩ := s.grow b o e
    rw [h] at q
    cases q
theorem Step.trans (s1 : Step a H A W M H1 A1 W1 M1) (s2 : Step a H1 A1 W1 M1 H2 A2 W2 M2) (R : Rep a H A W M) : Step a H A W M H2 A2 W2 M2 where
  rep := s2.rep
  wle := s1.wle.trans s2.wle
  ext := fun r l h => (s2.ext r (s1.stay r l) h).trans (s1.ext r l h)
  keep := s1.keep.trans s2.keep s1.fresh
  grow := fun b o e => let ⟨o', e'⟩ := s1.grow b o e; s2.grow b o' e'
  stay := fun r l => s2.stay r (s1.stay r l)
  fresh := fun r l => by
    rcases s2.fresh r l with ⟨r1, l1, e1⟩ | q
    · rcases s1.fresh r1 l1 with ⟨r0, l0, e0⟩ | z
      · exact .inl ⟨r0, l0, e0.trans e1⟩
      · exact .inr (by rw [← e1]; exact z)
    · exact .inr (s1.back q)
theorem Step.at_ (s : Step a H A W M H' A' W' M') {r : Role} (l : live M r) (h : ∀ k, r ≠ .wait k := by intro k e; cases e) : A' r = A r := s.ext r l h
end
structure Good (M : MS) : Prop where
  cl : Closed M
  ks : M.ks.length < 50000
  row : M.row.length < 50000
  val : ∀ n ∈ M.ks, (M.val n).length ≤ 1000
  wt : ∀ n ∈ M.ks, (M.wt n).length < 50000
  kept : ∀ (i : Nat) (c : Ch), M.ch[i]? = some c → c.kept.length < 100000 ∧ ∀ v ∈ c.kept, v.length ≤ 1000
  snd : ∀ (i : Nat) (c : Ch), M.ch[i]? = some c → c.snd.length < 50000
  rcv : ∀ (i : Nat) (c : Ch), M.ch[i]? = some c → c.rcv.length < 50000
  chs : M.ch.length < 50000
  ords : ∀ os, M.ords = some os → os.length < 50000
section
variable {M : MS} {n : Nat} {c g k : Int} {l : List Int} {r : Role}
theorem live_setSt' : live (M.setSt n c g) r ↔ live M r := by cases r <;> exact Iff.rfl
theorem live_setVal : live (M.setVal n l) r ↔ live M r := by cases r <;> exact Iff.rfl
theorem live_order : live (M.order l) r ↔ live M r := by
  cases r with
  | orders => show (M.ords.map _).isSome = true ↔ M.ords.isSome = true; rw [Option.isSome_map]
  | _ => exact Iff.rfl
theorem live_ready : live (M.ready n) r ↔ live M r := by cases r <;> exact Iff.rfl
theorem live_give : live (M.give k n l) r ↔ live M r := (live_ready (M := M.order (ordV k n l))).trans live_order
theorem live_setCh {i : Nat} {x : Ch} : live (M.setCh i x) r ↔ live M r := by
  have e : (M.setCh i x).ch.length = M.ch.length := List.length_set
  cases r with
  | chan j => show j < _ ↔ j < _; rw [e]
  | kept j => show j < _ ↔ j < _; rw [e]
  | snd j => show j < _ ↔ j < _; rw [e]
  | rcv j => show j < _ ↔ j < _; rw [e]
  | _ => exact Iff.rfl
theorem live_hear {z : Int} : live (M.hear z) r ↔ live M r := by cases r <;> exact Iff.rfl
theorem live_ask : live M.ask r ↔ live M r := by
  cases r with
  | clock => show (M.clk.map _).isSome = true ↔ M.clk.isSome = true; rw [Option.isSome_map]
  | _ => exact Iff.rfl
theorem live_setWt {x : List Nat} : live (M.setWt n x) r ↔ live M r := by cases r <;> exact Iff.rfl
end
section
variable {a : Ad} {H H' : Hp} {A : Nm} {W : Wd} {M : MS}
theorem Rep.setVal (R : Rep a H A W M) {n : Nat} (hn : n ∈ M.ks) {dx p : Addr} {v : List Int} (w : W p = some v) : Rep a (upd H (A (.task n)) (.ins a.C_Task dx (taskF n (M.st n) (M.tg n) p (A (.wait n))))) A W (M.setVal n v) := by
  refine R.put (r0 := .task n) hn (fun r l => live_setVal.mp l) ⟨dx, p, rfl, ?_⟩ fun r hr l o c' => ?_
  · simp only [MS.setVal, if_pos rfl, ite_true]
    exact w
  · cases r with
    | task k =>
      have hk : ¬ k = n := fun e => hr (by rw [e])
      obtain ⟨dx', p', e, w'⟩ := c'
      exact ⟨dx', p', e, by simp only [MS.setVal, if_neg hk]; exact w'⟩
    | _ => exact c'
theorem Rep.setWt (R : Rep a H A W M) {n : Nat} (hn : n ∈ M.ks) (l : List Nat) : Rep a (upd H (A (.wait n)) (.lst (rs A l))) A W (M.setWt n l) := by
  refine R.put (r0 := .wait n) hn (fun r l => live_setWt.mp l) ?_ fun r hr l' o c' => ?_
  · show _ = HO.lst (rs A (if n = n then l else M.wt n))
    rw [if_pos rfl]
  · cases r with
    | wait k =>
      have hk : ¬ k = n := fun e => hr (by rw [e])
      show o = HO.lst (rs A (if k = n then l else M.wt k))
      rw [if_neg hk]
      exact c'
    | _ => exact c'
theorem ch_same {i j : Nat} {x c : Ch} (h : (M.setCh i x).ch[j]? = some c) (hne : j ≠ i) : M.ch[j]? = some c := by
  rw [show (M.setCh i x).ch = M.ch.set i x from rfl, List.getElem?_set_ne (Ne.symm hne)] at h
  exact h
theorem ch_back {i j : Nat} {x c : Ch} (h : M.ch[j]? = some c) (hne : j ≠ i) : (M.setCh i x).ch[j]? = some c := by
  rw [show (M.setCh i x).ch = M.ch.set i x from rfl, List.getElem?_set_ne (Ne.symm hne)]
  exact h
theorem ch_self {i : Nat} {x c : Ch} (h : M.ch[i]? = some c) : (M.setCh i x).ch[i]? = some x := List.getElem?_set_self (lt_of_get h)
theorem Rep.setChan (R : Rep a H A W M) {i : Nat} {c x : Ch} (hi : M.ch[i]? = some c) {r0 : Role} {o' : HO} (hr0 : r0 = .kept i ∨ r0 = .snd i ∨ r0 = .rcv i) (new : Cont a A W (M.setCh i x) r0 o')
    (room : x.room = c.room) (kept : r0 ≠ .kept i → x.kept = c.kept) (snd : r0 ≠ .snd i → x.snd = c.snd) (rcv : r0 ≠ .rcv i → x.rcv = c.rcv) : Rep a (upd H (A r0) o') A W (M.setCh i x) := by
  have lv : live M r0 := by rcases hr0 with rfl | rfl | rfl <;> exact lt_of_get hi
  have inx : ∀ {c1 : Ch}, M.ch[i]? = some c1 → c1 = c := fun e => Option.some.inj (e.symm.trans hi)
  refine R.put lv (fun r l => live_setCh.mp l) new fun r hr l o c' => ?_
  cases r with
  | chs =>
    show o = HO.lst ((List.range (M.setCh i x).ch.length).map _)
    rw [show (M.setCh i x).ch.length = M.ch.length from List.length_set]
    exact c'
  | chan j =>
    obtain ⟨c1, e1, dx, e2⟩ := c'
    by_cases hj : j = i
    · subst hj
      exact ⟨x, ch_self hi, dx, by rw [room, ← inx e1]; exact e2⟩
    · exact ⟨c1, ch_back e1 hj, dx, e2⟩
  | kept j =>
    obtain ⟨c1, e1, ps, e2, t⟩ := c'
    by_cases hj : j = i
    · subst hj
      exact ⟨x, ch_self hi, ps, e2, by rw [kept (Ne.symm hr), ← inx e1]; exact t⟩
    · exact ⟨c1, ch_back e1 hj, ps, e2, t⟩
  | snd j =>
    obtain ⟨c1, e1, e2⟩ := c'
    by_cases hj : j = i
    · subst hj
      exact ⟨x, ch_self hi, by rw [snd (Ne.symm hr), ← inx e1]; exact e2⟩
    · exact ⟨c1, ch_back e1 hj, e2⟩
  | rcv j =>
    obtain ⟨c1, e1, e2⟩ := c'
    by_cases hj : j = i
    · subst hj
      exact ⟨x, ch_self hi, by rw [rcv (Ne.symm hr), ← inx e1]; exact e2⟩
    · exact ⟨c1, ch_back e1 hj, e2⟩
  | _ => exact c'
theorem Rep.setRcv (R : Rep a H A W M) {i : Nat} {c : Ch} (hi : M.ch[i]? = some c) (l : List Nat) : Rep a (upd H (A (.rcv i)) (.lst (rs A l))) A W (M.setCh i { c with rcv := l }) :=
  R.setChan hi (.inr (.inr rfl)) ⟨_, ch_self hi, rfl⟩ rfl (fun _ => rfl) (fun _ => rfl) fun h => absurd rfl h
theorem Rep.setSnd (R : Rep a H A W M) {i : Nat} {c : Ch} (hi : M.ch[i]? = some c) (l : List Nat) : Rep a (upd H (A (.snd i)) (.lst (rs A l))) A W (M.setCh i { c with snd := l }) :=
  R.setChan hi (.inr (.inl rfl)) ⟨_, ch_self hi, rfl⟩ rfl (fun _ => rfl) (fun h => absurd rfl h) fun _ => rfl
theorem Rep.setKept (R : Rep a H A W M) {i : Nat} {c : Ch} (hi : M.ch[i]? = some c) {ps : List Addr} {l : List (List Int)} (t : Toks W ps l) : Rep a (upd H (A (.kept i)) (.lst (ps.map V.ref))) A W (M.setCh i { c with kept := l }) :=
  R.setChan hi (.inl rfl) ⟨_, ch_self hi, ps, rfl, t⟩ rfl (fun h => absurd rfl h) (fun _ => rfl) fun _ => rfl
end
end TT
end
section
set_option Elab.async false
set_option linter.all false
set_option maxRecDepth 100000
set_option maxHeartbeats 2000000
open PySem PySem.Spec PyProof.Rows L2
namespace TT
def MS.wrong (M : MS) (n : Nat) : MS := M.give 1 n [2, -1]
def MS.standSpawn (M : MS) (n : Nat) : MS := (M.setSt n 2 0).order [2, (n : Int)]
def MS.newChan (M : MS) (z : Int) : MS := { M with ch := M.ch ++ [⟨z, [], [], []⟩] }
def MS.standChannel (M : MS) (n : Nat) : List Int → MS
  | [2, z] => if (0 ≤ z ∧ z ≤ 65536) ∧ M.ch.length < 1000 then (M.newChan z).give 0 n [9, (M.ch.length : Int)] else M.wrong n
  | _ => M.wrong n
def MS.standSend (M : MS) (n : Nat) (t v : List Int) : MS := match M.chanOf t with
  | none => M.wrong n
  | some i => match M.ch[i]? with
    | none => M
    | some c => match c.rcv with
      | r :: l => ((M.setCh i { c with rcv := l }).give 0 r v).give 0 n [0]
      | [] => if (c.kept.length : Int) < c.room then (M.setCh i { c with kept := c.kept ++ [v] }).give 0 n [0]
        else ((M.setVal n v).setSt n 3 i).setCh i { c with snd := c.snd ++ [n] }
def MS.tellEnd (M : MS) (u n : Nat) : MS := if M.st u = 7 then M.give 0 n (M.val u) else M.give 1 n (M.val u)
def MS.standEnd (M : MS) (n : Nat) (l : List Int) : MS := match M.taskOf l with
  | none => M.wrong n
  | some u => if u = n then M.give 1 n [2, -2] else if endedB M u = true then M.tellEnd u n else (M.setSt n 5 u).setWt u (M.wt u ++ [n])
def MS.reply (M : MS) : Int := match M.clk with
  | some (rl, k) => rl.getD k 0
  | none => 0
def MS.heard (M : MS) : MS := M.ask.hear M.reply
def tillOf (now z : Int) : Int :=
  let s := now + (if 0 > z then 0 else z)
  if 4611686018427387904 < s then 4611686018427387904 else s
def MS.standSleep (M : MS) (n : Nat) : List Int → MS
  | [2, z] => if tillOf M.heard.now z ≤ M.heard.now then M.heard.give 0 n [0] else M.heard.setSt n 6 (tillOf M.heard.now z)
  | _ => M.wrong n
structure Pre (a : Ad) (H : Hp) (A : Nm) (W : Wd) (M : MS) (n : Nat) : Prop where
  R : Rep a H A W M
  G : Good M
  hn : n ∈ M.ks
  os : ∃ os, M.ords = some os
abbrev Go (a : Ad) (H : Hp) (A : Nm) (W : Wd) (M M' : MS) (Q : VK) (v : V) : Prop := ∀ H' A' W', Step a H A W M H' A' W' M' → Q v H'
theorem goEq {a : Ad} {H H' : Hp} {A A' : Nm} {W W' : Wd} {M M' M2 : MS} {Q : VK} {v : V} (k : Go a H A W M M' Q v) (s : Step a H A W M H' A' W' M2) (e : M' = M2) : Q v H' := k _ _ _ (e ▸ s)
def sp_toss_wrong (a : Ad) : Sp := fun vs H Q _ => ∃ (A : Nm) (W : Wd) (M : MS) (n : Nat), vs = [.ref (A .held), .ref (A .orders), .ref (A (.task n))] ∧ Pre a H A W M n ∧ Go a H A W M (M.wrong n) Q .non
def sp_stand_at_spawn (a : Ad) : Sp := fun vs H Q _ => ∃ (A : Nm) (W : Wd) (M : MS) (n : Nat), vs = [.ref (A .orders), .ref (A (.task n))] ∧ Pre a H A W M n ∧ Go a H A W M (M.standSpawn n) Q .non
def sp_stand_at_channel (a : Ad) : Sp := fun vs H Q _ => ∃ (A : Nm) (W : Wd) (M : MS) (n : Nat) (p : Addr) (l : List Int), vs = [.ref (A .held), .ref (A .orders), .ref (A (.task n)), .ref p] ∧ Pre a H A W M n ∧ W p = some l ∧ Go a H A W M (M.standChannel n l) Q .non
def sp_stand_at_send (a : Ad) : Sp := fun vs H Q _ => ∃ (A : Nm) (W : Wd) (M : MS) (n : Nat) (p q : Addr) (l v : List Int), vs = [.ref (A .held), .ref (A .orders), .ref (A (.task n)), .ref p, .ref q] ∧ Pre a H A W M n ∧ W p = some l ∧ W q = some v ∧ v.length ≤ 1000 ∧
  Go a H A W M (M.standSend n l v) Q .non
def sp_tell_end (a : Ad) : Sp := fun vs H Q _ => ∃ (A : Nm) (W : Wd) (M : MS) (u n : Nat) (os : List (List Int)), vs = [.ref (A .held), .ref (A .orders), .ref (A (.task u)), .ref (A (.task n))] ∧ Rep a H A W M ∧ u ∈ M.ks ∧ n ∈ M.ks ∧ (M.val u).length ≤ 1000 ∧ M.ords = some os ∧ os.length < 100000 ∧ M.row.length < 100000 ∧
  Go a H A W M (M.tellEnd u n) Q .non
def sp_stand_at_end (a : Ad) : Sp := fun vs H Q _ => ∃ (A : Nm) (W : Wd) (M : MS) (n : Nat) (p : Addr) (l : List Int), vs = [.ref (A .held), .ref (A .orders), .ref (A (.task n)), .ref p] ∧ Pre a H A W M n ∧ W p = some l ∧ Go a H A W M (M.standEnd n l) Q .non
def sp_stand_at_sleep (a : Ad) : Sp := fun vs H Q _ => ∃ (A : Nm) (W : Wd) (M : MS) (n : Nat) (p : Addr) (l : List Int), vs = [.ref (A .held), .ref (A .orders), .ref (A (.task n)), .ref p, .ref (A .clock)] ∧ Pre a H A W M n ∧ W p = some l ∧ M.clk.isSome = true ∧ Go a H A W M (M.standSleep n l) Q .non
def wantedN (at_ : Int) : Int := if at_ = 41 ∨ at_ = 42 then 0 else if at_ = 44 then 2 else if 43 ≤ at_ ∧ at_ ≤ 47 then 1 else -1
def sp_values_wanted : Sp := fun vs H Q _ => ∃ z : Int, vs = [.int z] ∧ Q (.int (wantedN z)) H
theorem chanOf_get {M : MS} {l : List Int} {i : Nat} (h : M.chanOf l = some i) : ∃ c, M.ch[i]? = some c := by
  unfold MS.chanOf at h
  split at h
  · rename_i z
    split at h
    · rename_i hz
      have e : z.toNat = i := Option.some.inj h
      subst e
      exact ⟨_, List.getElem?_eq_getElem (by omega)⟩
    · cases h
  · cases h
theorem chanOf_is {M : MS} {l : List Int} {i : Nat} (h : M.chanOf l = some i) : l = [9, (i : Int)] := by
  unfold MS.chanOf at h
  split at h
  · rename_i z
    split at h
    · rename_i hz
      have e : z.toNat = i := Option.some.inj h
      rw [← e, Int.toNat_of_nonneg hz.1]
    · cases h
  · cases h
theorem taskOf_mem {M : MS} {l : List Int} {u : Nat} (h : M.taskOf l = some u) : u ∈ M.ks := by
  unfold MS.taskOf MS.taskNo at h
  split at h
  · split at h
    · rename_i hz
      rw [← Option.some.inj h]
      exact hz.2
    · cases h
  · cases h
section
variable {P : Program} {w : World} {K : PySem.W.Frag} {mg : Str → Option Value} {base : Heap} {a : Ad}
theorem ok_values_wanted (T : Tx K mg a) : FnOk P w K mg base CX0 1 a.f_values_wanted a.d_values_wanted ["at"] sp_values_wanted := by
  refine T.F_values_wanted.ok sc_values_wanted (fun vs H Q E h => ?_) (fun cdv A' outer s H vs Q E hr h => ?_)
  · obtain ⟨z, rfl, _⟩ := h
    rfl
  · obtain ⟨z, rfl, k⟩ := h
    have fin : ∀ y : Int, y = wantedN z → Q (.int y) H := fun y e => e ▸ k
    refine ⟨_, (pss_cons (ps_if (PW.pt (pw_or (pt_cmp (pc_eqI (pv 0) (pe_glob (v := .int (41)) rfl T.c_AT_SPAWN ⟨_, rfl⟩))) (pw_or1 (pt_cmp (pc_eqI (pv 0) (pe_glob (v := .int (42)) rfl T.c_AT_PAUSE ⟨_, rfl⟩)))))) (pss_one (ps_ret pe_int)) pss_nil)
      (pss_cons (ps_if (pt_cmp (pc_eqI (pv 0) (pe_glob (v := .int (44)) rfl T.c_AT_SEND ⟨_, rfl⟩))) (pss_one (ps_ret pe_int)) pss_nil)
      (pss_cons (ps_if (pt_chain op_le op_le (pe_glob (v := .int (43)) rfl T.c_AT_CHANNEL ⟨_, rfl⟩) (pv 0) (pe_glob (v := .int (47)) rfl T.c_AT_SLEEP ⟨_, rfl⟩)) (pss_one (ps_ret pe_int)) pss_nil)
      (pss_one (ps_ret (pe_glob (v := .int (-1)) rfl T.c_NEVER ⟨_, rfl⟩)))))), ?_⟩
    refine ⟨_, rfl, _, _, rfl, rfl, _, rfl, ?_⟩
    refine ite2 (fun h => ?_) (fun h => ⟨_, rfl, _, _, rfl, rfl, _, rfl, ?_⟩)
    · have h' : z = 41 := by simpa using h
      exact fin 0 (by rw [wantedN, if_pos (.inl h')])
    have h1 : ¬ z = 41 := by simpa using h
    refine ite2 (fun h => ?_) (fun h => ⟨_, rfl, _, _, rfl, rfl, _, rfl, ?_⟩)
    · have h' : z = 42 := by simpa using h
      exact fin 0 (by rw [wantedN, if_pos (.inr h')])
    have h2 : ¬ z = 42 := by simpa using h
    refine ite2 (fun h => ?_) (fun h => ⟨_, rfl, _, _, rfl, rfl, _, rfl, ?_⟩)
    · have h' : z = 44 := by simpa using h
      exact fin 2 (by rw [wantedN, if_neg (by omega), if_pos h'])
    have h3 : ¬ z = 44 := by simpa using h
    refine ite2 (fun h => ⟨_, _, rfl, rfl, _, rfl, ?_⟩) (fun h => ⟨_, rfl, ?_⟩)
    · have h4 : 43 ≤ z := by simpa using h
      refine ite2 (fun h => ?_) (fun h => ?_)
      · have h5 : z ≤ 47 := by simpa using h
        exact fin 1 (by rw [wantedN, if_neg (by omega), if_neg h3, if_pos ⟨h4, h5⟩])
      · have h5 : ¬ z ≤ 47 := by simpa using h
        exact fin (-1) (by rw [wantedN, if_neg (by omega), if_neg h3, if_neg (fun q => h5 q.2)])
    · have h4 : ¬ 43 ≤ z := by simpa using h
      refine iteF ?_
      exact fin (-1) (by rw [wantedN, if_neg (by omega), if_neg h3, if_neg (fun q => h4 q.1)])
theorem ok_toss_wrong (T : Tx K mg a) : FnOk P w K mg base CX0 4 a.f_toss_wrong a.d_toss_wrong ["held", "orders", "task"] (sp_toss_wrong a) := by
  refine T.F_toss_wrong.ok sc_toss_wrong (fun vs H Q E h => ?_) (fun cdv A' outer s H vs Q E hr h => ?_)
  · obtain ⟨A, W, M, n, rfl, _⟩ := h
    rfl
  · obtain ⟨A, W, M, n, rfl, ⟨R, G, hn, os, ho⟩, k⟩ := h
    have g1 := G.ords os ho
    have g2 := G.row
    refine ⟨_, (pss_one (ps_expr (pe_call (ok_toss T) (hr.mono (by decide)) rfl T.m_toss T.F_toss.kp (b_toss T) .nil pass0 (pa_cons (pv 0) (pa_cons (pv 1) (pa_cons (pv 2) (pa_cons (pe_call (ok_whole T) (hr.mono (by decide)) rfl T.m_whole T.F_whole.kp (b_whole T) .nil pass0 (pa_cons (pe_glob (v := .int (-1)) rfl T.c_WRONG_VALUE ⟨_, rfl⟩) pa_nil)) pa_nil))))))), ?_⟩
    refine ⟨_, rfl, _, rfl, _, rfl, _, rfl, fun p hp => ?_⟩
    exact ⟨A, wput W p [2, -1], M, n, p, [2, -1], os, rfl, R.addVal _ hp, hn, wput_at, by show 2 ≤ 1000; decide, ho, by omega, by omega, fun H' W' R' wl kp => k _ _ _ ((Step.val R [2, -1] hp).trans (Step.of R' wl kp fun _ => live_give) R)⟩
theorem ok_stand_at_spawn (T : Tx K mg a) : FnOk P w K mg base CX0 2 a.f_stand_at_spawn a.d_stand_at_spawn ["orders", "task"] (sp_stand_at_spawn a) := by
  refine T.F_stand_at_spawn.ok sc_stand_at_spawn (fun vs H Q E h => ?_) (fun cdv A' outer s H vs Q E hr h => ?_)
  · obtain ⟨A, W, M, n, rfl, _⟩ := h
    rfl
  · obtain ⟨A, W, M, n, rfl, ⟨R, G, hn, os, ho⟩, k⟩ := h
    have g1 := G.ords os ho
    obtain ⟨dt, pt, ht, _⟩ := R.task hn
    refine ⟨_, (pss_cons (ps_expr (pe_meth (pv 1) T.l_Task T.M_Task_wait (ok_Task_wait T) (hr.mono (by decide)) (b_Task_wait T) .nil pass0 (pa_cons (pe_glob (v := .int (2)) rfl T.c_SPAWNING ⟨_, rfl⟩) (pa_cons pe_int pa_nil))))
      (pss_one (ps_expr (pe_call (ok_order_spawn T) (hr.mono (by decide)) rfl T.m_order_spawn T.F_order_spawn.kp (b_order_spawn T) .nil pass0 (pa_cons (pv 0) (pa_cons (pv 1) pa_nil)))))), ?_⟩
    refine ⟨_, rfl, _, dt, _, rfl, ht, rfl, A, W, M, n, 2, 0, rfl, R, hn, fun H1 R1 k1 => ?_⟩
    refine ⟨_, rfl, _, rfl, A, W, M.setSt n 2 0, n, os, rfl, R1, hn, ho, by omega, fun H2 W2 R2 wl k2 => ?_⟩
    exact k _ _ _ ((Step.of R1 (WLe.refl W) k1 fun _ => live_setSt').trans (Step.of R2 wl k2 fun _ => live_order) R)
theorem ok_tell_end (T : Tx K mg a) : FnOk P w K mg base CX0 4 a.f_tell_end a.d_tell_end ["held", "orders", "ended", "waiter"] (sp_tell_end a) := by
  refine T.F_tell_end.ok sc_tell_end (fun vs H Q E h => ?_) (fun cdv A' outer s H vs Q E hr h => ?_)
  · obtain ⟨A, W, M, u, n, os, rfl, _⟩ := h
    rfl
  · obtain ⟨A, W, M, u, n, os, rfl, R, hu, hn, hv, ho, hz, hrow, k⟩ := h
    obtain ⟨dt, pt, ht, wt⟩ := R.task hu
    refine ⟨_, (pss_one (ps_if (pt_cmp (pc_eqI (pe_fld (pv 2) rfl) (pe_glob (v := .int (7)) rfl T.c_ENDED ⟨_, rfl⟩))) (pss_one (ps_expr (pe_call (ok_hand T) (hr.mono (by decide)) rfl T.m_hand T.F_hand.kp (b_hand T) .nil pass0 (pa_cons (pv 0) (pa_cons (pv 1) (pa_cons (pv 3) (pa_cons (pe_fld (pv 2) rfl) pa_nil))))))) (pss_one (ps_expr (pe_call (ok_toss T) (hr.mono (by decide)) rfl T.m_toss T.F_toss.kp (b_toss T) .nil pass0 (pa_cons (pv 0) (pa_cons (pv 1) (pa_cons (pv 3) (pa_cons (pe_fld (pv 2) rfl) pa_nil))))))))), ?_⟩
    refine ⟨_, rfl, _, _, dt, _, _, rfl, ht, T.l_Task, T.a_Task_state, tl_state, _, _, rfl, rfl, _, rfl, ?_⟩
    refine ite2 (fun h => ?_) (fun h => ?_)
    · have h7 : M.st u = 7 := by simpa using h
      refine ⟨_, rfl, _, rfl, _, rfl, _, rfl, _, _, dt, _, _, rfl, ht, T.l_Task, T.a_Task_value, tl_value, A, W, M, n, pt, _, os, rfl, R, hn, wt, hv, ho, hz, hrow, fun H' W' R' wl kp => ?_⟩
      exact goEq k (Step.of R' wl kp fun _ => live_give) (by rw [MS.tellEnd, if_pos h7])
    · have h7 : ¬ M.st u = 7 := by simpa using h
      refine ⟨_, rfl, _, rfl, _, rfl, _, rfl, _, _, dt, _, _, rfl, ht, T.l_Task, T.a_Task_value, tl_value, A, W, M, n, pt, _, os, rfl, R, hn, wt, hv, ho, hz, hrow, fun H' W' R' wl kp => ?_⟩
      exact goEq k (Step.of R' wl kp fun _ => live_give) (by rw [MS.tellEnd, if_neg h7])
theorem ok_stand_at_end (T : Tx K mg a) : FnOk P w K mg base CX0 5 a.f_stand_at_end a.d_stand_at_end ["held", "orders", "task", "target"] (sp_stand_at_end a) := by
  refine T.F_stand_at_end.ok sc_stand_at_end (fun vs H Q E h => ?_) (fun cdv A' outer s H vs Q E hr h => ?_)
  · obtain ⟨A, W, M, n, p, l, rfl, _⟩ := h
    rfl
  · obtain ⟨A, W, M, n, p, l, rfl, PR, wp, k⟩ := h
    obtain ⟨R, G, hn, os, ho⟩ := id PR
    have g1 := G.ords os ho
    have g2 := G.row
    obtain ⟨dh, hh⟩ := R.held
    obtain ⟨dt, pt, ht, wt⟩ := R.task hn
    refine ⟨_, (pss_cons (ps_set (i := 4) sc_stand_at_end.nd rfl (Or.inl rfl) (pe_meth (pv 0) T.l_Held T.M_Held_task_of (ok_Held_task_of T) (hr.mono (by decide)) (b_Held_task_of T) .nil pass0 (pa_cons (pv 3) pa_nil)))
      (pss_one (ps_if (pt_cmp (pc_isN (pv 4))) (pss_one (ps_expr (pe_call (ok_toss_wrong T) (hr.mono (by decide)) rfl T.m_toss_wrong T.F_toss_wrong.kp (b_toss_wrong T) .nil pass0 (pa_cons (pv 0) (pa_cons (pv 1) (pa_cons (pv 2) pa_nil)))))) (pss_one (ps_if (pt_cmp (pc_eqI (pe_fld (pv 4) rfl) (pe_fld (pv 2) rfl))) (pss_one (ps_expr (pe_call (ok_toss T) (hr.mono (by decide)) rfl T.m_toss T.F_toss.kp (b_toss T) .nil pass0 (pa_cons (pv 0) (pa_cons (pv 1) (pa_cons (pv 2) (pa_cons (pe_call (ok_whole T) (hr.mono (by decide)) rfl T.m_whole T.F_whole.kp (b_whole T) .nil pass0 (pa_cons (pe_glob (v := .int (-2)) rfl T.c_OWN_END ⟨_, rfl⟩) pa_nil)) pa_nil))))))) (pss_one (ps_if (pt_truth (pe_meth0 (pv 4) T.l_Task T.M_Task_has_ended (ok_Task_has_ended T) (hr.mono (by decide)) (b_Task_has_ended T) .nil pass0) (fun _ => rfl)) (pss_one (ps_expr (pe_call (ok_tell_end T) (hr.mono (by decide)) rfl T.m_tell_end T.F_tell_end.kp (b_tell_end T) .nil pass0 (pa_cons (pv 0) (pa_cons (pv 1) (pa_cons (pv 4) (pa_cons (pv 2) pa_nil))))))) (pss_cons (ps_expr (pe_meth (pv 2) T.l_Task T.M_Task_wait (ok_Task_wait T) (hr.mono (by decide)) (b_Task_wait T) .nil pass0 (pa_cons (pe_glob (v := .int (5)) rfl T.c_AWAITING_END ⟨_, rfl⟩) (pa_cons (pe_fld (pv 4) rfl) pa_nil))))
      (pss_one (ps_expr (pe_bm PySem.F.plainAttrs_list PySem.F.slot_list_append PySem.F.type_list_append mt_append (pe_fld (pv 4) rfl) (pa_cons (pv 2) pa_nil)))))))))))), ?_⟩
    refine ⟨_, rfl, _, dh, _, rfl, hh, rfl, _, rfl, A, W, M, p, l, rfl, R, wp, ?_⟩
    cases e : M.taskOf l with
    | none =>
      refine ⟨_, rfl, _, rfl, ?_⟩
      refine iteT ?_
      refine ⟨_, rfl, _, rfl, _, rfl, A, W, M, n, rfl, PR, fun H' A' W' s => goEq k s (by rw [MS.standEnd, e])⟩
    | some u =>
      have hu := taskOf_mem e
      obtain ⟨du, pu, hut, wu⟩ := R.task hu
      refine ⟨_, rfl, _, rfl, ?_⟩
      refine iteF ?_
      refine ⟨_, rfl, _, _, du, _, _, rfl, hut, T.l_Task, T.a_Task_number, tl_number, _, rfl, _, _, dt, _, _, rfl, ht, T.l_Task, T.a_Task_number, tl_number, _, _, rfl, rfl, _, rfl, ?_⟩
      refine ite2 (fun h => ?_) (fun h => ?_)
      · have h' : (u : Int) = n := by simpa using h
        have hun : u = n := by omega
        refine ⟨_, rfl, _, rfl, _, rfl, _, rfl, fun q hq => ?_⟩
        refine ⟨A, wput W q [2, -2], M, n, q, [2, -2], os, rfl, R.addVal _ hq, hn, wput_at, by show 2 ≤ 1000; decide, ho, by omega, by omega, fun H' W' R' wl kp => goEq k ((Step.val R [2, -2] hq).trans (Step.of R' wl kp fun _ => live_give) R) ?_⟩
        rw [MS.standEnd, e]
        dsimp only
        rw [if_pos hun]
      · have hun : ¬ u = n := by
          have h' : ¬ (u : Int) = n := by simpa using h
          omega
        refine ⟨_, rfl, _, du, _, rfl, hut, rfl, _, du, u, _, _, _, _, rfl, hut, _, rfl, ?_⟩
        refine ite2 (fun h => ?_) (fun h => ?_)
        · refine ⟨_, rfl, _, rfl, _, rfl, _, rfl, A, W, M, u, n, os, rfl, R, hu, hn, G.val u hu, ho, by omega, by omega, fun H' A' W' s => goEq k s ?_⟩
          rw [MS.standEnd, e]
          dsimp only
          rw [if_neg hun, if_pos (show endedB M u = true from h)]
        · have h' : ¬ endedB M u = true := h
          refine ⟨_, rfl, _, dt, _, rfl, ht, rfl, _, rfl, _, _, du, _, _, rfl, hut, T.l_Task, T.a_Task_number, tl_number, A, W, M, n, 5, u, rfl, R, hn, fun H1 R1 k1 => ?_⟩
          obtain ⟨du1, pu1, hut1, wu1⟩ := R1.task (n := u) hu
          refine ⟨_, rfl, _, _, du1, _, _, rfl, hut1, T.l_Task, T.a_Task_waiters, tl_waiters, .inl ⟨rfl, _, SqL.of (R1.wait (n := u) hu)⟩, _, rfl, _, _, _, rfl, rfl, R1.wait (n := u) hu, big (m := 50000) (by rw [rs, List.length_map]; exact G.wt u hu), ?_⟩
          have R2 := R1.setWt (n := u) hu (M.wt u ++ [n])
          rw [show rs A (M.wt u ++ [n]) = rs A (M.wt u) ++ [V.ref (A (.task n))] from List.map_append] at R2
          refine goEq k ((Step.of R1 (WLe.refl W) k1 fun _ => live_setSt').trans (Step.of R2 (WLe.refl W) (Keep.put (r0 := .wait u) hu) fun _ => live_setWt) R) ?_
          rw [MS.standEnd, e]
          dsimp only
          rw [if_neg hun, if_neg h']
end
end TT
end
section
set_option Elab.async false
set_option linter.all false
set_option maxRecDepth 100000
set_option maxHeartbeats 2000000
open PySem PySem.Spec PyProof.Rows L2
namespace TT
def nmChan (A : Nm) (i : Nat) (x p s r : Addr) : Nm := fun q => if q = .chan i then x else if q = .kept i then p else if q = .snd i then s else if q = .rcv i then r else A q
section
variable {a : Ad} {H H' H1 : Hp} {A A' : Nm} {W : Wd} {M M' : MS}
theorem nm_old {x p s r : Addr} {q : Role} (l : live M q) : nmChan A M.ch.length x p s r q = A q := by
  unfold nmChan
  have h : ∀ f : Nat → Role, (live M (f M.ch.length) → False) → q ≠ f M.ch.length := fun f hf e => hf (e ▸ l)
  rw [if_neg (h .chan (fun z => Nat.lt_irrefl _ z)), if_neg (h .kept (fun z => Nat.lt_irrefl _ z)), if_neg (h .snd (fun z => Nat.lt_irrefl _ z)), if_neg (h .rcv (fun z => Nat.lt_irrefl _ z))]
theorem live_newChan {z : Int} {q : Role} (l : live (M.newChan z) q) : live M q ∨ q = .chan M.ch.length ∨ q = .kept M.ch.length ∨ q = .snd M.ch.length ∨ q = .rcv M.ch.length := by
  have e : (M.newChan z).ch.length = M.ch.length + 1 := by show (M.ch ++ [_]).length = _; rw [List.length_append]; rfl
  cases q with
  | chan j =>
    have l' : j < (M.newChan z).ch.length := l
    rw [e] at l'
    rcases Nat.lt_or_eq_of_le (Nat.le_of_lt_succ l') with h | h
    · exact .inl h
    · exact .inr (.inl (by rw [h]))
  | kept j =>
    have l' : j < (M.newChan z).ch.length := l
    rw [e] at l'
    rcases Nat.lt_or_eq_of_le (Nat.le_of_lt_succ l') with h | h
    · exact .inl h
    · exact .inr (.inr (.inl (by rw [h])))
  | snd j =>
    have l' : j < (M.newChan z).ch.length := l
    rw [e] at l'
    rcases Nat.lt_or_eq_of_le (Nat.le_of_lt_succ l') with h | h
    · exact .inl h
    · exact .inr (.inr (.inr (.inl (by rw [h]))))
  | rcv j =>
    have l' : j < (M.newChan z).ch.length := l
    rw [e] at l'
    rcases Nat.lt_or_eq_of_le (Nat.le_of_lt_succ l') with h | h
    · exact .inl h
    · exact .inr (.inr (.inr (.inr (by rw [h]))))
  | _ => exact .inl l
theorem stay_newChan {z : Int} {q : Role} (l : live M q) : live (M.newChan z) q := by
  have e : (M.newChan z).ch.length = M.ch.length + 1 := by show (M.ch ++ [_]).length = _; rw [List.length_append]; rfl
  cases q with
  | chan j => show j < _; rw [e]; exact Nat.lt_succ_of_lt l
  | kept j => show j < _; rw [e]; exact Nat.lt_succ_of_lt l
  | snd j => show j < _; rw [e]; exact Nat.lt_succ_of_lt l
  | rcv j => show j < _; rw [e]; exact Nat.lt_succ_of_lt l
  | _ => exact l
theorem Rep.newChan (R : Rep a H A W M) {z : Int} {x dx p s r : Addr} (sm : Same H H1) (nx : H x = none) (np : H p = none) (ns : H s = none) (nr : H r = none) (xp : x ≠ p) (xs : x ≠ s) (xr : x ≠ r) (ps : p ≠ s) (pr : p ≠ r) (sr : s ≠ r)
    (hx : H1 x = some (.ins a.C_Channel dx (chanF z p s r))) (hp : H1 p = some (.lst [])) (hs : H1 s = some (.lst [])) (hr : H1 r = some (.lst [])) :
    Rep a (upd H1 (A .chs) (.lst ((List.range M.ch.length).map (fun i => V.ref (A (.chan i))) ++ [V.ref x]))) (nmChan A M.ch.length x p s r) W (M.newChan z) := by
  have e1 : nmChan A M.ch.length x p s r (.chan M.ch.length) = x := by unfold nmChan; rw [if_pos rfl]
  have e2 : nmChan A M.ch.length x p s r (.kept M.ch.length) = p := by unfold nmChan; rw [if_neg (by intro e; cases e), if_pos rfl]
  have e3 : nmChan A M.ch.length x p s r (.snd M.ch.length) = s := by unfold nmChan; rw [if_neg (by intro e; cases e), if_neg (by intro e; cases e), if_pos rfl]
  have e4 : nmChan A M.ch.length x p s r (.rcv M.ch.length) = r := by unfold nmChan; rw [if_neg (by intro e; cases e), if_neg (by intro e; cases e), if_neg (by intro e; cases e), if_pos rfl]
  have old : ∀ {q : Role}, live M q → nmChan A M.ch.length x p s r q = A q := fun l => nm_old l
  have tk : ∀ k, nmChan A M.ch.length x p s r (.task k) = A (.task k) := fun k => by unfold nmChan; rw [if_neg (by intro e; cases e), if_neg (by intro e; cases e), if_neg (by intro e; cases e), if_neg (by intro e; cases e)]
  have rse : ∀ l : List Nat, rs (nmChan A M.ch.length x p s r) l = rs A l := fun l => rs_congr fun k _ => tk k
  have nT : ∀ {q : Addr}, H q = none → q ≠ A .chs := fun {q} h e => R.neN (r := .chs) trivial h e.symm
  have cl : (M.newChan z).ch.length = M.ch.length + 1 := by show (M.ch ++ [_]).length = _; rw [List.length_append]; rfl
  have cnew : (M.newChan z).ch[M.ch.length]? = some ⟨z, [], [], []⟩ := by show (M.ch ++ [_])[_]? = _; rw [List.getElem?_append_right (Nat.le_refl _), Nat.sub_self]; rfl
  have cold : ∀ {j : Nat} {c : Ch}, M.ch[j]? = some c → (M.newChan z).ch[j]? = some c := fun {j c} h => by show (M.ch ++ [_])[_]? = _; rw [List.getElem?_append_left (lt_of_get h)]; exact h
  have R1 := R.same sm
  refine R1.grow (fun q => q = .chan M.ch.length ∨ q = .kept M.ch.length ∨ q = .snd M.ch.length ∨ q = .rcv M.ch.length) (fun q l h => ?_) (fun q l h => ?_) (fun q q' h h' e => ?_) (fun q l => ?_) (fun q v e => ?_)
  · rcases live_newChan l with l' | l'
    · exact ⟨l', old l'⟩
    · exact absurd l' h
  · rcases h with rfl | rfl | rfl | rfl
    · rw [e1]; exact ⟨fun r0 l0 => R.neN l0 nx, R.noW nx⟩
    · rw [e2]; exact ⟨fun r0 l0 => R.neN l0 np, R.noW np⟩
    · rw [e3]; exact ⟨fun r0 l0 => R.neN l0 ns, R.noW ns⟩
    · rw [e4]; exact ⟨fun r0 l0 => R.neN l0 nr, R.noW nr⟩
  · rcases h with rfl | rfl | rfl | rfl <;> rcases h' with rfl | rfl | rfl | rfl <;> first
      | rfl
      | (simp only [e1, e2, e3, e4] at e; exact absurd e xp) | (simp only [e1, e2, e3, e4] at e; exact absurd e xs) | (simp only [e1, e2, e3, e4] at e; exact absurd e xr)
      | (simp only [e1, e2, e3, e4] at e; exact absurd e ps) | (simp only [e1, e2, e3, e4] at e; exact absurd e pr) | (simp only [e1, e2, e3, e4] at e; exact absurd e sr)
      | (simp only [e1, e2, e3, e4] at e; exact absurd e.symm xp) | (simp only [e1, e2, e3, e4] at e; exact absurd e.symm xs) | (simp only [e1, e2, e3, e4] at e; exact absurd e.symm xr)
      | (simp only [e1, e2, e3, e4] at e; exact absurd e.symm ps) | (simp only [e1, e2, e3, e4] at e; exact absurd e.symm pr) | (simp only [e1, e2, e3, e4] at e; exact absurd e.symm sr)
  · by_cases hT : q = .chs
    · subst hT
      refine ⟨_, by rw [old (q := .chs) trivial]; exact upd_same, ?_⟩
      show _ = HO.lst ((List.range (M.newChan z).ch.length).map fun i => V.ref (nmChan A M.ch.length x p s r (.chan i)))
      rw [cl, List.range_succ, List.map_append]
      congr 1
      congr 1
      · refine List.map_congr_left fun i hi => ?_
        rw [old (q := .chan i) (List.mem_range.mp hi)]
      · show [V.ref x] = [V.ref (nmChan A M.ch.length x p s r (.chan M.ch.length))]
        rw [e1]
    rcases live_newChan l with lm | rfl | rfl | rfl | rfl
    · obtain ⟨o, e, c⟩ := R1.at_ q lm
      refine ⟨o, by rw [old lm, upd_ne (R.ne lm (r' := .chs) trivial hT)]; exact e, ?_⟩
      cases q with
      | held =>
        obtain ⟨d, w⟩ := c
        exact ⟨d, by rw [w, old (q := .tasks) trivial, old (q := .chs) trivial, old (q := .row) trivial]; rfl⟩
      | row => show o = HO.lst (rs _ M.row); rw [rse]; exact c
      | tasks => show o = HO.dK (tkv _ M.ks); rw [tkv_congr fun k _ => tk k]; exact c
      | chs => exact absurd rfl hT
      | clock => exact c
      | orders => exact c
      | ans => exact c
      | task k =>
        obtain ⟨d, w, h1, h2⟩ := c
        exact ⟨d, w, by rw [old (q := .wait k) lm]; exact h1, h2⟩
      | wait k => show o = HO.lst (rs _ (M.wt k)); rw [rse]; exact c
      | chan j =>
        obtain ⟨c1, h1, d, h2⟩ := c
        exact ⟨c1, cold h1, d, by rw [old (q := .kept j) lm, old (q := .snd j) lm, old (q := .rcv j) lm]; exact h2⟩
      | kept j =>
        obtain ⟨c1, h1, w, h2, t⟩ := c
        exact ⟨c1, cold h1, w, h2, t⟩
      | snd j =>
        obtain ⟨c1, h1, h2⟩ := c
        exact ⟨c1, cold h1, by rw [rse]; exact h2⟩
      | rcv j =>
        obtain ⟨c1, h1, h2⟩ := c
        exact ⟨c1, cold h1, by rw [rse]; exact h2⟩
    · exact ⟨_, by rw [e1, upd_ne (nT nx)]; exact hx, _, cnew, dx, by rw [e2, e3, e4]⟩
    · exact ⟨_, by rw [e2, upd_ne (nT np)]; exact hp, _, cnew, [], rfl, .nil⟩
    · exact ⟨_, by rw [e3, upd_ne (nT ns)]; exact hs, _, cnew, rfl⟩
    · exact ⟨_, by rw [e4, upd_ne (nT nr)]; exact hr, _, cnew, rfl⟩
  · rw [upd_ne (fun w => R1.neW (r := .chs) trivial e w)]
    exact R1.val q v e
theorem Step.newChan (R : Rep a H A W M) {z : Int} {x dx p s r : Addr} (sm : Same H H1) (nx : H x = none) (np : H p = none) (ns : H s = none) (nr : H r = none) (xp : x ≠ p) (xs : x ≠ s) (xr : x ≠ r) (ps : p ≠ s) (pr : p ≠ r) (sr : s ≠ r)
    (hx : H1 x = some (.ins a.C_Channel dx (chanF z p s r))) (hp : H1 p = some (.lst [])) (hs : H1 s = some (.lst [])) (hr : H1 r = some (.lst [])) :
    Step a H A W M (upd H1 (A .chs) (.lst ((List.range M.ch.length).map (fun i => V.ref (A (.chan i))) ++ [V.ref x]))) (nmChan A M.ch.length x p s r) W (M.newChan z) := by
  have R2 := R.newChan (z := z) sm nx np ns nr xp xs xr ps pr sr hx hp hs hr
  have kp : Keep A M H (upd H1 (A .chs) (.lst ((List.range M.ch.length).map (fun i => V.ref (A (.chan i))) ++ [V.ref x]))) := (Keep.of_same sm).more .chs trivial
  refine ⟨R2, WLe.refl W, fun r l _ => nm_old l, kp, grow_of R2 (fun r l => nm_old l) kp fun r l => stay_newChan l, fun r l => stay_newChan l, fun q l => ?_⟩
  rcases live_newChan l with l' | rfl | rfl | rfl | rfl
  · exact .inl ⟨q, l', (nm_old l').symm⟩
  · refine .inr ?_
    unfold nmChan
    rw [if_pos rfl]
    exact nx
  · refine .inr ?_
    unfold nmChan
    rw [if_neg (by intro e; cases e), if_pos rfl]
    exact np
  · refine .inr ?_
    unfold nmChan
    rw [if_neg (by intro e; cases e), if_neg (by intro e; cases e), if_pos rfl]
    exact ns
  · refine .inr ?_
    unfold nmChan
    rw [if_neg (by intro e; cases e), if_neg (by intro e; cases e), if_neg (by intro e; cases e), if_pos rfl]
    exact nr
end
theorem kind2 {l : List Int} {k : Int} (h : isKindB l k = true) : ∃ z, l = [k, z] := by
  have h2 : l.length = 2 := by
    simp only [isKindB, Bool.and_eq_true, decide_eq_true_eq] at h
    exact h.1
  match l, h2 with
  | [x, z], _ =>
    have hk : x = k := by simpa [isKindB] using h
    exact ⟨z, by rw [hk]⟩
theorem kind2_not {l : List Int} {k : Int} (h : ¬ isKindB l k = true) (z : Int) : l ≠ [k, z] := by
  rintro rfl
  exact h (by simp [isKindB])
theorem standChannel_not {M : MS} {n : Nat} {l : List Int} (h : ¬ isKindB l 2 = true) : M.standChannel n l = M.wrong n := by
  unfold MS.standChannel
  split
  · exact absurd rfl (kind2_not h _)
  · rfl
def fitsB : List Int → Bool
  | [2, z] => decide (0 ≤ z) && decide (z ≤ 65536)
  | _ => false
theorem fitsB_not {l : List Int} (h : ¬ isKindB l 2 = true) : fitsB l = false := by
  unfold fitsB
  split
  · exact absurd rfl (kind2_not h _)
  · rfl
theorem fitsB_is {z : Int} (h : 0 ≤ z ∧ z ≤ 65536) : fitsB [2, z] = true := by
  show (decide (0 ≤ z) && decide (z ≤ 65536)) = true
  rw [decide_eq_true h.1, decide_eq_true h.2]
  rfl
theorem fitsB_yes {l : List Int} (h : fitsB l = true) : ∃ z, l = [2, z] ∧ (0 ≤ z ∧ z ≤ 65536) := by
  unfold fitsB at h
  split at h
  · rename_i z
    rw [Bool.and_eq_true, decide_eq_true_eq, decide_eq_true_eq] at h
    exact ⟨z, rfl, h⟩
  · cases h
theorem standChannel_no {M : MS} {n : Nat} {l : List Int} (h : ∀ z, l = [2, z] → ¬ ((0 ≤ z ∧ z ≤ 65536) ∧ M.ch.length < 1000)) : M.standChannel n l = M.wrong n := by
  unfold MS.standChannel
  split
  · rename_i z
    rw [if_neg (h z rfl)]
  · rfl
theorem seq_set {te : TE} {rest : TS} {D : Ends} {σ : L2.St} {H : Hp} {i : Nat} (v : V) (h1 : ∀ Q' : VK, Q' v H → te σ H Q') (h2 : rest D (σ.set i (some v)) H) : tSeq (tAsg te (gName i)) rest D σ H := h1 _ h2
theorem standSleep_not {M : MS} {n : Nat} {l : List Int} (h : ¬ isKindB l 2 = true) : M.standSleep n l = M.wrong n := by
  unfold MS.standSleep
  split
  · exact absurd rfl (kind2_not h _)
  · rfl
section
variable {P : Program} {w : World} {K : PySem.W.Frag} {mg : Str → Option Value} {base : Heap} {a : Ad}
theorem ok_stand_at_channel (T : Tx K mg a) : FnOk P w K mg base CX0 5 a.f_stand_at_channel a.d_stand_at_channel ["held", "orders", "task", "value"] (sp_stand_at_channel a) := by
  refine T.F_stand_at_channel.ok sc_stand_at_channel (fun vs H Q E h => ?_) (fun cdv A' outer s H vs Q E hr h => ?_)
  · obtain ⟨A, W, M, n, p, l, rfl, _⟩ := h
    rfl
  · obtain ⟨A, W, M, n, p, l, rfl, PR, wp, k⟩ := h
    obtain ⟨R, G, hn, os, ho⟩ := id PR
    have g1 := G.ords os ho
    have g2 := G.row
    have g3 := G.chs
    obtain ⟨dh, hh⟩ := R.held
    have hp := R.val p l wp
    refine ⟨_, (pss_cons (ps_set (i := 4) sc_stand_at_channel.nd rfl (Or.inl rfl) (pe_and (pe_call (ok_is_whole T) (hr.mono (by decide)) rfl T.m_is_whole T.F_is_whole.kp (b_is_whole T) .nil pass0 (pa_cons (pv 3) pa_nil)) (pe_one (pe_chain op_le op_le pe_int (pe_ix ix_list (pv 3) pe_int (fun _ _ => rfl)) (pe_glob (v := .int (65536)) rfl T.c_MOST_ROOM ⟨_, rfl⟩)))))
      (pss_cons (ps_if (PW.pt (pw_or (pt_not (pt_truth (pv 4) (fun _ => rfl))) (pw_or1 (pt_truth (pe_meth0 (pv 0) T.l_Held T.M_Held_has_all_channels (ok_Held_has_all_channels T) (hr.mono (by decide)) (b_Held_has_all_channels T) .nil pass0) (fun _ => rfl))))) (pss_cons (ps_expr (pe_call (ok_toss_wrong T) (hr.mono (by decide)) rfl T.m_toss_wrong T.F_toss_wrong.kp (b_toss_wrong T) .nil pass0 (pa_cons (pv 0) (pa_cons (pv 1) (pa_cons (pv 2) pa_nil)))))
      (pss_one ps_retN)) pss_nil)
      (pss_cons (ps_expr (pe_bm PySem.F.plainAttrs_list PySem.F.slot_list_append PySem.F.type_list_append mt_append (pe_fld (pv 0) rfl) (pa_cons (pe_make T.k_Channel (ok_Channel_init T) (hr.mono (by decide)) rfl T.m_Channel (b_Channel_init T) .nil pass0 (pa_cons (pe_ix ix_list (pv 3) pe_int (fun _ _ => rfl)) pa_nil)) pa_nil)))
      (pss_one (ps_expr (pe_call (ok_hand T) (hr.mono (by decide)) rfl T.m_hand T.F_hand.kp (b_hand T) .nil pass0 (pa_cons (pv 0) (pa_cons (pv 1) (pa_cons (pv 2) (pa_cons (pe_call (ok_channel_value T) (hr.mono (by decide)) rfl T.m_channel_value T.F_channel_value.kp (b_channel_value T) .nil pass0 (pa_cons (pe_op op_sub (pe_callB (call_len_seq) (by rfl) T.n_len PySem.boot_len (pa_cons (pe_fld (pv 0) rfl) pa_nil)) pe_int) pa_nil)) pa_nil)))))))))), ?_⟩
    refine seq_set (.bl (fitsB l)) (fun Q' q => ?_) ?_
    · refine ⟨_, rfl, p, l, rfl, hp, _, rfl, ?_⟩
      refine ite2 (fun h => ?_) (fun h => Qbl q (fitsB_not h))
      obtain ⟨z, rfl⟩ := kind2 h
      refine ⟨_, rfl, p, _, _, _, rfl, rfl, SqL.of hp, atI_nat (j := 1) rfl, _, _, rfl, rfl, _, rfl, ?_⟩
      refine ite2 (fun h0 => ⟨_, _, rfl, rfl, Qbl q ?_⟩) (fun h0 => Qbl q ?_)
      · show (decide (0 ≤ z) && decide (z ≤ 65536)) = _
        rw [h0, Bool.true_and]
      · rw [Bool.not_eq_true] at h0
        show (decide (0 ≤ z) && decide (z ≤ 65536)) = _
        rw [h0, Bool.false_and]
    refine ⟨_, rfl, fitsB l, rfl, ?_⟩
    cases hb : fitsB l with
    | false =>
      refine iteT (iteT ?_)
      refine ⟨_, rfl, _, rfl, _, rfl, A, W, M, n, rfl, PR, fun H' A' W' s => goEq k s ?_⟩
      exact standChannel_no fun z hz h => by rw [hz, fitsB_is h.1] at hb; cases hb
    | true =>
      refine iteF ?_
      obtain ⟨z, rfl, hz⟩ := fitsB_yes hb
      refine ⟨_, rfl, _, dh, _, rfl, hh, rfl, A, W, M, rfl, R, _, rfl, ?_⟩
      refine ite2 (fun h => ?_) (fun h => ?_)
      · rw [decide_eq_true_eq] at h
        refine ⟨_, rfl, _, rfl, _, rfl, A, W, M, n, rfl, PR, fun H' A' W' s => goEq k s ?_⟩
        exact standChannel_no fun z' hz' h' => by omega
      · rw [decide_eq_true_eq] at h
        refine ⟨_, rfl, _, _, dh, _, _, rfl, hh, T.l_Held, T.a_Held_channels, hl_chs, .inl ⟨rfl, _, SqL.of R.chs⟩, _, rfl, p, _, _, _, rfl, rfl, SqL.of hp, atI_nat (j := 1) rfl, ?_⟩
        intro x dx nx nd nxd
        refine ⟨x, dx, z, rfl, upd_same, fun H1 q s r hx nq ns nr qs qr sr hq hs hr' kp => ⟨rfl, ?_⟩⟩
        have back : ∀ {b : Addr}, (upd (upd H dx (.own x)) x (.ins a.C_Channel dx [])) b = none → H b = none := fun {b} e => by
          cases e' : H b with
          | none => rfl
          | some o => rw [upd_ne (ne_of_none e' nx), upd_ne (ne_of_none e' nd), e'] at e; cases e
        have s1 : Same H H1 := Same.made nx nd kp
        refine ⟨_, _, _, rfl, rfl, s1 _ _ R.chs, big (m := 50000) (by rw [List.length_map, List.length_range]; exact g3), ?_⟩
        have S := Step.newChan R s1 nx (back nq) (back ns) (back nr) (ne_of_none upd_same nq) (ne_of_none upd_same ns) (ne_of_none upd_same nr) qs qr sr hx hq hs hr'
        obtain ⟨dh2, hh2⟩ := S.rep.held
        have eh := S.at_ (r := .held) trivial
        have ec := S.at_ (r := .chs) trivial
        have et := S.at_ (r := .task n) hn
        have eo := S.at_ (r := .orders) (by show M.ords.isSome = true; rw [ho]; rfl)
        have hch := S.rep.chs
        rw [eh] at hh2
        refine ⟨_, rfl, _, rfl, _, rfl, _, rfl, _, _, dh2, _, _, rfl, hh2, T.l_Held, T.a_Held_channels, hl_chs, _, _, rfl, .inl (SqL.of hch), _, _, rfl, rfl, _, rfl, fun v hv => ?_⟩
        rw [List.length_map, List.length_range, show (M.newChan z).ch.length = M.ch.length + 1 by show (M.ch ++ [_]).length = _; rw [List.length_append]; rfl, show ((M.ch.length + 1 : Nat) : Int) - 1 = (M.ch.length : Int) by omega]
        have S2 := Step.val S.rep [9, (M.ch.length : Int)] hv
        refine ⟨_, _, _, n, v, [9, (M.ch.length : Int)], os, ?_, S2.rep, hn, wput_at, by show 2 ≤ 1000; decide, ho, by omega, (by show M.row.length < _; omega), fun H' W' R' wl kp' => ?_⟩
        · rw [eh, eo, et]
          rfl
        · refine goEq k ((S.trans S2 R).trans (Step.of R' wl kp' fun _ => live_give) R) ?_
          show (if _ then _ else _) = _
          rw [if_pos ⟨hz, by omega⟩]
end
end TT
end
section
set_option Elab.async false
set_option linter.all false
set_option maxRecDepth 100000
set_option maxHeartbeats 2000000
open PySem PySem.Spec PyProof.Rows L2
namespace TT
def MS.recvAt (M : MS) (n i : Nat) (c : Ch) : MS := match c.kept, c.snd with
  | v :: l, [] => (M.setCh i { c with kept := l }).give 0 n v
  | v :: l, u :: l2 => (((((M.setCh i { c with kept := l }).give 0 n v).setCh i { c with kept := l, snd := l2 })).setCh i { c with kept := l ++ [M.val u], snd := l2 }).give 0 u [0]
  | [], u :: l2 => ((M.setCh i { c with snd := l2 }).give 0 n (M.val u)).give 0 u [0]
  | [], [] => (M.setSt n 4 i).setCh i { c with rcv := c.rcv ++ [n] }
def MS.standReceive (M : MS) (n : Nat) (t : List Int) : MS := match M.chanOf t with
  | none => M.wrong n
  | some i => match M.ch[i]? with
    | none => M
    | some c => M.recvAt n i c
section
variable {M : MS} {n i u : Nat} {c : Ch} {v : List Int} {l : List (List Int)} {l2 : List Nat}
theorem recv1 (ek : c.kept = v :: l) (en : c.snd = []) : M.recvAt n i c = (M.setCh i { c with kept := l }).give 0 n v := by
  obtain ⟨room, kept, snd, rcv⟩ := c
  cases ek
  cases en
  rfl
theorem recv2 (ek : c.kept = v :: l) (en : c.snd = u :: l2) : M.recvAt n i c = (((((M.setCh i { c with kept := l }).give 0 n v).setCh i { c with kept := l, snd := l2 })).setCh i { c with kept := l ++ [M.val u], snd := l2 }).give 0 u [0] := by
  obtain ⟨room, kept, snd, rcv⟩ := c
  cases ek
  cases en
  rfl
theorem recv3 (ek : c.kept = []) (en : c.snd = u :: l2) : M.recvAt n i c = ((M.setCh i { c with snd := l2 }).give 0 n (M.val u)).give 0 u [0] := by
  obtain ⟨room, kept, snd, rcv⟩ := c
  cases ek
  cases en
  rfl
theorem recv4 (ek : c.kept = []) (en : c.snd = []) : M.recvAt n i c = (M.setSt n 4 i).setCh i { c with rcv := c.rcv ++ [n] } := by
  obtain ⟨room, kept, snd, rcv⟩ := c
  cases ek
  cases en
  rfl
end
def sp_stand_at_receive (a : Ad) : Sp := fun vs H Q _ => ∃ (A : Nm) (W : Wd) (M : MS) (n : Nat) (p : Addr) (l : List Int), vs = [.ref (A .held), .ref (A .orders), .ref (A (.task n)), .ref p] ∧ Pre a H A W M n ∧ W p = some l ∧ Go a H A W M (M.standReceive n l) Q .non
def MS.stand (M : MS) (n : Nat) (at_ : Int) (vs : List (List Int)) : MS :=
  if at_ = 41 then M.standSpawn n else if at_ = 42 then M.give 0 n [0] else if at_ = 43 then M.standChannel n (vs.getD 0 []) else if at_ = 44 then M.standSend n (vs.getD 0 []) (vs.getD 1 [])
  else if at_ = 45 then M.standReceive n (vs.getD 0 []) else if at_ = 46 then M.standEnd n (vs.getD 0 []) else M.standSleep n (vs.getD 0 [])
def sp_stand (a : Ad) : Sp := fun vs H Q _ => ∃ (A : Nm) (W : Wd) (M : MS) (n : Nat) (z : Int) (p : Addr) (ps : List Addr) (ls : List (List Int)), vs = [.ref (A .held), .ref (A .orders), .ref (A (.task n)), .int z, .ref p, .ref (A .clock)] ∧ Pre a H A W M n ∧ H p = some (.lst (ps.map V.ref)) ∧ Toks W ps ls ∧
  M.clk.isSome = true ∧ (ls.length : Int) = wantedN z ∧ (∀ l ∈ ls, l.length ≤ 1000) ∧ Go a H A W M (M.stand n z ls) Q .non
theorem pop0 {l : Addr} {y : V} {ys : List V} {H : Hp} {Q : VK} (h : H l = some (.lst (y :: ys))) (q : Q y (upd H l (.lst ys))) : rPopAt (.ref l) [.int 0] H Q :=
  ⟨l, y :: ys, 0, 0, y, rfl, rfl, h, by decide, by decide, seqIndex_of (by decide) (by rw [List.length_cons]; omega), rfl, q⟩
theorem pop1 {l : Addr} {y : V} {ys : List V} {H : Hp} {Q : VK} {σ : L2.St} (h : H l = some (.lst (y :: ys))) (q : Q y (upd H l (.lst ys))) : tCons (tC (.int 0)) tNil σ H (fun xs H2 => rPopAt (.ref l) xs H2 Q) := pop0 h q
theorem get0 {ps : List Addr} {ls : List (List Int)} {W : Wd} (t : Toks W ps ls) {i : Nat} {l : List Int} (h : ls[i]? = some l) : ∃ p, ps[i]? = some p ∧ W p = some l := by
  have hl := t.length
  have hi := lt_of_get h
  obtain ⟨p, hp⟩ : ∃ p, ps[i]? = some p := ⟨_, List.getElem?_eq_getElem (by omega)⟩
  obtain ⟨l', h1, h2⟩ := t.at_ hp
  rw [h] at h1
  cases h1
  exact ⟨p, hp, h2⟩
section
variable {P : Program} {w : World} {K : PySem.W.Frag} {mg : Str → Option Value} {base : Heap} {a : Ad}
theorem ok_stand_at_send (T : Tx K mg a) : FnOk P w K mg base CX0 5 a.f_stand_at_send a.d_stand_at_send ["held", "orders", "task", "target", "value"] (sp_stand_at_send a) := by
  refine T.F_stand_at_send.ok sc_stand_at_send (fun vs H Q E h => ?_) (fun cdv A' outer s H vs Q E hr h => ?_)
  · obtain ⟨A, W, M, n, p, q, l, v, rfl, _⟩ := h
    rfl
  · obtain ⟨A, W, M, n, p, q, l, v, rfl, PR, wp, wq, hv, k⟩ := h
    obtain ⟨R, G, hn, os, ho⟩ := id PR
    have g1 := G.ords os ho
    have g2 := G.row
    obtain ⟨dh, hh⟩ := R.held
    have hp := R.val p l wp
    obtain ⟨dt, pt, ht, wt⟩ := R.task hn
    refine ⟨_, (pss_cons (ps_set (i := 5) sc_stand_at_send.nd rfl (Or.inl rfl) (pe_meth (pv 0) T.l_Held T.M_Held_channel_of (ok_Held_channel_of T) (hr.mono (by decide)) (b_Held_channel_of T) .nil pass0 (pa_cons (pv 3) pa_nil)))
      (pss_one (ps_if (pt_cmp (pc_isN (pv 5))) (pss_one (ps_expr (pe_call (ok_toss_wrong T) (hr.mono (by decide)) rfl T.m_toss_wrong T.F_toss_wrong.kp (b_toss_wrong T) .nil pass0 (pa_cons (pv 0) (pa_cons (pv 1) (pa_cons (pv 2) pa_nil)))))) (pss_one (ps_if (pt_truth (pe_fld (pv 5) rfl) (fun _ => rfl)) (pss_cons (ps_expr (pe_call (ok_hand T) (hr.mono (by decide)) rfl T.m_hand T.F_hand.kp (b_hand T) .nil pass0 (pa_cons (pv 0) (pa_cons (pv 1) (pa_cons (pe_bm PySem.F.plainAttrs_list PySem.F.slot_list_pop PySem.F.type_list_pop mt_popAt (pe_fld (pv 5) rfl) (pa_cons pe_int pa_nil)) (pa_cons (pv 4) pa_nil))))))
      (pss_one (ps_expr (pe_call (ok_hand T) (hr.mono (by decide)) rfl T.m_hand T.F_hand.kp (b_hand T) .nil pass0 (pa_cons (pv 0) (pa_cons (pv 1) (pa_cons (pv 2) (pa_cons (pe_call0 (ok_nothing T) (hr.mono (by decide)) rfl T.m_nothing T.F_nothing.kp (b_nothing T) .nil pass0) pa_nil)))))))) (pss_one (ps_if (pt_cmp (pc_lt (pe_callB (call_len_seq) (by rfl) T.n_len PySem.boot_len (pa_cons (pe_fld (pv 5) rfl) pa_nil)) (pe_fld (pv 5) rfl))) (pss_cons (ps_expr (pe_bm PySem.F.plainAttrs_list PySem.F.slot_list_append PySem.F.type_list_append mt_append (pe_fld (pv 5) rfl) (pa_cons (pv 4) pa_nil)))
      (pss_one (ps_expr (pe_call (ok_hand T) (hr.mono (by decide)) rfl T.m_hand T.F_hand.kp (b_hand T) .nil pass0 (pa_cons (pv 0) (pa_cons (pv 1) (pa_cons (pv 2) (pa_cons (pe_call0 (ok_nothing T) (hr.mono (by decide)) rfl T.m_nothing T.F_nothing.kp (b_nothing T) .nil pass0) pa_nil)))))))) (pss_cons (ps_fld (pv 2) (pv 4) rfl)
      (pss_cons (ps_expr (pe_meth (pv 2) T.l_Task T.M_Task_wait (ok_Task_wait T) (hr.mono (by decide)) (b_Task_wait T) .nil pass0 (pa_cons (pe_glob (v := .int (3)) rfl T.c_SENDING ⟨_, rfl⟩) (pa_cons (pe_ix ix_list (pv 3) pe_int (fun _ _ => rfl)) pa_nil))))
      (pss_one (ps_expr (pe_bm PySem.F.plainAttrs_list PySem.F.slot_list_append PySem.F.type_list_append mt_append (pe_fld (pv 5) rfl) (pa_cons (pv 2) pa_nil))))))))))))), ?_⟩
    refine ⟨_, rfl, _, dh, _, rfl, hh, rfl, _, rfl, A, W, M, p, l, rfl, R, wp, ?_⟩
    cases e : M.chanOf l with
    | none =>
      refine ⟨_, rfl, _, rfl, ?_⟩
      refine iteT ?_
      exact ⟨_, rfl, _, rfl, _, rfl, A, W, M, n, rfl, PR, fun H' A' W' s => goEq k s (by rw [MS.standSend, e])⟩
    | some i =>
      obtain ⟨c, hc⟩ := chanOf_get e
      have el := chanOf_is e
      obtain ⟨dc, hcn⟩ := R.chan hc
      have hrc := R.rcv hc
      refine ⟨_, rfl, _, rfl, ?_⟩
      refine iteF ?_
      refine ⟨_, rfl, _, _, dc, _, _, rfl, hcn, T.l_Channel, T.a_Channel_receivers, cl_rcv, _, .inl ⟨_, SqL.of hrc, rfl⟩, ?_⟩
      cases er : c.rcv with
      | cons r rl =>
        refine iteT ?_
        have hrn : r ∈ M.ks := G.cl.rcv i c hc r (by rw [er]; exact List.mem_cons_self)
        have hrc' : H (A (.rcv i)) = some (.lst (V.ref (A (.task r)) :: rs A rl)) := by rw [hrc, er]; rfl
        have R1 := R.setRcv hc rl
        have S1 : Step a H A W M _ A W _ := Step.of R1 (WLe.refl W) (Keep.put (r0 := .rcv i) (lt_of_get hc)) fun _ => live_setCh
        refine ⟨_, rfl, _, rfl, _, rfl, _, _, dc, _, _, rfl, hcn, T.l_Channel, T.a_Channel_receivers, cl_rcv, .inl ⟨rfl, _, SqL.of hrc⟩, pop1 hrc' ?_⟩
        refine ⟨_, rfl, A, W, _, r, q, v, os, rfl, R1, hrn, wq, hv, ho, by omega, (by show M.row.length < _; omega), fun H2 W2 R2 wl2 k2 => ?_⟩
        have S2 := S1.trans (Step.of R2 wl2 k2 fun _ => live_give) R
        refine ⟨_, rfl, _, rfl, _, rfl, rfl, fun x hx => ?_⟩
        have S3 := S2.trans (Step.val R2 [0] hx) R
        refine ⟨A, _, _, n, x, [0], os ++ [ordV 0 r v], rfl, S3.rep, hn, wput_at, by show 1 ≤ 1000; decide, ?_, by rw [List.length_append]; show _ + 1 < _; omega, by show (M.row ++ [r]).length < _; rw [List.length_append]; show _ + 1 < _; omega, fun H4 W4 R4 wl4 k4 => ?_⟩
        · show (M.ords.map _) = _; rw [ho]; rfl
        · refine goEq k (S3.trans (Step.of R4 wl4 k4 fun _ => live_give) R) ?_
          rw [MS.standSend, e]
          dsimp only
          rw [hc]
          dsimp only
          rw [er]
      | nil =>
        refine iteF ?_
        obtain ⟨ps, hk, tk⟩ := R.kept hc
        refine ⟨_, rfl, _, _, dc, _, _, rfl, hcn, T.l_Channel, T.a_Channel_kept, cl_kept, _, _, rfl, .inl (SqL.of hk), _, rfl, _, _, dc, _, _, rfl, hcn, T.l_Channel, T.a_Channel_room, cl_room, _, _, rfl, rfl, _, rfl, ?_⟩
        refine ite2 (fun h => ?_) (fun h => ?_)
        · rw [decide_eq_true_eq, List.length_map, tk.length] at h
          refine ⟨_, rfl, _, _, dc, _, _, rfl, hcn, T.l_Channel, T.a_Channel_kept, cl_kept, .inl ⟨rfl, _, SqL.of hk⟩, _, rfl, _, _, _, rfl, rfl, hk, big (m := 100000) (by rw [List.length_map, tk.length]; exact (G.kept i c hc).1), ?_⟩
          have R1 := R.setKept hc (ps := ps ++ [q]) (l := c.kept ++ [v]) (tk.snoc wq)
          rw [List.map_append] at R1
          have S1 : Step a H A W M _ A W _ := Step.of R1 (WLe.refl W) (Keep.put (r0 := .kept i) (lt_of_get hc)) fun _ => live_setCh
          refine ⟨_, rfl, _, rfl, _, rfl, rfl, fun x hx => ?_⟩
          have S2 := S1.trans (Step.val R1 [0] hx) R
          refine ⟨A, _, _, n, x, [0], os, rfl, S2.rep, hn, wput_at, by show 1 ≤ 1000; decide, ho, by omega, (by show M.row.length < _; omega), fun H3 W3 R3 wl3 k3 => ?_⟩
          refine goEq k (S2.trans (Step.of R3 wl3 k3 fun _ => live_give) R) ?_
          rw [MS.standSend, e]
          dsimp only
          rw [hc]
          dsimp only
          rw [er]
          dsimp only
          rw [if_pos h]
        · rw [decide_eq_true_eq, List.length_map, tk.length] at h
          refine ⟨_, rfl, _, rfl, _, _, dt, _, rfl, ht, T.l_Task, T.a_Task_value, (by show 5 < 1000; decide), ?_⟩
          have R1 := R.setVal hn (dx := dt) wq
          have S1 : Step a H A W M _ A W _ := Step.of R1 (WLe.refl W) (Keep.put (r0 := .task n) hn) fun _ => live_setVal
          obtain ⟨dt1, pt1, ht1, wt1⟩ := R1.task (n := n) hn
          have hp1 := R1.val p l wp
          rw [el] at hp1
          refine ⟨_, rfl, _, dt1, _, rfl, ht1, rfl, _, rfl, p, _, _, _, rfl, rfl, SqL.of hp1, atI_nat (j := 1) rfl, A, W, _, n, 3, i, rfl, R1, hn, fun H2 R2 k2 => ?_⟩
          have S2 := S1.trans (Step.of R2 (WLe.refl W) k2 fun _ => live_setSt') R
          obtain ⟨dc2, hcn2⟩ := R2.chan (i := i) hc
          have hs2 := R2.snd (i := i) hc
          refine ⟨_, rfl, _, _, dc2, _, _, rfl, hcn2, T.l_Channel, T.a_Channel_senders, cl_snd, .inl ⟨rfl, _, SqL.of hs2⟩, _, rfl, _, _, _, rfl, rfl, hs2, big (m := 50000) (by rw [rs, List.length_map]; exact G.snd i c hc), ?_⟩
          have R3 := R2.setSnd (i := i) hc (c.snd ++ [n])
          rw [show rs A (c.snd ++ [n]) = rs A c.snd ++ [V.ref (A (.task n))] from List.map_append] at R3
          refine goEq k (S2.trans (Step.of R3 (WLe.refl W) (Keep.put (r0 := .snd i) (lt_of_get (l := M.ch) hc)) fun _ => live_setCh) R) ?_
          rw [MS.standSend, e]
          dsimp only
          rw [hc]
          dsimp only
          rw [er]
          dsimp only
          rw [if_neg h]
end
end TT
end
section
set_option Elab.async false
set_option linter.all false
set_option maxRecDepth 100000
set_option maxHeartbeats 2000000
open PySem PySem.Spec PyProof.Rows L2
namespace TT
section
variable {P : Program} {w : World} {K : PySem.W.Frag} {mg : Str → Option Value} {base : Heap} {a : Ad}
theorem ok_stand_at_receive (T : Tx K mg a) : FnOk P w K mg base CX0 5 a.f_stand_at_receive a.d_stand_at_receive ["held", "orders", "task", "target"] (sp_stand_at_receive a) := by
  refine T.F_stand_at_receive.ok sc_stand_at_receive (fun vs H Q E h => ?_) (fun cdv A' outer s H vs Q E hr h => ?_)
  · obtain ⟨A, W, M, n, p, l, rfl, _⟩ := h
    rfl
  · obtain ⟨A, W, M, n, p, l, rfl, PR, wp, k⟩ := h
    obtain ⟨R, G, hn, os, ho⟩ := id PR
    have g1 := G.ords os ho
    have g2 := G.row
    obtain ⟨dh, hh⟩ := R.held
    have hp := R.val p l wp
    obtain ⟨dt, pt, ht, wt⟩ := R.task hn
    refine ⟨_, (pss_cons (ps_set (i := 4) sc_stand_at_receive.nd rfl (Or.inl rfl) (pe_meth (pv 0) T.l_Held T.M_Held_channel_of (ok_Held_channel_of T) (hr.mono (by decide)) (b_Held_channel_of T) .nil pass0 (pa_cons (pv 3) pa_nil)))
      (pss_one (ps_if (pt_cmp (pc_isN (pv 4))) (pss_one (ps_expr (pe_call (ok_toss_wrong T) (hr.mono (by decide)) rfl T.m_toss_wrong T.F_toss_wrong.kp (b_toss_wrong T) .nil pass0 (pa_cons (pv 0) (pa_cons (pv 1) (pa_cons (pv 2) pa_nil)))))) (pss_one (ps_if (pt_truth (pe_fld (pv 4) rfl) (fun _ => rfl)) (pss_cons (ps_expr (pe_call (ok_hand T) (hr.mono (by decide)) rfl T.m_hand T.F_hand.kp (b_hand T) .nil pass0 (pa_cons (pv 0) (pa_cons (pv 1) (pa_cons (pv 2) (pa_cons (pe_bm PySem.F.plainAttrs_list PySem.F.slot_list_pop PySem.F.type_list_pop mt_popAt (pe_fld (pv 4) rfl) (pa_cons pe_int pa_nil)) pa_nil))))))
      (pss_one (ps_if (pt_truth (pe_fld (pv 4) rfl) (fun _ => rfl)) (pss_cons (ps_set (i := 5) sc_stand_at_receive.nd rfl (Or.inl rfl) (pe_bm PySem.F.plainAttrs_list PySem.F.slot_list_pop PySem.F.type_list_pop mt_popAt (pe_fld (pv 4) rfl) (pa_cons pe_int pa_nil)))
      (pss_cons (ps_expr (pe_bm PySem.F.plainAttrs_list PySem.F.slot_list_append PySem.F.type_list_append mt_append (pe_fld (pv 4) rfl) (pa_cons (pe_fld (pv 5) rfl) pa_nil)))
      (pss_one (ps_expr (pe_call (ok_hand T) (hr.mono (by decide)) rfl T.m_hand T.F_hand.kp (b_hand T) .nil pass0 (pa_cons (pv 0) (pa_cons (pv 1) (pa_cons (pv 5) (pa_cons (pe_call0 (ok_nothing T) (hr.mono (by decide)) rfl T.m_nothing T.F_nothing.kp (b_nothing T) .nil pass0) pa_nil))))))))) pss_nil))) (pss_one (ps_if (pt_truth (pe_fld (pv 4) rfl) (fun _ => rfl)) (pss_cons (ps_set (i := 5) sc_stand_at_receive.nd rfl (Or.inl rfl) (pe_bm PySem.F.plainAttrs_list PySem.F.slot_list_pop PySem.F.type_list_pop mt_popAt (pe_fld (pv 4) rfl) (pa_cons pe_int pa_nil)))
      (pss_cons (ps_expr (pe_call (ok_hand T) (hr.mono (by decide)) rfl T.m_hand T.F_hand.kp (b_hand T) .nil pass0 (pa_cons (pv 0) (pa_cons (pv 1) (pa_cons (pv 2) (pa_cons (pe_fld (pv 5) rfl) pa_nil))))))
      (pss_one (ps_expr (pe_call (ok_hand T) (hr.mono (by decide)) rfl T.m_hand T.F_hand.kp (b_hand T) .nil pass0 (pa_cons (pv 0) (pa_cons (pv 1) (pa_cons (pv 5) (pa_cons (pe_call0 (ok_nothing T) (hr.mono (by decide)) rfl T.m_nothing T.F_nothing.kp (b_nothing T) .nil pass0) pa_nil))))))))) (pss_cons (ps_expr (pe_meth (pv 2) T.l_Task T.M_Task_wait (ok_Task_wait T) (hr.mono (by decide)) (b_Task_wait T) .nil pass0 (pa_cons (pe_glob (v := .int (4)) rfl T.c_RECEIVING ⟨_, rfl⟩) (pa_cons (pe_ix ix_list (pv 3) pe_int (fun _ _ => rfl)) pa_nil))))
      (pss_one (ps_expr (pe_bm PySem.F.plainAttrs_list PySem.F.slot_list_append PySem.F.type_list_append mt_append (pe_fld (pv 4) rfl) (pa_cons (pv 2) pa_nil)))))))))))), ?_⟩
    refine ⟨_, rfl, _, dh, _, rfl, hh, rfl, _, rfl, A, W, M, p, l, rfl, R, wp, ?_⟩
    cases e : M.chanOf l with
    | none =>
      refine ⟨_, rfl, _, rfl, ?_⟩
      refine iteT ?_
      exact ⟨_, rfl, _, rfl, _, rfl, A, W, M, n, rfl, PR, fun H' A' W' s => goEq k s (by rw [MS.standReceive, e])⟩
    | some i =>
      obtain ⟨c, hc⟩ := chanOf_get e
      have el := chanOf_is e
      obtain ⟨dc, hcn⟩ := R.chan hc
      have hsn := R.snd hc
      obtain ⟨ps, hk, tk⟩ := R.kept hc
      have es : M.standReceive n l = M.recvAt n i c := by
        rw [MS.standReceive, e]
        dsimp only
        rw [hc]
      refine ⟨_, rfl, _, rfl, ?_⟩
      refine iteF ?_
      refine ⟨_, rfl, _, _, dc, _, _, rfl, hcn, T.l_Channel, T.a_Channel_kept, cl_kept, _, .inl ⟨_, SqL.of hk, rfl⟩, ?_⟩
      cases ek : c.kept with
      | cons v l1 =>
        rw [ek] at tk
        have hv : v.length ≤ 1000 := (G.kept i c hc).2 v (by rw [ek]; exact List.mem_cons_self)
        cases tk with
        | @cons p0 _ ps1 _ w0 tk1 =>
        refine iteT ?_
        have R1 := R.setKept hc tk1
        have S1 : Step a H A W M _ A W _ := Step.of R1 (WLe.refl W) (Keep.put (r0 := .kept i) (lt_of_get hc)) fun _ => live_setCh
        refine ⟨_, rfl, _, rfl, _, rfl, _, rfl, _, _, dc, _, _, rfl, hcn, T.l_Channel, T.a_Channel_kept, cl_kept, .inl ⟨rfl, _, SqL.of hk⟩, pop1 hk ?_⟩
        refine ⟨A, W, _, n, p0, v, os, rfl, R1, hn, w0, hv, ho, by omega, (by show M.row.length < _; omega), fun H2 W2 R2 wl2 k2 => ?_⟩
        have S2 := S1.trans (Step.of R2 wl2 k2 fun _ => live_give) R
        have hc2 : ((M.setCh i { c with kept := l1 }).give 0 n v).ch[i]? = some { c with kept := l1 } := ch_self hc
        obtain ⟨dc2, hcn2⟩ := R2.chan hc2
        have hsn2 := R2.snd hc2
        refine ⟨_, rfl, _, _, dc2, _, _, rfl, hcn2, T.l_Channel, T.a_Channel_senders, cl_snd, _, .inl ⟨_, SqL.of hsn2, rfl⟩, ?_⟩
        cases en : c.snd with
        | nil =>
          refine iteF ?_
          exact goEq k S2 (by rw [es, recv1 ek en])
        | cons u l2 =>
          refine iteT ?_
          have hun : u ∈ M.ks := G.cl.snd i c hc u (by rw [en]; exact List.mem_cons_self)
          have hsn2' : H2 (A (.snd i)) = some (.lst (V.ref (A (.task u)) :: rs A l2)) := by rw [hsn2]; show some (HO.lst (rs A c.snd)) = _; rw [en]; rfl
          have R3 := R2.setSnd hc2 l2
          have S3 := S2.trans (Step.of R3 (WLe.refl W2) (Keep.put (r0 := .snd i) (lt_of_get hc2)) fun _ => live_setCh) R
          refine ⟨_, rfl, _, _, dc2, _, _, rfl, hcn2, T.l_Channel, T.a_Channel_senders, cl_snd, .inl ⟨rfl, _, SqL.of hsn2⟩, pop1 hsn2' ?_⟩
          have hc3 : (((M.setCh i { c with kept := l1 }).give 0 n v).setCh i { c with kept := l1, snd := l2 }).ch[i]? = some { c with kept := l1, snd := l2 } := ch_self hc2
          obtain ⟨dc3, hcn3⟩ := R3.chan hc3
          obtain ⟨ps3, hk3, tk3⟩ := R3.kept hc3
          obtain ⟨du3, pu3, hu3, wu3⟩ := R3.task (n := u) hun
          have hz : l1.length < 100000 := by
            have h := (G.kept i c hc).1
            rw [ek, List.length_cons] at h
            omega
          refine ⟨_, rfl, _, _, dc3, _, _, rfl, hcn3, T.l_Channel, T.a_Channel_kept, cl_kept, .inl ⟨rfl, _, SqL.of hk3⟩, _, rfl, _, _, du3, _, _, rfl, hu3, T.l_Task, T.a_Task_value, tl_value, _, _, _, rfl, rfl, hk3, big (m := 100000) (by rw [List.length_map, tk3.length]; exact hz), ?_⟩
          have R4 := R3.setKept hc3 (ps := ps3 ++ [pu3]) (l := l1 ++ [M.val u]) (tk3.snoc wu3)
          rw [List.map_append] at R4
          have S4 := S3.trans (Step.of R4 (WLe.refl W2) (Keep.put (r0 := .kept i) (lt_of_get hc3)) fun _ => live_setCh) R
          refine ⟨_, rfl, _, rfl, _, rfl, rfl, fun x hx => ?_⟩
          have S5 := S4.trans (Step.val R4 [0] hx) R
          refine ⟨A, _, _, u, x, [0], os ++ [ordV 0 n v], rfl, S5.rep, hun, wput_at, by show 1 ≤ 1000; decide, ?_, by rw [List.length_append]; show _ + 1 < _; omega, by show (M.row ++ [n]).length < _; rw [List.length_append]; show _ + 1 < _; omega, fun H6 W6 R6 wl6 k6 => ?_⟩
          · show (M.ords.map _) = _; rw [ho]; rfl
          · exact goEq k (S5.trans (Step.of R6 wl6 k6 fun _ => live_give) R) (by rw [es, recv2 ek en])
      | nil =>
        rw [ek] at tk
        cases tk
        refine iteF ?_
        refine ⟨_, rfl, _, _, dc, _, _, rfl, hcn, T.l_Channel, T.a_Channel_senders, cl_snd, _, .inl ⟨_, SqL.of hsn, rfl⟩, ?_⟩
        cases en : c.snd with
        | cons u l2 =>
          refine iteT ?_
          have hun : u ∈ M.ks := G.cl.snd i c hc u (by rw [en]; exact List.mem_cons_self)
          have hsn' : H (A (.snd i)) = some (.lst (V.ref (A (.task u)) :: rs A l2)) := by rw [hsn, en]; rfl
          have R1 := R.setSnd hc l2
          have S1 : Step a H A W M _ A W _ := Step.of R1 (WLe.refl W) (Keep.put (r0 := .snd i) (lt_of_get hc)) fun _ => live_setCh
          refine ⟨_, rfl, _, _, dc, _, _, rfl, hcn, T.l_Channel, T.a_Channel_senders, cl_snd, .inl ⟨rfl, _, SqL.of hsn⟩, pop1 hsn' ?_⟩
          obtain ⟨du, pu, hu, wu⟩ := R1.task (n := u) hun
          refine ⟨_, rfl, _, rfl, _, rfl, _, rfl, _, _, du, _, _, rfl, hu, T.l_Task, T.a_Task_value, tl_value, A, W, _, n, pu, M.val u, os, rfl, R1, hn, wu, G.val u hun, ho, by omega, (by show M.row.length < _; omega), fun H2 W2 R2 wl2 k2 => ?_⟩
          have S2 := S1.trans (Step.of R2 wl2 k2 fun _ => live_give) R
          refine ⟨_, rfl, _, rfl, _, rfl, rfl, fun x hx => ?_⟩
          have S3 := S2.trans (Step.val R2 [0] hx) R
          refine ⟨A, _, _, u, x, [0], os ++ [ordV 0 n (M.val u)], rfl, S3.rep, hun, wput_at, by show 1 ≤ 1000; decide, ?_, by rw [List.length_append]; show _ + 1 < _; omega, by show (M.row ++ [n]).length < _; rw [List.length_append]; show _ + 1 < _; omega, fun H4 W4 R4 wl4 k4 => ?_⟩
          · show (M.ords.map _) = _; rw [ho]; rfl
          · exact goEq k (S3.trans (Step.of R4 wl4 k4 fun _ => live_give) R) (by rw [es, recv3 ek en])
        | nil =>
          refine iteF ?_
          rw [el] at hp
          refine ⟨_, rfl, _, dt, _, rfl, ht, rfl, _, rfl, p, _, _, _, rfl, rfl, SqL.of hp, atI_nat (j := 1) rfl, A, W, _, n, 4, i, rfl, R, hn, fun H2 R2 k2 => ?_⟩
          have S2 : Step a H A W M _ A W _ := Step.of R2 (WLe.refl W) k2 fun _ => live_setSt'
          obtain ⟨dc2, hcn2⟩ := R2.chan (i := i) hc
          have hr2 := R2.rcv (i := i) hc
          refine ⟨_, rfl, _, _, dc2, _, _, rfl, hcn2, T.l_Channel, T.a_Channel_receivers, cl_rcv, .inl ⟨rfl, _, SqL.of hr2⟩, _, rfl, _, _, _, rfl, rfl, hr2, big (m := 50000) (by rw [rs, List.length_map]; exact G.rcv i c hc), ?_⟩
          have R3 := R2.setRcv (i := i) hc (c.rcv ++ [n])
          rw [show rs A (c.rcv ++ [n]) = rs A c.rcv ++ [V.ref (A (.task n))] from List.map_append] at R3
          refine goEq k (S2.trans (Step.of R3 (WLe.refl W) (Keep.put (r0 := .rcv i) (lt_of_get (l := M.ch) hc)) fun _ => live_setCh) R) ?_
          rw [es, recv4 ek en]
theorem ok_stand_at_sleep (T : Tx K mg a) : FnOk P w K mg base CX0 5 a.f_stand_at_sleep a.d_stand_at_sleep ["held", "orders", "task", "value", "clock"] (sp_stand_at_sleep a) := by
  refine T.F_stand_at_sleep.ok sc_stand_at_sleep (fun vs H Q E h => ?_) (fun cdv A' outer s H vs Q E hr h => ?_)
  · obtain ⟨A, W, M, n, p, l, rfl, _⟩ := h
    rfl
  · obtain ⟨A, W, M, n, p, l, rfl, PR, wp, hck, k⟩ := h
    obtain ⟨R, G, hn, os, ho⟩ := id PR
    have g1 := G.ords os ho
    have g2 := G.row
    obtain ⟨dh, hh⟩ := R.held
    have hp := R.val p l wp
    refine ⟨_, (pss_cons (ps_if (pt_not (pt_truth (pe_call (ok_is_whole T) (hr.mono (by decide)) rfl T.m_is_whole T.F_is_whole.kp (b_is_whole T) .nil pass0 (pa_cons (pv 3) pa_nil)) (fun _ => rfl))) (pss_cons (ps_expr (pe_call (ok_toss_wrong T) (hr.mono (by decide)) rfl T.m_toss_wrong T.F_toss_wrong.kp (b_toss_wrong T) .nil pass0 (pa_cons (pv 0) (pa_cons (pv 1) (pa_cons (pv 2) pa_nil)))))
      (pss_one ps_retN)) pss_nil)
      (pss_cons (ps_expr (pe_meth (pv 0) T.l_Held T.M_Held_hear (ok_Held_hear T) (hr.mono (by decide)) (b_Held_hear T) .nil pass0 (pa_cons (pe_meth0 (pv 4) T.l_Clock T.M_Clock_ask (ok_Clock_ask T) (hr.mono (by decide)) (b_Clock_ask T) .nil pass0) pa_nil)))
      (pss_cons (ps_set (i := 5) sc_stand_at_sleep.nd rfl (Or.inl rfl) (pe_callB (call_min2 rfl) (by rfl) T.n_min PyProof.Rows.boot_min (pa_cons (pe_op op_add (pe_fld (pv 0) rfl) (pe_callB (call_max2 rfl) (by rfl) T.n_max PyProof.Rows.boot_max (pa_cons (pe_ix ix_list (pv 3) pe_int (fun _ _ => rfl)) (pa_cons pe_int pa_nil)))) (pa_cons (pe_glob (v := .int (4611686018427387904)) rfl T.c_LAST_TIME ⟨_, rfl⟩) pa_nil))))
      (pss_one (ps_if (pt_cmp (pc_le (pv 5) (pe_fld (pv 0) rfl))) (pss_one (ps_expr (pe_call (ok_hand T) (hr.mono (by decide)) rfl T.m_hand T.F_hand.kp (b_hand T) .nil pass0 (pa_cons (pv 0) (pa_cons (pv 1) (pa_cons (pv 2) (pa_cons (pe_call0 (ok_nothing T) (hr.mono (by decide)) rfl T.m_nothing T.F_nothing.kp (b_nothing T) .nil pass0) pa_nil))))))) (pss_one (ps_expr (pe_meth (pv 2) T.l_Task T.M_Task_wait (ok_Task_wait T) (hr.mono (by decide)) (b_Task_wait T) .nil pass0 (pa_cons (pe_glob (v := .int (6)) rfl T.c_AWAITING_TIME ⟨_, rfl⟩) (pa_cons (pv 5) pa_nil)))))))))), ?_⟩
    refine ⟨_, rfl, p, l, rfl, hp, _, rfl, ?_⟩
    cases hb : isKindB l 2 with
    | false =>
      refine iteT ?_
      exact ⟨_, rfl, _, rfl, _, rfl, A, W, M, n, rfl, PR, fun H' A' W' s => goEq k s (standSleep_not (by rw [hb]; decide))⟩
    | true =>
      refine iteF ?_
      obtain ⟨z, rfl⟩ := kind2 hb
      obtain ⟨⟨rl, i⟩, hck'⟩ := Option.isSome_iff_exists.mp hck
      obtain ⟨dc, pc, hcl, wc⟩ := R.clock hck'
      have er : M.reply = rl.getD i 0 := by rw [MS.reply, hck']
      refine ⟨_, rfl, _, dh, _, rfl, hh, rfl, _, rfl, _, dc, _, rfl, hcl, rfl, A, W, M, rl, i, rfl, R, hck', fun H1 R1 k1 => ?_⟩
      refine ⟨A, W, M.ask, rl.getD i 0, rfl, R1, fun H2 R2 k2 => ?_⟩
      rw [← er] at R2
      have R2' : Rep a H2 A W M.heard := R2
      have S2 : Step a H A W M H2 A W M.heard := (Step.of R1 (WLe.refl W) k1 fun _ => live_ask).trans (Step.of R2' (WLe.refl W) k2 fun _ => live_hear) R
      obtain ⟨dh2, hh2⟩ := R2'.held
      have hp2 := R2'.val p [2, z] wp
      refine ⟨_, rfl, _, _, dh2, _, _, rfl, hh2, T.l_Held, T.a_Held_now, hl_now, _, rfl, p, _, _, _, rfl, rfl, SqL.of hp2, atI_nat (j := 1) rfl, _, _, rfl, _, _, rfl, rfl, _, _, rfl, ?_⟩
      refine ⟨_, rfl, _, rfl, _, _, dh2, _, _, rfl, hh2, T.l_Held, T.a_Held_now, hl_now, _, _, rfl, rfl, _, rfl, ?_⟩
      have ho2 : M.heard.ords = some os := ho
      refine ite2 (fun h => ?_) (fun h => ?_)
      · have h' : tillOf M.heard.now z ≤ M.heard.now := of_decide_eq_true (show decide (tillOf M.heard.now z ≤ M.heard.now) = true from h)
        refine ⟨_, rfl, _, rfl, _, rfl, rfl, fun x hx => ?_⟩
        have S3 := S2.trans (Step.val R2' [0] hx) R
        refine ⟨A, _, _, n, x, [0], os, rfl, S3.rep, hn, wput_at, by show 1 ≤ 1000; decide, ho2, by omega, (by show M.row.length < _; omega), fun H4 W4 R4 wl4 k4 => ?_⟩
        refine goEq k (S3.trans (Step.of R4 wl4 k4 fun _ => live_give) R) ?_
        show (if _ then _ else _) = _
        rw [if_pos h']
      · have h' : ¬ tillOf M.heard.now z ≤ M.heard.now := fun q => h (show decide (tillOf M.heard.now z ≤ M.heard.now) = true from decide_eq_true q)
        obtain ⟨dt2, pt2, ht2, wt2⟩ := R2'.task (n := n) hn
        refine ⟨_, rfl, _, dt2, _, rfl, ht2, rfl, _, rfl, A, W, _, n, 6, _, rfl, R2', hn, fun H3 R3 k3 => ?_⟩
        refine goEq k (S2.trans (Step.of R3 (WLe.refl W) k3 fun _ => live_setSt') R) ?_
        show (if _ then _ else _) = _
        rw [if_neg h']
        rfl
theorem ok_stand (T : Tx K mg a) : FnOk P w K mg base CX0 6 a.f_stand a.d_stand ["held", "orders", "task", "at", "values", "clock"] (sp_stand a) := by
  refine T.F_stand.ok sc_stand (fun vs H Q E h => ?_) (fun cdv A' outer s H vs Q E hr h => ?_)
  · obtain ⟨A, W, M, n, z, p, ps, ls, rfl, _⟩ := h
    rfl
  · obtain ⟨A, W, M, n, z, p, ps, ls, rfl, PR, hp, tk, hck, hw, hv, k⟩ := h
    obtain ⟨R, G, hn, os, ho⟩ := id PR
    have g1 := G.ords os ho
    have g2 := G.row
    have at0 : 1 ≤ ls.length → ∃ p0, atI (ps.map V.ref) (0 : Int) = some (V.ref p0) ∧ W p0 = some (ls.getD 0 []) := fun h => by
      obtain ⟨p0, h1, h2⟩ := get0 tk (i := 0) (List.getElem?_eq_getElem (by omega))
      refine ⟨p0, at_of (j := 0) rfl (by rw [List.getElem?_map, h1]; rfl), ?_⟩
      rw [h2, List.getD_eq_getElem?_getD, List.getElem?_eq_getElem (by omega)]
      rfl
    have at1 : 2 ≤ ls.length → ∃ p0, atI (ps.map V.ref) (1 : Int) = some (V.ref p0) ∧ W p0 = some (ls.getD 1 []) := fun h => by
      obtain ⟨p0, h1, h2⟩ := get0 tk (i := 1) (List.getElem?_eq_getElem (by omega))
      refine ⟨p0, at_of (j := 1) rfl (by rw [List.getElem?_map, h1]; rfl), ?_⟩
      rw [h2, List.getD_eq_getElem?_getD, List.getElem?_eq_getElem (by omega)]
      rfl
    refine ⟨_, (pss_one (ps_if (pt_cmp (pc_eqI (pv 3) (pe_glob (v := .int (41)) rfl T.c_AT_SPAWN ⟨_, rfl⟩))) (pss_one (ps_expr (pe_call (ok_stand_at_spawn T) (hr.mono (by decide)) rfl T.m_stand_at_spawn T.F_stand_at_spawn.kp (b_stand_at_spawn T) .nil pass0 (pa_cons (pv 1) (pa_cons (pv 2) pa_nil))))) (pss_one (ps_if (pt_cmp (pc_eqI (pv 3) (pe_glob (v := .int (42)) rfl T.c_AT_PAUSE ⟨_, rfl⟩))) (pss_one (ps_expr (pe_call (ok_hand T) (hr.mono (by decide)) rfl T.m_hand T.F_hand.kp (b_hand T) .nil pass0 (pa_cons (pv 0) (pa_cons (pv 1) (pa_cons (pv 2) (pa_cons (pe_call0 (ok_nothing T) (hr.mono (by decide)) rfl T.m_nothing T.F_nothing.kp (b_nothing T) .nil pass0) pa_nil))))))) (pss_one (ps_if (pt_cmp (pc_eqI (pv 3) (pe_glob (v := .int (43)) rfl T.c_AT_CHANNEL ⟨_, rfl⟩))) (pss_one (ps_expr (pe_call (ok_stand_at_channel T) (hr.mono (by decide)) rfl T.m_stand_at_channel T.F_stand_at_channel.kp (b_stand_at_channel T) .nil pass0 (pa_cons (pv 0) (pa_cons (pv 1) (pa_cons (pv 2) (pa_cons (pe_ix ix_list (pv 4) pe_int (fun _ _ => rfl)) pa_nil))))))) (pss_one (ps_if (pt_cmp (pc_eqI (pv 3) (pe_glob (v := .int (44)) rfl T.c_AT_SEND ⟨_, rfl⟩))) (pss_one (ps_expr (pe_call (ok_stand_at_send T) (hr.mono (by decide)) rfl T.m_stand_at_send T.F_stand_at_send.kp (b_stand_at_send T) .nil pass0 (pa_cons (pv 0) (pa_cons (pv 1) (pa_cons (pv 2) (pa_cons (pe_ix ix_list (pv 4) pe_int (fun _ _ => rfl)) (pa_cons (pe_ix ix_list (pv 4) pe_int (fun _ _ => rfl)) pa_nil)))))))) (pss_one (ps_if (pt_cmp (pc_eqI (pv 3) (pe_glob (v := .int (45)) rfl T.c_AT_RECEIVE ⟨_, rfl⟩))) (pss_one (ps_expr (pe_call (ok_stand_at_receive T) (hr.mono (by decide)) rfl T.m_stand_at_receive T.F_stand_at_receive.kp (b_stand_at_receive T) .nil pass0 (pa_cons (pv 0) (pa_cons (pv 1) (pa_cons (pv 2) (pa_cons (pe_ix ix_list (pv 4) pe_int (fun _ _ => rfl)) pa_nil))))))) (pss_one (ps_if (pt_cmp (pc_eqI (pv 3) (pe_glob (v := .int (46)) rfl T.c_AT_END ⟨_, rfl⟩))) (pss_one (ps_expr (pe_call (ok_stand_at_end T) (hr.mono (by decide)) rfl T.m_stand_at_end T.F_stand_at_end.kp (b_stand_at_end T) .nil pass0 (pa_cons (pv 0) (pa_cons (pv 1) (pa_cons (pv 2) (pa_cons (pe_ix ix_list (pv 4) pe_int (fun _ _ => rfl)) pa_nil))))))) (pss_one (ps_expr (pe_call (ok_stand_at_sleep T) (hr.mono (by decide)) rfl T.m_stand_at_sleep T.F_stand_at_sleep.kp (b_stand_at_sleep T) .nil pass0 (pa_cons (pv 0) (pa_cons (pv 1) (pa_cons (pv 2) (pa_cons (pe_ix ix_list (pv 4) pe_int (fun _ _ => rfl)) (pa_cons (pv 5) pa_nil)))))))))))))))))))), ?_⟩
    refine ⟨_, rfl, _, _, rfl, rfl, _, rfl, ?_⟩
    refine ite2 (fun h => ?_) (fun h => ?_)
    · have h1 : z = 41 := by simpa using h
      exact ⟨_, rfl, _, rfl, A, W, M, n, rfl, PR, fun H' A' W' s => goEq k s (by rw [MS.stand, if_pos h1])⟩
    have h1 : ¬ z = 41 := by simpa using h
    refine ⟨_, rfl, _, _, rfl, rfl, _, rfl, ?_⟩
    refine ite2 (fun h => ?_) (fun h => ?_)
    · have h2 : z = 42 := by simpa using h
      refine ⟨_, rfl, _, rfl, _, rfl, rfl, fun x hx => ?_⟩
      exact ⟨A, _, M, n, x, [0], os, rfl, R.addVal [0] hx, hn, wput_at, by show 1 ≤ 1000; decide, ho, by omega, by omega, fun H' W' R' wl kp => goEq k ((Step.val R [0] hx).trans (Step.of R' wl kp fun _ => live_give) R) (by rw [MS.stand, if_neg h1, if_pos h2])⟩
    have h2 : ¬ z = 42 := by simpa using h
    refine ⟨_, rfl, _, _, rfl, rfl, _, rfl, ?_⟩
    refine ite2 (fun h => ?_) (fun h => ?_)
    · have h3 : z = 43 := by simpa using h
      obtain ⟨p0, a0, w0⟩ := at0 (by rw [wantedN, if_neg (by omega), if_neg (by omega), if_pos (by omega)] at hw; omega)
      exact ⟨_, rfl, _, rfl, _, rfl, _, rfl, p, _, _, _, rfl, rfl, SqL.of hp, a0, A, W, M, n, p0, _, rfl, PR, w0, fun H' A' W' s => goEq k s (by rw [MS.stand, if_neg h1, if_neg h2, if_pos h3])⟩
    have h3 : ¬ z = 43 := by simpa using h
    refine ⟨_, rfl, _, _, rfl, rfl, _, rfl, ?_⟩
    refine ite2 (fun h => ?_) (fun h => ?_)
    · have h4 : z = 44 := by simpa using h
      have hw2 : ls.length = 2 := by rw [wantedN, if_neg (by omega), if_pos h4] at hw; omega
      obtain ⟨p0, a0, w0⟩ := at0 (by omega)
      obtain ⟨p1, a1, w1⟩ := at1 (by omega)
      refine ⟨_, rfl, _, rfl, _, rfl, _, rfl, p, _, _, _, rfl, rfl, SqL.of hp, a0, _, rfl, p, _, _, _, rfl, rfl, SqL.of hp, a1, A, W, M, n, p0, p1, _, _, rfl, PR, w0, w1, ?_, fun H' A' W' s => goEq k s (by rw [MS.stand, if_neg h1, if_neg h2, if_neg h3, if_pos h4])⟩
      rw [List.getD_eq_getElem?_getD, List.getElem?_eq_getElem (by omega)]
      exact hv _ (List.getElem_mem _)
    have h4 : ¬ z = 44 := by simpa using h
    have w1 : 1 ≤ ls.length := by
      rw [wantedN, if_neg (by omega), if_neg h4] at hw
      by_cases h5 : 43 ≤ z ∧ z ≤ 47
      · rw [if_pos h5] at hw; omega
      · rw [if_neg h5] at hw; omega
    obtain ⟨p0, a0, w0⟩ := at0 w1
    refine ⟨_, rfl, _, _, rfl, rfl, _, rfl, ?_⟩
    refine ite2 (fun h => ?_) (fun h => ?_)
    · have h5 : z = 45 := by simpa using h
      exact ⟨_, rfl, _, rfl, _, rfl, _, rfl, p, _, _, _, rfl, rfl, SqL.of hp, a0, A, W, M, n, p0, _, rfl, PR, w0, fun H' A' W' s => goEq k s (by rw [MS.stand, if_neg h1, if_neg h2, if_neg h3, if_neg h4, if_pos h5])⟩
    have h5 : ¬ z = 45 := by simpa using h
    refine ⟨_, rfl, _, _, rfl, rfl, _, rfl, ?_⟩
    refine ite2 (fun h => ?_) (fun h => ?_)
    · have h6 : z = 46 := by simpa using h
      exact ⟨_, rfl, _, rfl, _, rfl, _, rfl, p, _, _, _, rfl, rfl, SqL.of hp, a0, A, W, M, n, p0, _, rfl, PR, w0, fun H' A' W' s => goEq k s (by rw [MS.stand, if_neg h1, if_neg h2, if_neg h3, if_neg h4, if_neg h5, if_pos h6])⟩
    have h6 : ¬ z = 46 := by simpa using h
    exact ⟨_, rfl, _, rfl, _, rfl, _, rfl, p, _, _, _, rfl, rfl, SqL.of hp, a0, _, rfl, A, W, M, n, p0, _, rfl, PR, w0, hck, fun H' A' W' s => goEq k s (by rw [MS.stand, if_neg h1, if_neg h2, if_neg h3, if_neg h4, if_neg h5, if_neg h6])⟩
end
end TT
end
section
set_option Elab.async false
set_option linter.all false
set_option maxRecDepth 100000
set_option maxHeartbeats 2000000
open PySem PySem.Spec PyProof.Rows L2
namespace TT
def wantedR (why at_ : Int) : Int := if why = 0 then 0 else if why = 1 ∨ why = 2 then 1 else if why = 3 then wantedN at_ else -1
def sp_values_of_ran : Sp := fun vs H Q _ => ∃ y z : Int, vs = [.int y, .int z] ∧ Q (.int (wantedR y z)) H
def MS.endT (M : MS) (n : Nat) (code : Int) (v : List Int) : MS := (M.wt n).foldl (fun N u => N.tellEnd n u) (((M.setSt n code 0).setVal n v).setWt n [])
def sp_end_task (a : Ad) : Sp := fun vs H Q _ => ∃ (A : Nm) (W : Wd) (M : MS) (n : Nat) (code : Int) (p : Addr) (v : List Int), vs = [.ref (A .held), .ref (A .orders), .ref (A (.task n)), .int code, .ref p] ∧ Pre a H A W M n ∧ W p = some v ∧ v.length ≤ 1000 ∧
  Go a H A W M (M.endT n code v) Q .non
def MS.wake1 (N : MS) (n : Nat) : MS := if N.tg n ≤ N.now then N.give 0 n [0] else N
def MS.wake (M : MS) : List Nat → MS
  | [] => M
  | l => l.foldl MS.wake1 M.heard
def sp_wake_sleepers (a : Ad) : Sp := fun vs H Q _ => ∃ (A : Nm) (W : Wd) (M : MS), vs = [.ref (A .held), .ref (A .orders), .ref (A .clock)] ∧ Rep a H A W M ∧ Good M ∧ (∃ os, M.ords = some os) ∧ M.clk.isSome = true ∧
  ∀ H' A' W' l, Sleep M l → Step a H A W M H' A' W' (M.wake l) → Q .non H'
section
variable {N : MS} {u n : Nat} {k : Int} {l : List Int}
theorem give_ks : (N.give k n l).ks = N.ks := rfl
theorem give_row : (N.give k n l).row = N.row ++ [n] := rfl
theorem give_ords {os : List (List Int)} (h : N.ords = some os) : (N.give k n l).ords = some (os ++ [ordV k n l]) := by show N.ords.map _ = _; rw [h]; rfl
theorem tell_is (N : MS) (u n : Nat) : ∃ k, N.tellEnd u n = N.give k n (N.val u) := by
  unfold MS.tellEnd
  split
  · exact ⟨0, rfl⟩
  · exact ⟨1, rfl⟩
theorem fold_tell (n : Nat) : ∀ (l : List Nat) (N : MS) (os : List (List Int)), N.ords = some os →
    (l.foldl (fun N u => N.tellEnd n u) N).ks = N.ks ∧ (l.foldl (fun N u => N.tellEnd n u) N).val = N.val ∧ (l.foldl (fun N u => N.tellEnd n u) N).row.length = N.row.length + l.length ∧ ∃ os', (l.foldl (fun N u => N.tellEnd n u) N).ords = some os' ∧ os'.length = os.length + l.length
  | [], N, os, h => ⟨rfl, rfl, rfl, os, h, rfl⟩
  | u :: l, N, os, h => by
    obtain ⟨k, e⟩ := tell_is N n u
    obtain ⟨h1, h2, h3, os', h4, h5⟩ := fold_tell n l (N.tellEnd n u) (os ++ [ordV k u (N.val n)]) (by rw [e]; exact give_ords h)
    rw [List.foldl_cons]
    refine ⟨h1.trans (by rw [e]; rfl), h2.trans (by rw [e]; rfl), ?_, os', h4, ?_⟩
    · rw [h3, e, give_row]
      simp only [List.length_append, List.length_cons, List.length_nil]
      omega
    · rw [h5]
      simp only [List.length_append, List.length_cons, List.length_nil]
      omega
theorem fold_snoc {α β : Type} (f : β → α → β) (l : List α) (x : α) (b : β) : (l ++ [x]).foldl f b = f (l.foldl f b) x := by rw [List.foldl_append]; rfl
end
section
variable {a : Ad} {H H' : Hp} {A : Nm} {W : Wd} {M : MS}
def nmWait (A : Nm) (n : Nat) (p : Addr) : Nm := fun r => if r = .wait n then p else A r
theorem Step.newWait (R : Rep a H A W M) {n : Nat} (hn : n ∈ M.ks) {dx pv p : Addr} (w : W pv = some (M.val n)) (hp : H p = none) :
    Step a H A W M (upd (upd H p (.lst [])) (A (.task n)) (.ins a.C_Task dx (taskF n (M.st n) (M.tg n) pv p))) (nmWait A n p) W (M.setWt n []) := by
  have ew : nmWait A n p (.wait n) = p := by unfold nmWait; rw [if_pos rfl]
  have eo : ∀ {r : Role}, r ≠ .wait n → nmWait A n p r = A r := fun h => by unfold nmWait; rw [if_neg h]
  have rse : ∀ l : List Nat, rs (nmWait A n p) l = rs A l := fun l => rs_congr fun k _ => eo (by intro e; cases e)
  have pt : p ≠ A (.task n) := fun e => R.neN (r := .task n) hn hp e.symm
  have s1 : Same H (upd H p (.lst [])) := same_new hp
  have R1 := R.same s1
  have R2 : Rep a (upd (upd H p (.lst [])) (A (.task n)) (.ins a.C_Task dx (taskF n (M.st n) (M.tg n) pv p))) (nmWait A n p) W (M.setWt n []) := by
    refine R1.grow (fun r => r = .wait n) (fun r l h => ⟨live_setWt.mp l, eo h⟩) (fun r l h => ?_) (fun r r' h h' _ => h.trans h'.symm) (fun r l => ?_) (fun q v e => ?_)
    · subst h
      rw [ew]
      exact ⟨fun r0 l0 => R.neN l0 hp, R.noW hp⟩
    · have lm : live M r := live_setWt.mp l
      by_cases h1 : r = .wait n
      · subst h1
        refine ⟨_, by rw [ew, upd_ne pt]; exact upd_same, ?_⟩
        show HO.lst [] = HO.lst (rs _ (if n = n then [] else M.wt n))
        rw [if_pos rfl]
        rfl
      by_cases h2 : r = .task n
      · subst h2
        exact ⟨_, by rw [eo h1]; exact upd_same, dx, pv, by rw [ew]; rfl, w⟩
      obtain ⟨o, e, c⟩ := R1.at_ r lm
      refine ⟨o, by rw [eo h1, upd_ne (R.ne lm (r' := .task n) hn h2)]; exact e, ?_⟩
      cases r with
      | row => show o = HO.lst (rs _ M.row); rw [rse]; exact c
      | tasks => show o = HO.dK (tkv _ M.ks); rw [tkv_congr fun k _ => eo (by intro e; cases e)]; exact c
      | task k =>
        obtain ⟨d, v, q1, q2⟩ := c
        exact ⟨d, v, by rw [eo (r := .wait k) (fun e => by cases e; exact h2 rfl)]; exact q1, q2⟩
      | wait k =>
        have hk : ¬ k = n := fun e => h1 (by rw [e])
        show o = HO.lst (rs _ (if k = n then [] else M.wt k))
        rw [if_neg hk, rse]
        exact c
      | snd j =>
        obtain ⟨c1, q1, q2⟩ := c
        exact ⟨c1, q1, by rw [rse]; exact q2⟩
      | rcv j =>
        obtain ⟨c1, q1, q2⟩ := c
        exact ⟨c1, q1, by rw [rse]; exact q2⟩
      | _ => exact c
    · rw [upd_ne (R1.neW (r := .task n) hn e)]
      exact R1.val q v e
  refine ⟨R2, WLe.refl W, fun r l h => eo (h n), (Keep.of_same s1).more (.task n) hn, fun b o e => ?_, fun r l => live_setWt.mpr l, fun r l => ?_⟩
  · by_cases hb : b = A (.task n)
    · exact ⟨_, by rw [hb]; exact upd_same⟩
    · exact ⟨o, by rw [upd_ne hb]; exact s1 b o e⟩
  · by_cases h1 : r = .wait n
    · exact .inr (by rw [h1, ew]; exact hp)
    · exact .inl ⟨r, live_setWt.mp l, (eo h1).symm⟩
end
section
variable {P : Program} {w : World} {K : PySem.W.Frag} {mg : Str → Option Value} {base : Heap} {a : Ad}
theorem ok_values_of_ran (T : Tx K mg a) : FnOk P w K mg base CX0 2 a.f_values_of_ran a.d_values_of_ran ["why", "at"] sp_values_of_ran := by
  refine T.F_values_of_ran.ok sc_values_of_ran (fun vs H Q E h => ?_) (fun cdv A' outer s H vs Q E hr h => ?_)
  · obtain ⟨y, z, rfl, _⟩ := h
    rfl
  · obtain ⟨y, z, rfl, k⟩ := h
    have fin : ∀ x : Int, x = wantedR y z → Q (.int x) H := fun y e => e ▸ k
    refine ⟨_, (pss_cons (ps_if (pt_cmp (pc_eqI (pv 0) (pe_glob (v := .int (0)) rfl T.c_TURN_OVER ⟨_, rfl⟩))) (pss_one (ps_ret pe_int)) pss_nil)
      (pss_cons (ps_if (PW.pt (pw_or (pt_cmp (pc_eqI (pv 0) (pe_glob (v := .int (1)) rfl T.c_BY_ITSELF ⟨_, rfl⟩))) (pw_or1 (pt_cmp (pc_eqI (pv 0) (pe_glob (v := .int (2)) rfl T.c_BY_THROW ⟨_, rfl⟩)))))) (pss_one (ps_ret pe_int)) pss_nil)
      (pss_cons (ps_if (pt_cmp (pc_eqI (pv 0) (pe_glob (v := .int (3)) rfl T.c_STANDS ⟨_, rfl⟩))) (pss_one (ps_ret (pe_call (ok_values_wanted T) (hr.mono (by decide)) rfl T.m_values_wanted T.F_values_wanted.kp (b_values_wanted T) .nil pass0 (pa_cons (pv 1) pa_nil)))) pss_nil)
      (pss_one (ps_ret (pe_glob (v := .int (-1)) rfl T.c_NEVER ⟨_, rfl⟩)))))), ?_⟩
    refine ⟨_, rfl, _, _, rfl, rfl, _, rfl, ?_⟩
    refine ite2 (fun h => ?_) (fun h => ⟨_, rfl, _, _, rfl, rfl, _, rfl, ?_⟩)
    · have h' : y = 0 := by simpa using h
      exact fin 0 (by rw [wantedR, if_pos h'])
    have h0 : ¬ y = 0 := by simpa using h
    refine ite2 (fun h => ?_) (fun h => ⟨_, rfl, _, _, rfl, rfl, _, rfl, ?_⟩)
    · have h' : y = 1 := by simpa using h
      exact fin 1 (by rw [wantedR, if_neg h0, if_pos (.inl h')])
    have h1 : ¬ y = 1 := by simpa using h
    refine ite2 (fun h => ?_) (fun h => ⟨_, rfl, _, _, rfl, rfl, _, rfl, ?_⟩)
    · have h' : y = 2 := by simpa using h
      exact fin 1 (by rw [wantedR, if_neg h0, if_pos (.inr h')])
    have h2 : ¬ y = 2 := by simpa using h
    refine ite2 (fun h => ?_) (fun h => ?_)
    · have h' : y = 3 := by simpa using h
      exact ⟨_, rfl, z, rfl, fin _ (by rw [wantedR, if_neg h0, if_neg (by omega), if_pos h'])⟩
    · have h' : ¬ y = 3 := by simpa using h
      exact fin (-1) (by rw [wantedR, if_neg h0, if_neg (by omega), if_neg h'])
theorem ok_end_task (T : Tx K mg a) : FnOk P w K mg base CX0 5 a.f_end_task a.d_end_task ["held", "orders", "task", "state", "value"] (sp_end_task a) := by
  refine T.F_end_task.ok sc_end_task (fun vs H Q E h => ?_) (fun cdv A' outer s H vs Q E hr h => ?_)
  · obtain ⟨A, W, M, n, code, p, v, rfl, _⟩ := h
    rfl
  · obtain ⟨A, W, M, n, code, p, v, rfl, PR, wp, hv, k⟩ := h
    obtain ⟨R, G, hn, os, ho⟩ := id PR
    have g1 := G.ords os ho
    have g2 := G.row
    obtain ⟨dt, pt, ht, wt⟩ := R.task hn
    refine ⟨_, (pss_cons (ps_expr (pe_meth (pv 2) T.l_Task T.M_Task_wait (ok_Task_wait T) (hr.mono (by decide)) (b_Task_wait T) .nil pass0 (pa_cons (pv 3) (pa_cons pe_int pa_nil))))
      (pss_cons (ps_fld (pv 2) (pv 4) rfl)
      (pss_cons (ps_set (i := 5) sc_end_task.nd rfl (Or.inl rfl) (pe_fld (pv 2) rfl))
      (pss_cons (ps_fld (pv 2) (pe_lst pa_nil) rfl)
      (pss_one (ps_for PassesOwn.never rfl (pi_list (pv 5)) (pg_name (i := 6) sc_end_task.nd rfl (Or.inl rfl)) (pss_one (ps_expr (pe_call (ok_tell_end T) (hr.mono (by decide)) rfl T.m_tell_end T.F_tell_end.kp (b_tell_end T) .nil pass0 (pa_cons (pv 0) (pa_cons (pv 1) (pa_cons (pv 2) (pa_cons (pv 6) pa_nil))))))))))))), ?_⟩
    refine ⟨_, rfl, _, dt, _, rfl, ht, rfl, _, rfl, A, W, M, n, code, 0, rfl, R, hn, fun H1 R1 k1 => ?_⟩
    have S1 : Step a H A W M H1 A W (M.setSt n code 0) := Step.of R1 (WLe.refl W) k1 fun _ => live_setSt'
    obtain ⟨dt1, pt1, ht1, wt1⟩ := R1.task (n := n) hn
    refine ⟨_, rfl, _, rfl, _, _, dt1, _, rfl, ht1, T.l_Task, T.a_Task_value, (by show 5 < 1000; decide), ?_⟩
    have R2 := R1.setVal (n := n) hn (dx := dt1) wp
    have S2 := S1.trans (Step.of R2 (WLe.refl W) (Keep.put (r0 := .task n) hn) fun _ => live_setVal) R
    obtain ⟨dt2, pt2, ht2, wt2⟩ := R2.task (n := n) hn
    have hw2 := R2.wait (n := n) hn
    refine ⟨_, rfl, _, _, dt2, _, _, rfl, ht2, T.l_Task, T.a_Task_waiters, tl_waiters, ?_⟩
    refine ⟨Nat.zero_le _, fun x hx => ?_⟩
    refine ⟨_, rfl, _, _, dt2, _, rfl, (by rw [upd_ne (R2.neN (r := .task n) hn hx)]; exact ht2), T.l_Task, T.a_Task_waiters, (by show 5 < 1000; decide), ?_⟩
    have S23 := Step.newWait R2 (n := n) hn (dx := dt2) (pv := pt2) wt2 hx
    have S3 := S2.trans S23 R
    generalize hM3 : ((M.setSt n code 0).setVal n v).setWt n [] = M3 at S23 S3
    have eEnd : M.endT n code v = (M.wt n).foldl (fun N u => N.tellEnd n u) M3 := by rw [MS.endT, hM3]
    have k3 : M3.ks = M.ks := by rw [← hM3]; rfl
    have r3 : M3.row = M.row := by rw [← hM3]; rfl
    have o3 : M3.ords = some os := by rw [← hM3]; exact ho
    have v3 : M3.val n = v := by rw [← hM3]; show (if n = n then v else _) = v; rw [if_pos rfl]
    have hq3 : (upd (upd (upd H1 (A (.task n)) (.ins a.C_Task dt1 (taskF n ((M.setSt n code 0).st n) ((M.setSt n code 0).tg n) p (A (.wait n))))) x (.lst [])) (A (.task n)) (.ins a.C_Task dt2 (taskF n (((M.setSt n code 0).setVal n v).st n) (((M.setSt n code 0).setVal n v).tg n) pt2 x))) (A (.wait n)) = some (.lst (rs A (M.wt n))) := by
      rw [upd_ne (R2.ne (r := .wait n) (r' := .task n) hn hn (by intro e; cases e)), upd_ne (R2.neN (r := .wait n) hn hx)]
      exact hw2
    have away : ∀ r, live M3 r → nmWait A n x r ≠ A (.wait n) := fun r l e => by
      have l2 : live ((M.setSt n code 0).setVal n v) r := by rw [← hM3] at l; exact live_setWt.mp l
      unfold nmWait at e
      by_cases h : r = .wait n
      · rw [if_pos h] at e
        exact R2.neN (r := .wait n) hn hx e.symm
      · rw [if_neg h] at e
        exact h (R2.inj r (.wait n) l2 hn e)
    have R3 := S3.rep
    have lo : live M .orders := by show M.ords.isSome = true; rw [ho]; rfl
    refine ⟨_, rfl, _, rfl, ⟨_, SqL.of hq3⟩, for_list (K := K) (a := A (.wait n)) (xs := rs A (M.wt n)) (fun i σ H' => (∃ x7 : Option V, σ = [some (.ref (A .held)), some (.ref (A .orders)), some (.ref (A (.task n))), some (.int code), some (.ref p), some (.ref (A (.wait n))), x7]) ∧ H' (A (.wait n)) = some (.lst (rs A (M.wt n))) ∧ ∃ A4 W4, Step a _ (nmWait A n x) W M3 H' A4 W4 (((M.wt n).take i).foldl (fun N u => N.tellEnd n u) M3))
      ⟨⟨none, rfl⟩, hq3, _, _, Step.refl R3⟩ (fun i σ H' _ ⟨_, h2, _⟩ => SqL.of h2) ?_ ?_⟩
    · rintro i y σ H' hi ⟨⟨x7, rfl⟩, hq, A4, W4, S4⟩
      obtain ⟨u, hu, rfl⟩ : ∃ u, (M.wt n)[i]? = some u ∧ y = V.ref (A (.task u)) := by
        unfold rs at hi
        rw [List.getElem?_map] at hi
        cases e : (M.wt n)[i]? with
        | none => rw [e] at hi; cases hi
        | some t => rw [e] at hi; exact ⟨t, rfl, (Option.some.inj hi).symm⟩
      have hiu := lt_of_get hu
      have hwl := G.wt n hn
      have huk : u ∈ M.ks := G.cl.wt n hn u (List.mem_of_getElem? hu)
      obtain ⟨f1, f2, f3, os4, f4, f5⟩ := fold_tell n ((M.wt n).take i) M3 os o3
      have e1 : A4 .held = A .held := (S4.at_ (r := .held) trivial).trans (S3.at_ (r := .held) trivial)
      have e2 : A4 .orders = A .orders := (S4.at_ (r := .orders) (S3.stay _ lo)).trans (S3.at_ (r := .orders) lo)
      have e3 : A4 (.task n) = A (.task n) := (S4.at_ (r := .task n) (S3.stay (.task n) hn)).trans (S3.at_ (r := .task n) hn)
      have e4 : A4 (.task u) = A (.task u) := (S4.at_ (r := .task u) (S3.stay (.task u) huk)).trans (S3.at_ (r := .task u) huk)
      refine ⟨_, rfl, _, rfl, _, rfl, _, rfl, A4, W4, _, n, u, os4, ?_, S4.rep, ?_, ?_, ?_, f4, ?_, ?_, fun H5 A5 W5 S5 => ?_⟩
      · rw [e1, e2, e3, e4]; rfl
      · rw [f1, k3]; exact hn
      · rw [f1, k3]; exact huk
      · rw [f2, v3]; exact hv
      · rw [f5, List.length_take]; omega
      · rw [f3, r3, List.length_take]; omega
      · refine ⟨⟨_, rfl⟩, S5.keep _ _ hq fun r l e => ?_, A5, W5, ?_⟩
        · rcases S4.fresh r l with ⟨r0, l0, e0⟩ | z
          · exact away r0 l0 (e0.trans e)
          · rw [e] at z
            exact absurd (hq3.symm.trans z) (by intro q; cases q)
        · rw [take_snoc hu, fold_snoc]
          exact S4.trans S5 R3
    · rintro σ H' ⟨⟨x7, rfl⟩, hq, A4, W4, S4⟩
      rw [rs, List.length_map, List.take_length] at S4
      exact goEq k (S3.trans S4 R) eEnd
end
end TT
end
section
set_option Elab.async false
set_option linter.all false
set_option maxRecDepth 100000
set_option maxHeartbeats 2000000
open PySem PySem.Spec PyProof.Rows L2
namespace TT
structure Cal (a : Ad) (H : Hp) (A : Nm) (W : Wd) (M : MS) (H' : Hp) (A' : Nm) (W' : Wd) (M' : MS) : Prop where
  rep : Rep a H' A' W' M'
  wle : WLe W W'
  held : A' .held = A .held
  clock : A' .clock = A .clock
  ans : M.ans.isSome = true → A' .ans = A .ans
  keep : Keep A M H H'
  fresh : ∀ r, live M' r → (∃ r', live M r' ∧ A r' = A' r) ∨ H (A' r) = none
abbrev Ret (a : Ad) (H : Hp) (A : Nm) (W : Wd) (M M' : MS) (out : List Int) (Q : VK) : Prop := ∀ H' A' W' p, Cal a H A W M H' A' W' M' → H p = none → H' p = some (.lst (out.map V.int)) → Q (.ref p) H'
structure Pre0 (a : Ad) (H : Hp) (A : Nm) (W : Wd) (M : MS) : Prop where
  R : Rep a H A W M
  G : Good M
  no : M.ords = none
  ck : M.clk.isSome = true
def MS.begin (M : MS) (z : Int) : MS := { M with steps := z, now := 0, ks := [], row := [], ch := [] }
def MS.beginM (M : MS) (z : Int) : MS × List Int := if 1 ≤ z ∧ z ≤ 100000 then (M.begin z, [0]) else (M, [-8])
def MS.addM (M : MS) (z : Int) : MS × List Int := if ¬ (0 ≤ z ∧ z ≤ 4294967295) then (M, [-8]) else if z.toNat ∈ M.ks then (M, [-3]) else if 1000 ≤ M.ks.length then (M, [-5]) else (M.add z.toNat, [0])
def MS.refuse (M : MS) (z : Int) : Int := if ¬ (0 ≤ z ∧ z ≤ 4294967295) then -8 else if z.toNat ∈ M.ks then -3 else if 1000 ≤ M.ks.length then -5 else 0
theorem addM_refuse (M : MS) (z : Int) : M.addM z = if M.refuse z = 0 then (M.add z.toNat, [0]) else (M, [M.refuse z]) := by
  unfold MS.addM MS.refuse
  split
  · rfl
  split
  · rfl
  split <;> rfl
theorem refuse_no {M : MS} {z : Int} (h : M.refuse z = 0) : 0 ≤ z ∧ z ≤ 4294967295 ∧ z.toNat ∉ M.ks ∧ ¬ 1000 ≤ M.ks.length := by
  unfold MS.refuse at h
  split at h
  · cases h
  split at h
  · cases h
  split at h
  · cases h
  · rename_i h1 h2 h3
    have h1 := Decidable.not_not.mp h1
    exact ⟨h1.1, h1.2, h2, h3⟩
def sp_refusal_of_new (a : Ad) : Sp := fun vs H Q _ => ∃ (A : Nm) (W : Wd) (M : MS) (z : Int), vs = [.ref (A .held), .int z] ∧ Rep a H A W M ∧ Q (.int (M.refuse z)) H
def sp_answer_begin (a : Ad) : Sp := fun vs H Q _ => ∃ (A : Nm) (W : Wd) (M : MS) (z : Int), vs = [.ref (A .held), .int z] ∧ Pre0 a H A W M ∧ Ret a H A W M (M.beginM z).1 (M.beginM z).2 Q
def sp_answer_add (a : Ad) : Sp := fun vs H Q _ => ∃ (A : Nm) (W : Wd) (M : MS) (z : Int), vs = [.ref (A .held), .int z] ∧ Pre0 a H A W M ∧ Ret a H A W M (M.addM z).1 (M.addM z).2 Q
theorem retEq {a : Ad} {H H' : Hp} {A A' : Nm} {W W' : Wd} {M M1 : MS} {x : MS × List Int} {out : List Int} {Q : VK} {p : Addr} (k : Ret a H A W M x.1 x.2 Q) (c : Cal a H A W M H' A' W' M1) (hn : H p = none) (hp : H' p = some (.lst (out.map V.int))) (e : x = (M1, out)) : Q (.ref p) H' := by
  subst e
  exact k _ _ _ p c hn hp
section
variable {a : Ad} {H H' H1 : Hp} {A A' : Nm} {W W' : Wd} {M M' : MS}
theorem Cal.same (R : Rep a H A W M) (s : Same H H') : Cal a H A W M H' A W M := ⟨R.same s, WLe.refl W, rfl, rfl, fun _ => rfl, Keep.of_same s, fun r l => .inl ⟨r, l, rfl⟩⟩
theorem Cal.more (c : Cal a H A W M H1 A' W' M') (s : Same H1 H') : Cal a H A W M H' A' W' M' := ⟨c.rep.same s, c.wle, c.held, c.clock, c.ans, fun b o e n => s b o (c.keep b o e n), c.fresh⟩
theorem Cal.step (s : Step a H A W M H' A' W' M') (ck : M.clk.isSome = true) : Cal a H A W M H' A' W' M' := ⟨s.rep, s.wle, s.at_ (r := .held) trivial, s.at_ (r := .clock) ck, fun h => s.at_ (r := .ans) h, s.keep, s.fresh⟩
theorem Step.add {n : Nat} (R1 : Rep a H' A' W' (M.add n)) (wl : WLe W W') (ax : AExt M A A') (kp : Keep A M H H') (fr : ∀ r, live (M.add n) r → live M r ∨ H (A' r) = none) : Step a H A W M H' A' W' (M.add n) := by
  have st : ∀ r, live M r → live (M.add n) r := fun r l => by
    cases r with
    | task j => exact List.mem_append_left _ l
    | wait j => exact List.mem_append_left _ l
    | _ => exact l
  exact ⟨R1, wl, fun r l _ => ax r l, kp, grow_of R1 ax kp st, st, fun r l => (fr r l).elim (fun lm => .inl ⟨r, lm, (ax r lm).symm⟩) .inr⟩
def MS.close (M : MS) : MS := { M with ords := none }
theorem live_close {r : Role} (l : live M.close r) : live M r := by
  cases r with
  | orders => cases l
  | _ => exact l
theorem Rep.close (R : Rep a H A W M) : Rep a H A W M.close := by
  have lv : ∀ r, live M.close r → live M r := fun r l => live_close l
  refine ⟨fun r l => ?_, fun r r' l l' => R.inj r r' (lv r l) (lv r' l'), R.val, fun r l => R.sep r (lv r l)⟩
  obtain ⟨o, e, c⟩ := R.at_ r (lv r l)
  refine ⟨o, e, ?_⟩
  cases r with
  | orders => cases l
  | _ => exact c
theorem Cal.close (c : Cal a H A W M H' A' W' M') : Cal a H A W M H' A' W' M'.close := ⟨c.rep.close, c.wle, c.held, c.clock, c.ans, c.keep, fun r l => c.fresh r (live_close l)⟩
def MS.open (M : MS) : MS := { M with ords := some [] }
def nmOrd (A : Nm) (p : Addr) : Nm := fun r => if r = .orders then p else A r
theorem Step.open (R : Rep a H A W M) (no : M.ords = none) {p : Addr} (hp : H p = none) : Step a H A W M (upd H p (.lst [])) (nmOrd A p) W M.open := by
  have ew : nmOrd A p .orders = p := by unfold nmOrd; rw [if_pos rfl]
  have eo : ∀ {r : Role}, r ≠ .orders → nmOrd A p r = A r := fun h => by unfold nmOrd; rw [if_neg h]
  have rse : ∀ l : List Nat, rs (nmOrd A p) l = rs A l := fun l => rs_congr fun k _ => eo (by intro e; cases e)
  have s1 : Same H (upd H p (.lst [])) := same_new hp
  have R1 := R.same s1
  have ne : ∀ {r : Role}, live M r → r ≠ .orders := fun {r} l e => by subst e; rw [show live M .orders = (M.ords.isSome = true) from rfl, no] at l; cases l
  have lm : ∀ {r : Role}, live M.open r → r ≠ .orders → live M r := fun {r} l h => by
    cases r with
    | orders => exact absurd rfl h
    | _ => exact l
  have R2 : Rep a (upd H p (.lst [])) (nmOrd A p) W M.open := by
    refine R1.grow (fun r => r = .orders) (fun r l h => ⟨lm l h, eo h⟩) (fun r l h => ?_) (fun r r' h h' _ => h.trans h'.symm) (fun r l => ?_) (fun q v e => R1.val q v e)
    · subst h
      rw [ew]
      exact ⟨fun r0 l0 => R.neN l0 hp, R.noW hp⟩
    · by_cases h1 : r = .orders
      · subst h1
        exact ⟨_, by rw [ew]; exact upd_same, [], rfl, [], rfl, .nil⟩
      obtain ⟨o, e, c⟩ := R1.at_ r (lm l h1)
      refine ⟨o, by rw [eo h1]; exact e, ?_⟩
      cases r with
      | row => show o = HO.lst (rs _ M.row); rw [rse]; exact c
      | tasks => show o = HO.dK (tkv _ M.ks); rw [tkv_congr fun k _ => eo (by intro e; cases e)]; exact c
      | wait k => show o = HO.lst (rs _ (M.wt k)); rw [rse]; exact c
      | snd j =>
        obtain ⟨c1, q1, q2⟩ := c
        exact ⟨c1, q1, by rw [rse]; exact q2⟩
      | rcv j =>
        obtain ⟨c1, q1, q2⟩ := c
        exact ⟨c1, q1, by rw [rse]; exact q2⟩
      | orders => exact absurd rfl h1
      | _ => exact c
  refine ⟨R2, WLe.refl W, fun r l _ => eo (ne l), Keep.of_same s1, fun b o e => ⟨o, s1 b o e⟩, fun r l => ?_, fun r l => ?_⟩
  · cases r with
    | orders => exact absurd rfl (ne l)
    | _ => exact l
  · by_cases h1 : r = .orders
    · exact .inr (by rw [h1, ew]; exact hp)
    · exact .inl ⟨r, lm l h1, (eo h1).symm⟩
theorem Good.open (G : Good M) : Good M.open := ⟨⟨G.cl.row, G.cl.wt, G.cl.snd, G.cl.rcv⟩, G.ks, G.row, G.val, G.wt, G.kept, G.snd, G.rcv, G.chs, fun os h => by cases h; decide⟩
def nmBeg (A : Nm) (t c r : Addr) : Nm := fun q => if q = .tasks then t else if q = .chs then c else if q = .row then r else A q
theorem Rep.begin (R : Rep a H A W M) {z : Int} {dx t c r : Addr} (hx : H' (A .held) = some (.ins a.C_Held dx (heldF z t c r 0))) (nt : H t = none) (nc : H c = none) (nr : H r = none) (tc : t ≠ c) (tr : t ≠ r) (cr : c ≠ r)
    (ht : H' t = some (.dK [])) (hc : H' c = some (.lst [])) (hr : H' r = some (.lst [])) (kp : ∀ b o, H b = some o → b ≠ A .held → H' b = some o) : Rep a H' (nmBeg A t c r) W (M.begin z) := by
  have e1 : nmBeg A t c r .tasks = t := by unfold nmBeg; rw [if_pos rfl]
  have e2 : nmBeg A t c r .chs = c := by unfold nmBeg; rw [if_neg (by intro e; cases e), if_pos rfl]
  have e3 : nmBeg A t c r .row = r := by unfold nmBeg; rw [if_neg (by intro e; cases e), if_neg (by intro e; cases e), if_pos rfl]
  have eo : ∀ {q : Role}, ¬ (q = .tasks ∨ q = .chs ∨ q = .row) → nmBeg A t c r q = A q := fun h => by
    unfold nmBeg
    rw [if_neg (fun e => h (.inl e)), if_neg (fun e => h (.inr (.inl e))), if_neg (fun e => h (.inr (.inr e)))]
  have lm : ∀ {q : Role}, live (M.begin z) q → live M q := fun {q} l => by
    cases q with
    | task k => exact absurd l (by show ¬ k ∈ []; simp)
    | wait k => exact absurd l (by show ¬ k ∈ []; simp)
    | chan k => exact absurd l (Nat.not_lt_zero k)
    | kept k => exact absurd l (Nat.not_lt_zero k)
    | snd k => exact absurd l (Nat.not_lt_zero k)
    | rcv k => exact absurd l (Nat.not_lt_zero k)
    | _ => exact l
  refine R.grow (fun q => q = .tasks ∨ q = .chs ∨ q = .row) (fun q l h => ⟨lm l, eo h⟩) (fun q l h => ?_) (fun q q' h h' e => ?_) (fun q l => ?_) (fun q v e => ?_)
  · rcases h with rfl | rfl | rfl
    · rw [e1]; exact ⟨fun r0 l0 => R.neN l0 nt, R.noW nt⟩
    · rw [e2]; exact ⟨fun r0 l0 => R.neN l0 nc, R.noW nc⟩
    · rw [e3]; exact ⟨fun r0 l0 => R.neN l0 nr, R.noW nr⟩
  · rcases h with rfl | rfl | rfl <;> rcases h' with rfl | rfl | rfl <;> first
      | rfl
      | (simp only [e1, e2, e3] at e; exact absurd e tc) | (simp only [e1, e2, e3] at e; exact absurd e tr) | (simp only [e1, e2, e3] at e; exact absurd e cr)
      | (simp only [e1, e2, e3] at e; exact absurd e.symm tc) | (simp only [e1, e2, e3] at e; exact absurd e.symm tr) | (simp only [e1, e2, e3] at e; exact absurd e.symm cr)
  · cases q with
    | held => exact ⟨_, by rw [eo (by rintro (h | h | h) <;> cases h)]; exact hx, dx, by rw [e1, e2, e3]; rfl⟩
    | row => exact ⟨_, by rw [e3]; exact hr, rfl⟩
    | tasks => exact ⟨_, by rw [e1]; exact ht, rfl⟩
    | chs => exact ⟨_, by rw [e2]; exact hc, rfl⟩
    | clock =>
      obtain ⟨o, e, c'⟩ := R.at_ .clock l
      exact ⟨o, by rw [eo (by rintro (h | h | h) <;> cases h)]; exact kp _ _ e (R.ne (r := .clock) (r' := .held) l trivial (by intro e; cases e)), c'⟩
    | orders =>
      obtain ⟨o, e, c'⟩ := R.at_ .orders l
      exact ⟨o, by rw [eo (by rintro (h | h | h) <;> cases h)]; exact kp _ _ e (R.ne (r := .orders) (r' := .held) l trivial (by intro e; cases e)), c'⟩
    | ans =>
      obtain ⟨o, e, c'⟩ := R.at_ .ans l
      exact ⟨o, by rw [eo (by rintro (h | h | h) <;> cases h)]; exact kp _ _ e (R.ne (r := .ans) (r' := .held) l trivial (by intro e; cases e)), c'⟩
    | task k => exact absurd l (by show ¬ k ∈ []; simp)
    | wait k => exact absurd l (by show ¬ k ∈ []; simp)
    | chan k => exact absurd l (Nat.not_lt_zero k)
    | kept k => exact absurd l (Nat.not_lt_zero k)
    | snd k => exact absurd l (Nat.not_lt_zero k)
    | rcv k => exact absurd l (Nat.not_lt_zero k)
  · exact kp _ _ (R.val q v e) (R.neW (r := .held) trivial e)
end
section
variable {P : Program} {w : World} {K : PySem.W.Frag} {mg : Str → Option Value} {base : Heap} {a : Ad}
theorem ok_answer_begin (T : Tx K mg a) : FnOk P w K mg base CX0 2 a.f_answer_begin a.d_answer_begin ["held", "steps"] (sp_answer_begin a) := by
  refine T.F_answer_begin.ok sc_answer_begin (fun vs H Q E h => ?_) (fun cdv A' outer s H vs Q E hr h => ?_)
  · obtain ⟨A, W, M, z, rfl, _⟩ := h
    rfl
  · obtain ⟨A, W, M, z, rfl, ⟨R, G, no, ck⟩, k⟩ := h
    obtain ⟨dh, hh⟩ := R.held
    have bad : ¬ (1 ≤ z ∧ z ≤ 100000) → ∀ p, H p = none → Q (.ref p) (upd H p (.lst [V.int (-8)])) := fun h p hp =>
      retEq k (Cal.same R (same_new hp)) hp (out := [-8]) upd_same (by rw [MS.beginM, if_neg h])
    refine ⟨_, (pss_cons (ps_if (pt_not (pt_chain op_le op_le pe_int (pv 1) (pe_glob (v := .int (100000)) rfl T.c_MOST_STEPS ⟨_, rfl⟩))) (pss_one (ps_ret (pe_lst (pa_cons (pe_glob (v := .int (-8)) rfl T.c_NOT_AS_TOLD ⟨_, rfl⟩) pa_nil)))) pss_nil)
      (pss_cons (ps_expr (pe_meth (pv 0) T.l_Held T.M_Held_begin_anew (ok_Held_begin_anew T) (hr.mono (by decide)) (b_Held_begin_anew T) .nil pass0 (pa_cons (pv 1) pa_nil)))
      (pss_one (ps_ret (pe_lst (pa_cons (pe_glob (v := .int (0)) rfl T.c_DONE ⟨_, rfl⟩) pa_nil)))))), ?_⟩
    refine ⟨_, rfl, _, _, rfl, rfl, _, rfl, ?_⟩
    refine ite2 (fun h => ⟨_, _, rfl, rfl, _, rfl, ?_⟩) (fun h => ⟨_, rfl, ?_⟩)
    · have h1 : 1 ≤ z := by simpa using h
      cases hb : decide (z ≤ 100000) with
      | true =>
        have h2 : z ≤ 100000 := of_decide_eq_true hb
        refine iteF ?_
        refine ⟨_, rfl, _, dh, _, rfl, hh, rfl, _, rfl, _, dh, _, z, rfl, hh, .inr ⟨_, _, _, _, _, rfl⟩, fun H1 t c r hx nt nc nr tc tr cr ht hc hr' kp => ?_⟩
        have R1 := R.begin hx nt nc nr tc tr cr ht hc hr' kp
        refine ⟨by show 1 ≤ sizeLine; decide, fun p hp => ?_⟩
        have hp0 : H p = none := by
          cases e : H p with
          | none => rfl
          | some o =>
            by_cases hb : p = A .held
            · rw [hb, hx] at hp; cases hp
            · rw [kp p o e hb] at hp; cases hp
        refine retEq k (Cal.more (H1 := H1) ⟨R1, WLe.refl W, ?_, ?_, fun _ => ?_, fun b o e n => kp b o e fun z => n .held trivial z.symm, fun q l => ?_⟩ (same_new hp)) hp0 (out := [0]) upd_same (by rw [MS.beginM, if_pos ⟨h1, h2⟩])
        · unfold nmBeg; rw [if_neg (by intro e; cases e), if_neg (by intro e; cases e), if_neg (by intro e; cases e)]
        · unfold nmBeg; rw [if_neg (by intro e; cases e), if_neg (by intro e; cases e), if_neg (by intro e; cases e)]
        · unfold nmBeg; rw [if_neg (by intro e; cases e), if_neg (by intro e; cases e), if_neg (by intro e; cases e)]
        · have lm : live M q := by
            cases q with
            | task k => exact absurd l (by show ¬ k ∈ []; simp)
            | wait k => exact absurd l (by show ¬ k ∈ []; simp)
            | chan k => exact absurd l (Nat.not_lt_zero k)
            | kept k => exact absurd l (Nat.not_lt_zero k)
            | snd k => exact absurd l (Nat.not_lt_zero k)
            | rcv k => exact absurd l (Nat.not_lt_zero k)
            | _ => exact l
          unfold nmBeg
          by_cases q1 : q = .tasks
          · rw [if_pos q1]; exact .inr nt
          rw [if_neg q1]
          by_cases q2 : q = .chs
          · rw [if_pos q2]; exact .inr nc
          rw [if_neg q2]
          by_cases q3 : q = .row
          · rw [if_pos q3]; exact .inr nr
          rw [if_neg q3]
          exact .inl ⟨q, lm, rfl⟩
      | false =>
        have h2 : ¬ z ≤ 100000 := of_decide_eq_false hb
        refine iteT ?_
        exact ⟨by show 1 ≤ sizeLine; decide, bad fun q => h2 q.2⟩
    · have h1 : ¬ 1 ≤ z := by simpa using h
      refine iteT ?_
      exact ⟨by show 1 ≤ sizeLine; decide, bad fun q => h1 q.1⟩
theorem ok_refusal_of_new (T : Tx K mg a) : FnOk P w K mg base CX0 2 a.f_refusal_of_new a.d_refusal_of_new ["held", "number"] (sp_refusal_of_new a) := by
  refine T.F_refusal_of_new.ok sc_refusal_of_new (fun vs H Q E h => ?_) (fun cdv A' outer s H vs Q E hr h => ?_)
  · obtain ⟨A, W, M, z, rfl, _⟩ := h
    rfl
  · obtain ⟨A, W, M, z, rfl, R, k⟩ := h
    obtain ⟨dh, hh⟩ := R.held
    have fin : ∀ x : Int, x = M.refuse z → Q (.int x) H := fun x e => e ▸ k
    refine ⟨_, (pss_cons (ps_if (pt_not (pt_chain op_le op_le pe_int (pv 1) (pe_glob (v := .int (4294967295)) rfl T.c_HIGHEST_TASK ⟨_, rfl⟩))) (pss_one (ps_ret (pe_glob (v := .int (-8)) rfl T.c_NOT_AS_TOLD ⟨_, rfl⟩))) pss_nil)
      (pss_cons (ps_if (pt_cmp (pc_din (hu_of hr) (pv 1) (pe_fld (pv 0) rfl))) (pss_one (ps_ret (pe_glob (v := .int (-3)) rfl T.c_KNOWN ⟨_, rfl⟩))) pss_nil)
      (pss_cons (ps_if (pt_truth (pe_meth0 (pv 0) T.l_Held T.M_Held_is_full (ok_Held_is_full T) (hr.mono (by decide)) (b_Held_is_full T) .nil pass0) (fun _ => rfl)) (pss_one (ps_ret (pe_glob (v := .int (-5)) rfl T.c_TOO_MANY ⟨_, rfl⟩))) pss_nil)
      (pss_one (ps_ret (pe_glob (v := .int (0)) rfl T.c_DONE ⟨_, rfl⟩)))))), ?_⟩
    refine ⟨_, rfl, _, _, rfl, rfl, _, rfl, ?_⟩
    refine ite2 (fun h => ⟨_, _, rfl, rfl, _, rfl, ?_⟩) (fun h => ⟨_, rfl, ?_⟩)
    · have h1 : 0 ≤ z := by simpa using h
      cases hb : decide (z ≤ 4294967295) with
      | true =>
        have h2 : z ≤ 4294967295 := of_decide_eq_true hb
        refine iteF ?_
        have hin : ¬ ¬ (0 ≤ z ∧ z ≤ 4294967295) := fun q => q ⟨h1, h2⟩
        refine ⟨_, rfl, _, rfl, _, _, dh, _, _, rfl, hh, T.l_Held, T.a_Held_tasks, hl_tasks, _, _, rfl, DGet.k (k := Sum.inl z) R.tasks, _, rfl, ?_⟩
        rw [val_tkv]
        by_cases hk : z.toNat ∈ M.ks
        · rw [if_pos ⟨h1, hk⟩]
          refine iteT ?_
          exact fin (-3) (by rw [MS.refuse, if_neg hin, if_pos hk])
        · rw [if_neg (fun q => hk q.2)]
          refine iteF ?_
          refine ⟨_, rfl, _, dh, _, rfl, hh, rfl, A, W, M, rfl, R, _, rfl, ?_⟩
          refine ite2 (fun h => ?_) (fun h => ?_)
          · have h3 : 1000 ≤ M.ks.length := by simpa using h
            exact fin (-5) (by rw [MS.refuse, if_neg hin, if_neg hk, if_pos h3])
          · have h3 : ¬ 1000 ≤ M.ks.length := by simpa using h
            exact fin 0 (by rw [MS.refuse, if_neg hin, if_neg hk, if_neg h3])
      | false =>
        have h2 : ¬ z ≤ 4294967295 := of_decide_eq_false hb
        refine iteT ?_
        exact fin (-8) (by rw [MS.refuse, if_pos fun q => h2 q.2])
    · have h1 : ¬ 0 ≤ z := by simpa using h
      refine iteT ?_
      exact fin (-8) (by rw [MS.refuse, if_pos fun q => h1 q.1])
theorem ok_answer_add (T : Tx K mg a) : FnOk P w K mg base CX0 5 a.f_answer_add a.d_answer_add ["held", "number"] (sp_answer_add a) := by
  refine T.F_answer_add.ok sc_answer_add (fun vs H Q E h => ?_) (fun cdv A' outer s H vs Q E hr h => ?_)
  · obtain ⟨A, W, M, z, rfl, _⟩ := h
    rfl
  · obtain ⟨A, W, M, z, rfl, ⟨R, G, no, ck⟩, k⟩ := h
    obtain ⟨dh, hh⟩ := R.held
    have g1 := G.ks
    have g2 := G.row
    refine ⟨_, (pss_cons (ps_set (i := 2) sc_answer_add.nd rfl (Or.inl rfl) (pe_call (ok_refusal_of_new T) (hr.mono (by decide)) rfl T.m_refusal_of_new T.F_refusal_of_new.kp (b_refusal_of_new T) .nil pass0 (pa_cons (pv 0) (pa_cons (pv 1) pa_nil))))
      (pss_cons (ps_if (pt_cmp (pc_neI (pv 2) (pe_glob (v := .int (0)) rfl T.c_DONE ⟨_, rfl⟩))) (pss_one (ps_ret (pe_lst (pa_cons (pv 2) pa_nil)))) pss_nil)
      (pss_cons (ps_expr (pe_meth (pv 0) T.l_Held T.M_Held_add_task (ok_Held_add_task T) (hr.mono (by decide)) (b_Held_add_task T) .nil pass0 (pa_cons (pv 1) pa_nil)))
      (pss_one (ps_ret (pe_lst (pa_cons (pe_glob (v := .int (0)) rfl T.c_DONE ⟨_, rfl⟩) pa_nil))))))), ?_⟩
    refine ⟨_, rfl, _, rfl, A, W, M, z, rfl, R, ?_⟩
    refine ⟨_, rfl, _, _, rfl, rfl, _, rfl, ?_⟩
    refine ite2 (fun h => ?_) (fun h => ?_)
    · have h1 : ¬ M.refuse z = 0 := by simpa using h
      exact ⟨_, rfl, by show 1 ≤ sizeLine; decide, fun p hp => retEq k (Cal.same R (same_new hp)) hp (out := [M.refuse z]) upd_same (by rw [addM_refuse, if_neg h1])⟩
    · have h1 : M.refuse z = 0 := by simpa using h
      obtain ⟨z0, z1, hk, h3⟩ := refuse_no h1
      refine ⟨_, rfl, _, dh, _, rfl, hh, rfl, _, rfl, A, W, M, z.toNat, ?_, R, G.cl, hk, by omega, by omega, fun H1 A1 W1 R1 wl ax kp fr => ?_⟩
      · rw [Int.toNat_of_nonneg z0]; rfl
      refine ⟨by show 1 ≤ sizeLine; decide, fun p hp => ?_⟩
      have S1 := Step.add R1 wl ax kp fr
      exact retEq k (Cal.more (Cal.step S1 ck) (same_new hp)) (S1.back hp) (out := [0]) upd_same (by rw [addM_refuse, if_pos h1])
end
end TT
end
section
set_option Elab.async false
set_option linter.all false
set_option maxRecDepth 100000
set_option maxHeartbeats 2000000
open PySem PySem.Spec PyProof.Rows L2
namespace TT
def MS.told (M : MS) : List Int := match M.ords with
  | some os => (os.length : Int) :: os.flatten
  | none => []
theorem told_is {M : MS} {os : List (List Int)} (h : M.ords = some os) : M.told = (os.length : Int) :: os.flatten := by rw [MS.told, h]
structure Woken (N N' : MS) (l : List Nat) : Prop where
  ks : N'.ks = N.ks
  row : N'.row.length ≤ N.row.length + l.length
  mem : ∀ x ∈ N'.row, x ∈ N.row ∨ x ∈ l
  ords : ∀ os, N.ords = some os → ∃ os', N'.ords = some os' ∧ os'.length ≤ os.length + l.length
  live : ∀ r, live N' r ↔ live N r
  steps : N'.steps = N.steps
theorem woken_fold : ∀ (l : List Nat) (N : MS), Woken N (l.foldl MS.wake1 N) l
  | [], N => ⟨rfl, Nat.le_refl _, fun x h => .inl h, fun os h => ⟨os, h, Nat.le_refl _⟩, fun _ => Iff.rfl, rfl⟩
  | u :: l, N => by
    have ih := woken_fold l (N.wake1 u)
    rw [List.foldl_cons]
    by_cases h : N.tg u ≤ N.now
    · have e : N.wake1 u = N.give 0 u [0] := by rw [MS.wake1, if_pos h]
      rw [e] at ih ⊢
      refine ⟨ih.ks, ?_, fun x hx => ?_, fun os ho => ?_, fun r => (ih.live r).trans live_give, ih.steps⟩
      · have := ih.row
        rw [give_row, List.length_append] at this
        simp only [List.length_cons, List.length_nil] at this ⊢
        omega
      · rcases ih.mem x hx with q | q
        · rw [give_row] at q
          rcases List.mem_append.mp q with q | q
          · exact .inl q
          · exact .inr (by rw [List.mem_singleton.mp q]; exact List.mem_cons_self)
        · exact .inr (List.mem_cons_of_mem _ q)
      · obtain ⟨os', h1, h2⟩ := ih.ords _ (give_ords ho)
        refine ⟨os', h1, ?_⟩
        rw [List.length_append] at h2
        simp only [List.length_cons, List.length_nil] at h2 ⊢
        omega
    · have e : N.wake1 u = N := by rw [MS.wake1, if_neg h]
      rw [e] at ih ⊢
      refine ⟨ih.ks, Nat.le_trans ih.row (by rw [List.length_cons]; omega), fun x hx => ?_, fun os ho => ?_, ih.live, ih.steps⟩
      · rcases ih.mem x hx with q | q
        · exact .inl q
        · exact .inr (List.mem_cons_of_mem _ q)
      · obtain ⟨os', h1, h2⟩ := ih.ords os ho
        exact ⟨os', h1, Nat.le_trans h2 (by rw [List.length_cons]; omega)⟩
theorem woken_wake (M : MS) (l : List Nat) : Woken M (M.wake l) l := by
  cases l with
  | nil => exact ⟨rfl, Nat.le_refl _, fun x h => .inl h, fun os h => ⟨os, h, Nat.le_refl _⟩, fun _ => Iff.rfl, rfl⟩
  | cons u l =>
    have h := woken_fold (u :: l) M.heard
    exact ⟨h.ks, h.row, h.mem, h.ords, fun r => (h.live r).trans ((live_hear (M := M.ask)).trans live_ask), h.steps⟩
theorem sleep_len {M : MS} {l : List Nat} (s : Sleep M l) : l.length ≤ M.ks.length := by
  rw [s.perm.length_eq]
  exact List.length_filter_le _ _
theorem sleep_mem {M : MS} {l : List Nat} (s : Sleep M l) {n : Nat} (h : n ∈ l) : n ∈ M.ks := (List.mem_filter.mp (s.perm.mem_iff.mp h)).1
section
variable {P : Program} {w : World} {K : PySem.W.Frag} {mg : Str → Option Value} {base : Heap} {a : Ad}
theorem ok_wake_sleepers (T : Tx K mg a) : FnOk P w K mg base CX0 4 a.f_wake_sleepers a.d_wake_sleepers ["held", "orders", "clock"] (sp_wake_sleepers a) := by
  refine T.F_wake_sleepers.ok sc_wake_sleepers (fun vs H Q E h => ?_) (fun cdv A' outer s H vs Q E hr h => ?_)
  · obtain ⟨A, W, M, rfl, _⟩ := h
    rfl
  · obtain ⟨A, W, M, rfl, R, G, ⟨os, ho⟩, hck, k⟩ := h
    have g1 := G.ords os ho
    have g2 := G.row
    have g3 := G.ks
    obtain ⟨dh, hh⟩ := R.held
    refine ⟨_, (pss_cons (ps_set (i := 3) sc_wake_sleepers.nd rfl (Or.inl rfl) (pe_meth0 (pv 0) T.l_Held T.M_Held_sleepers (ok_Held_sleepers T) (hr.mono (by decide)) (b_Held_sleepers T) .nil pass0))
      (pss_cons (ps_if (pt_not (pt_truth (pv 3) (fun _ => rfl))) (pss_one ps_retN) pss_nil)
      (pss_cons (ps_expr (pe_meth (pv 0) T.l_Held T.M_Held_hear (ok_Held_hear T) (hr.mono (by decide)) (b_Held_hear T) .nil pass0 (pa_cons (pe_meth0 (pv 2) T.l_Clock T.M_Clock_ask (ok_Clock_ask T) (hr.mono (by decide)) (b_Clock_ask T) .nil pass0) pa_nil)))
      (pss_one (ps_for PassesOwn.never rfl (pi_list (pv 3)) (pg_name (i := 4) sc_wake_sleepers.nd rfl (Or.inl rfl)) (pss_one (ps_if (pt_cmp (pc_le (pe_fld (pv 4) rfl) (pe_fld (pv 0) rfl))) (pss_one (ps_expr (pe_call (ok_hand T) (hr.mono (by decide)) rfl T.m_hand T.F_hand.kp (b_hand T) .nil pass0 (pa_cons (pv 0) (pa_cons (pv 1) (pa_cons (pv 4) (pa_cons (pe_call0 (ok_nothing T) (hr.mono (by decide)) rfl T.m_nothing T.F_nothing.kp (b_nothing T) .nil pass0) pa_nil))))))) pss_nil))))))), ?_⟩
    refine ⟨_, rfl, _, dh, _, rfl, hh, rfl, A, W, M, rfl, R, by omega, fun H1 p l s1 np sl hp1 => ?_⟩
    have R1 := R.same s1
    have S1 := Step.same R s1
    refine ⟨_, rfl, _, .inl ⟨_, SqL.of hp1, rfl⟩, ?_⟩
    cases l with
    | nil =>
      refine iteT ?_
      exact k H1 A W [] sl S1
    | cons u l' =>
      refine iteF ?_
      obtain ⟨dh1, hh1⟩ := R1.held
      obtain ⟨⟨rl, i⟩, hck'⟩ := Option.isSome_iff_exists.mp hck
      obtain ⟨dc, pc, hcl, wc⟩ := R1.clock hck'
      have er : M.reply = rl.getD i 0 := by rw [MS.reply, hck']
      refine ⟨_, rfl, _, dh1, _, rfl, hh1, rfl, _, rfl, _, dc, _, rfl, hcl, rfl, A, W, M, rl, i, rfl, R1, hck', fun H2 R2 k2 => ?_⟩
      refine ⟨A, W, M.ask, rl.getD i 0, rfl, R2, fun H3 R3 k3 => ?_⟩
      rw [← er] at R3
      have R3' : Rep a H3 A W M.heard := R3
      have S13 : Step a H1 A W M H3 A W M.heard := (Step.of R2 (WLe.refl W) k2 fun _ => live_ask).trans (Step.of R3' (WLe.refl W) k3 fun _ => live_hear) R1
      have S3 := S1.trans S13 R
      have away : ∀ r, live M r → A r ≠ p := fun r l => R.neN l np
      have hp3 : H3 p = some (.lst (rs A (u :: l'))) := S13.keep p _ hp1 away
      have hl := sleep_len sl
      refine ⟨_, rfl, _, rfl, ⟨_, SqL.of hp3⟩, for_list (K := K) (a := p) (xs := rs A (u :: l')) (fun i σ H' => (∃ x4 : Option V, σ = [some (.ref (A .held)), some (.ref (A .orders)), some (.ref (A .clock)), some (.ref p), x4]) ∧ H' p = some (.lst (rs A (u :: l'))) ∧ ∃ W4, Step a H3 A W M.heard H' A W4 (((u :: l').take i).foldl MS.wake1 M.heard))
        ⟨⟨none, rfl⟩, hp3, _, Step.refl R3'⟩ (fun i σ H' _ ⟨_, h2, _⟩ => SqL.of h2) ?_ ?_⟩
      · rintro i y σ H' hi ⟨⟨x4, rfl⟩, hq, W4, S4⟩
        obtain ⟨n, hn, rfl⟩ : ∃ n, (u :: l')[i]? = some n ∧ y = V.ref (A (.task n)) := by
          unfold rs at hi
          rw [List.getElem?_map] at hi
          cases e : (u :: l')[i]? with
          | none => rw [e] at hi; cases hi
          | some t => rw [e] at hi; exact ⟨t, rfl, (Option.some.inj hi).symm⟩
        have hnk : n ∈ M.ks := sleep_mem sl (List.mem_of_getElem? hn)
        have hin := lt_of_get hn
        have Wk := woken_fold ((u :: l').take i) M.heard
        have e : ((u :: l').take (i + 1)).foldl MS.wake1 M.heard = (((u :: l').take i).foldl MS.wake1 M.heard).wake1 n := by rw [take_snoc hn, fold_snoc]
        have R4 := S4.rep
        generalize hN : ((u :: l').take i).foldl MS.wake1 M.heard = N at Wk e S4 R4
        have hnN : n ∈ N.ks := by rw [Wk.ks]; exact hnk
        obtain ⟨dt, pt, ht, wt⟩ := R4.task hnN
        obtain ⟨dh4, hh4⟩ := R4.held
        obtain ⟨os4, ho4, hl4⟩ := Wk.ords os ho
        have hr4 := Wk.row
        have hr5 : M.heard.row = M.row := rfl
        rw [hr5] at hr4
        rw [List.length_take] at hl4 hr4
        have lvN : ∀ r, live N r → live M r := fun r l => ((live_hear (M := M.ask)).trans live_ask).mp ((Wk.live r).mp l)
        refine ⟨_, rfl, _, _, dt, _, _, rfl, ht, T.l_Task, T.a_Task_target, tl_target, _, rfl, _, _, dh4, _, _, rfl, hh4, T.l_Held, T.a_Held_now, hl_now, _, _, rfl, rfl, _, rfl, ?_⟩
        refine ite2 (fun h => ?_) (fun h => ?_)
        · have h' : N.tg n ≤ N.now := by simpa using h
          refine ⟨_, rfl, _, rfl, _, rfl, rfl, fun x hx => ?_⟩
          have Sv := Step.val R4 [0] hx
          refine ⟨A, _, N, n, x, [0], os4, rfl, Sv.rep, hnN, wput_at, by show 1 ≤ 1000; decide, ho4, by omega, by omega, fun H5 W5 R5 wl5 k5 => ?_⟩
          have S5 := Sv.trans (Step.of R5 wl5 k5 fun _ => live_give) R4
          refine ⟨⟨_, rfl⟩, S5.keep _ _ hq fun r l => away r (lvN r l), W5, ?_⟩
          rw [e, MS.wake1, if_pos h']
          exact S4.trans S5 R3'
        · have h' : ¬ N.tg n ≤ N.now := by simpa using h
          refine ⟨⟨_, rfl⟩, hq, W4, ?_⟩
          rw [e, MS.wake1, if_neg h']
          exact S4
      · rintro σ H' ⟨⟨x4, rfl⟩, hq, W4, S4⟩
        rw [rs, List.length_map, List.take_length] at S4
        exact k H' A W4 (u :: l') sl (S3.trans S4 R)
end
end TT
end
section
set_option Elab.async false
set_option linter.all false
set_option maxRecDepth 100000
set_option maxHeartbeats 2000000
open PySem PySem.Spec PyProof.Rows L2
namespace TT
def MS.going (N : MS) (n : Nat) (r : List Nat) : MS := ({ N with row := r } : MS).setSt n 1 0
def sp_answer_next (a : Ad) : Sp := fun vs H Q _ => ∃ (A : Nm) (W : Wd) (M : MS), vs = [.ref (A .held), .ref (A .clock)] ∧ Pre0 a H A W M ∧
  (M.ks.any (busyB M) = true → Ret a H A W M M.open.close [1, 0] Q) ∧
  (M.ks.any (busyB M) = false → ∀ l1, Sleep M.open l1 → (M.open.wake l1).told.length < 16000000 ∧
    (∀ n r, (M.open.wake l1).row = n :: r → Ret a H A W M ((M.open.wake l1).going n r).close (0 :: (M.open.wake l1).told ++ [(n : Int), (M.open.wake l1).steps]) Q) ∧
    ((M.open.wake l1).row = [] → ∀ l2, Sleep (M.open.wake l1) l2 →
      (∀ s l, l2 = s :: l → Ret a H A W M (M.open.wake l1).close (2 :: (M.open.wake l1).told ++ [(M.open.wake l1).tg s]) Q) ∧
      (l2 = [] → (M.open.wake l1).ks.all (endedB (M.open.wake l1)) = true → Ret a H A W M (M.open.wake l1).close (3 :: (M.open.wake l1).told) Q) ∧
      (l2 = [] → (M.open.wake l1).ks.all (endedB (M.open.wake l1)) = false → Ret a H A W M (M.open.wake l1).close (4 :: (M.open.wake l1).told) Q)))
section
variable {a : Ad} {H H' : Hp} {A : Nm} {W : Wd} {M : MS}
theorem Rep.setRow (R : Rep a H A W M) (l : List Nat) : Rep a (upd H (A .row) (.lst (rs A l))) A W { M with row := l } := by
  refine R.put (r0 := .row) trivial (fun r l => by cases r <;> exact l) rfl fun r hr l o c' => ?_
  cases r <;> first | exact c' | exact absurd rfl hr
theorem Cal.ret (c : Step a H A W M H' A' W' M') (ck : M.clk.isSome = true) {p : Addr} {o : HO} (hp : H' p = none) : Cal a H A W M (upd H' p o) A' W' M'.close ∧ H p = none := ⟨(Cal.step c ck).close.more (same_new hp), c.back hp⟩
end
section
variable {P : Program} {w : World} {K : PySem.W.Frag} {mg : Str → Option Value} {base : Heap} {a : Ad}
theorem ok_answer_next (T : Tx K mg a) : FnOk P w K mg base CX0 5 a.f_answer_next a.d_answer_next ["held", "clock"] (sp_answer_next a) := by
  refine T.F_answer_next.ok sc_answer_next (fun vs H Q E h => ?_) (fun cdv A' outer s H vs Q E hr h => ?_)
  · obtain ⟨A, W, M, rfl, _⟩ := h
    rfl
  · obtain ⟨A, W, M, rfl, ⟨R, G, no, ck⟩, kb, kn⟩ := h
    have g3 := G.ks
    refine ⟨_, (pss_cons (ps_set (i := 2) sc_answer_next.nd rfl (Or.inl rfl) (pe_lst pa_nil))
      (pss_cons (ps_if (pt_truth (pe_meth0 (pv 0) T.l_Held T.M_Held_is_busy (ok_Held_is_busy T) (hr.mono (by decide)) (b_Held_is_busy T) .nil pass0) (fun _ => rfl)) (pss_one (ps_ret (pe_op op_cat (pe_lst (pa_cons (pe_glob (v := .int (1)) rfl T.c_IS_BUSY ⟨_, rfl⟩) pa_nil)) (pe_call (ok_tell_orders T) (hr.mono (by decide)) rfl T.m_tell_orders T.F_tell_orders.kp (b_tell_orders T) .nil pass0 (pa_cons (pv 2) pa_nil))))) pss_nil)
      (pss_cons (ps_expr (pe_call (ok_wake_sleepers T) (hr.mono (by decide)) rfl T.m_wake_sleepers T.F_wake_sleepers.kp (b_wake_sleepers T) .nil pass0 (pa_cons (pv 0) (pa_cons (pv 2) (pa_cons (pv 1) pa_nil)))))
      (pss_cons (ps_set (i := 3) sc_answer_next.nd rfl (Or.inl rfl) (pe_call (ok_tell_orders T) (hr.mono (by decide)) rfl T.m_tell_orders T.F_tell_orders.kp (b_tell_orders T) .nil pass0 (pa_cons (pv 2) pa_nil)))
      (pss_cons (ps_if (pt_truth (pe_fld (pv 0) rfl) (fun _ => rfl)) (pss_cons (ps_set (i := 4) sc_answer_next.nd rfl (Or.inl rfl) (pe_bm PySem.F.plainAttrs_list PySem.F.slot_list_pop PySem.F.type_list_pop mt_popAt (pe_fld (pv 0) rfl) (pa_cons pe_int pa_nil)))
      (pss_cons (ps_expr (pe_meth (pv 4) T.l_Task T.M_Task_wait (ok_Task_wait T) (hr.mono (by decide)) (b_Task_wait T) .nil pass0 (pa_cons (pe_glob (v := .int (1)) rfl T.c_GOING ⟨_, rfl⟩) (pa_cons pe_int pa_nil))))
      (pss_one (ps_ret (pe_op op_cat (pe_op op_cat (pe_lst (pa_cons (pe_glob (v := .int (0)) rfl T.c_GOES ⟨_, rfl⟩) pa_nil)) (pv 3)) (pe_lst (pa_cons (pe_fld (pv 4) rfl) (pa_cons (pe_fld (pv 0) rfl) pa_nil)))))))) pss_nil)
      (pss_cons (ps_set (i := 5) sc_answer_next.nd rfl (Or.inl rfl) (pe_meth0 (pv 0) T.l_Held T.M_Held_sleepers (ok_Held_sleepers T) (hr.mono (by decide)) (b_Held_sleepers T) .nil pass0))
      (pss_cons (ps_if (pt_truth (pv 5) (fun _ => rfl)) (pss_one (ps_ret (pe_op op_cat (pe_op op_cat (pe_lst (pa_cons (pe_glob (v := .int (2)) rfl T.c_TIME_IS_AWAITED ⟨_, rfl⟩) pa_nil)) (pv 3)) (pe_lst (pa_cons (pe_fld (pe_ix ix_list (pv 5) pe_int (fun _ _ => rfl)) rfl) pa_nil))))) pss_nil)
      (pss_cons (ps_if (pt_truth (pe_meth0 (pv 0) T.l_Held T.M_Held_all_have_ended (ok_Held_all_have_ended T) (hr.mono (by decide)) (b_Held_all_have_ended T) .nil pass0) (fun _ => rfl)) (pss_one (ps_ret (pe_op op_cat (pe_lst (pa_cons (pe_glob (v := .int (3)) rfl T.c_ALL_ENDED ⟨_, rfl⟩) pa_nil)) (pv 3)))) pss_nil)
      (pss_one (ps_ret (pe_op op_cat (pe_lst (pa_cons (pe_glob (v := .int (4)) rfl T.c_NONE_CAN_GO ⟨_, rfl⟩) pa_nil)) (pv 3)))))))))))), ?_⟩
    refine ⟨Nat.zero_le _, fun q hq => ?_⟩
    have S0 := Step.open R no hq
    have R0 := S0.rep
    have G0 := G.open
    have e1 : nmOrd A q .held = A .held := S0.at_ (r := .held) trivial
    have e2 : nmOrd A q .clock = A .clock := S0.at_ (r := .clock) ck
    have e3 : nmOrd A q .orders = q := by unfold nmOrd; rw [if_pos rfl]
    obtain ⟨dh, hh⟩ := R0.held
    rw [e1] at hh
    refine ⟨_, rfl, _, dh, _, rfl, hh, rfl, nmOrd A q, W, M.open, by rw [e1]; rfl, R0, (by show M.ks.length < _; omega), fun H1 s1 => ⟨_, rfl, ?_⟩⟩
    have S1 := S0.trans (Step.same R0 s1) R
    have R1 := S1.rep
    show if (M.ks.any (busyB M)) = true then _ else _
    cases hb : M.ks.any (busyB M) with
    | true =>
      refine iteT ?_
      refine ⟨by show 1 ≤ sizeLine; decide, fun t1 ht1 => ?_⟩
      have s2 := same_new (o := HO.lst [V.int 1]) ht1
      have S2 := S1.trans (Step.same R1 s2) R
      refine ⟨_, rfl, nmOrd A q, W, M.open, [], by rw [e3]; rfl, S2.rep, rfl, by decide, fun H3 p3 s3 n3 hp3 => ?_⟩
      have S3 := S2.trans (Step.same S2.rep s3) R
      refine ⟨t1, p3, _, _, rfl, rfl, s3 _ _ upd_same, hp3, by show 1 + 1 ≤ sizeLine; decide, fun p hp => ?_⟩
      obtain ⟨c, hp0⟩ := Cal.ret S3 ck (o := HO.lst ([V.int 1] ++ [V.int 0])) hp
      exact kb hb _ _ _ p c hp0 upd_same
    | false =>
      refine iteF ?_
      have kn := kn hb
      refine ⟨_, rfl, _, rfl, _, rfl, nmOrd A q, W, M.open, by rw [e1, e2, e3]; rfl, R1, G0, ⟨_, rfl⟩, ck, fun H2 A2 W2 l1 sl1 Sw => ?_⟩
      obtain ⟨kt, kg, kr⟩ := kn l1 sl1
      have S2 := S1.trans Sw R
      have R2 := S2.rep
      have Wk := woken_wake M.open l1
      have hl1 := sleep_len sl1
      generalize M.open.wake l1 = N at *
      obtain ⟨os2, ho2, hol⟩ := Wk.ords [] rfl
      have f1 : A2 .held = A .held := S2.at_ (r := .held) trivial
      have f3 : A2 .orders = q := (Sw.at_ (r := .orders) rfl).trans e3
      rw [told_is ho2] at kt
      have ktl : os2.flatten.length < 16000000 := by rw [List.length_cons] at kt; omega
      refine ⟨_, rfl, A2, W2, N, os2, by rw [f3]; rfl, R2, ho2, ktl, fun H3 tp s3 n3 hp3 => ?_⟩
      have S23 := Step.val' R2 s3 n3 hp3
      have S3 := S2.trans S23 R
      have R3 := S3.rep
      generalize hW3 : wput W2 tp ((os2.length : Int) :: os2.flatten) = W3 at S23 S3 R3
      have wt : W3 tp = some N.told := by rw [← hW3, wput_at, told_is ho2]
      have tl : N.told.length < 16000000 := by rw [told_is ho2]; exact kt
      obtain ⟨dh3, hh3⟩ := R3.held
      have nk : N.ks.length < 50000 := by rw [Wk.ks]; exact g3
      have hh3' : H3 (A .held) = some (.ins a.C_Held dh3 (heldF N.steps (A2 .tasks) (A2 .chs) (A2 .row) N.now)) := by rw [← f1]; exact hh3
      refine ⟨_, rfl, _, _, dh3, _, _, rfl, hh3', T.l_Held, T.a_Held_row, hl_row, _, .inl ⟨_, SqL.of R3.row, rfl⟩, ?_⟩
      cases hrow : N.row with
      | cons n r =>
        refine iteT ?_
        have hnk : n ∈ N.ks := by
          rw [Wk.ks]
          rcases Wk.mem n (by rw [hrow]; exact List.mem_cons_self) with z | z
          · exact G.cl.row n z
          · exact sleep_mem sl1 z
        have hr3 : H3 (A2 .row) = some (.lst (V.ref (A2 (.task n)) :: rs A2 r)) := by rw [R3.row, hrow]; rfl
        refine ⟨_, rfl, _, _, dh3, _, _, rfl, hh3', T.l_Held, T.a_Held_row, hl_row, .inl ⟨rfl, _, SqL.of R3.row⟩, pop1 hr3 ?_⟩
        have R4 := R3.setRow r
        have S4 := S3.trans (Step.of R4 (WLe.refl W3) (Keep.put (r0 := .row) trivial) fun q => by cases q <;> exact Iff.rfl) R
        obtain ⟨dt4, pt4, ht4, wt4⟩ := R4.task (n := n) hnk
        refine ⟨_, rfl, _, dt4, _, rfl, ht4, rfl, A2, W3, _, n, 1, 0, rfl, R4, hnk, fun H5 R5 k5 => ?_⟩
        have S5 := S4.trans (Step.of R5 (WLe.refl W3) k5 fun _ => live_setSt') R
        refine ⟨by show 1 ≤ sizeLine; decide, fun t1 ht1 => ?_⟩
        have s6 := same_new (o := HO.lst [V.int 0]) ht1
        have S6 := S5.trans (Step.same R5 s6) R
        refine ⟨_, rfl, t1, tp, _, _, rfl, rfl, upd_same, S6.rep.val tp _ wt, ?_, fun t2 ht2 => ?_⟩
        · rw [List.length_map, sizeLine_eq]; show 1 + _ ≤ _; omega
        have s7 := same_new (o := HO.lst ([V.int 0] ++ N.told.map V.int)) ht2
        have S7 := S6.trans (Step.same S6.rep s7) R
        obtain ⟨dt7, pt7, ht7, wt7⟩ := S7.rep.task (n := n) hnk
        obtain ⟨dh7, hh7⟩ := S7.rep.held
        rw [f1] at hh7
        refine ⟨_, rfl, _, _, dt7, _, _, rfl, ht7, T.l_Task, T.a_Task_number, tl_number, _, rfl, _, _, dh7, _, _, rfl, hh7, T.l_Held, T.a_Held_steps, hl_steps, (by show 2 ≤ sizeLine; decide), fun t3 ht3 => ?_⟩
        have s8 := same_new (o := HO.lst [V.int n, V.int N.steps]) ht3
        have S8 := S7.trans (Step.same S7.rep s8) R
        refine ⟨t2, t3, _, _, rfl, rfl, s8 _ _ upd_same, upd_same, ?_, fun p hp => ?_⟩
        · rw [List.length_append, List.length_map, sizeLine_eq]; show 1 + _ + 2 ≤ _; omega
        obtain ⟨c, hp0⟩ := Cal.ret S8 ck (o := HO.lst (([V.int 0] ++ N.told.map V.int) ++ [V.int n, V.int N.steps])) hp
        refine kg n r hrow _ _ _ p c hp0 ?_
        rw [upd_same, List.map_append]
        rfl
      | nil =>
        refine iteF ?_
        have kr := kr hrow
        refine ⟨_, rfl, _, dh3, _, rfl, hh3', rfl, A2, W3, N, by rw [f1]; rfl, R3, by omega, fun H4 p4 l2 s4 n4 sl2 hp4 => ?_⟩
        have S4 := S3.trans (Step.same R3 s4) R
        obtain ⟨k2, k3, k4⟩ := kr l2 sl2
        have fin : ∀ (z : Int) (H5 : Hp) (s5 : Same H4 H5), Ret a H A W M N.close (z :: N.told) Q → ∀ t1, H5 t1 = none → ∀ p, (upd H5 t1 (.lst [V.int z])) p = none → Q (.ref p) (upd (upd H5 t1 (.lst [V.int z])) p (.lst ([V.int z] ++ N.told.map V.int))) := fun z H5 s5 kk t1 ht1 p hp => by
          have S5 := (S4.trans (Step.same S4.rep s5) R)
          have S6 := S5.trans (Step.same S5.rep (same_new (o := HO.lst [V.int z]) ht1)) R
          obtain ⟨c, hp0⟩ := Cal.ret S6 ck (o := HO.lst ([V.int z] ++ N.told.map V.int)) hp
          exact kk _ _ _ p c hp0 upd_same
        refine ⟨_, rfl, _, .inl ⟨_, SqL.of hp4, rfl⟩, ?_⟩
        cases l2 with
        | cons s l =>
          refine iteT ?_
          have hsk : s ∈ N.ks := sleep_mem sl2 List.mem_cons_self
          refine ⟨by show 1 ≤ sizeLine; decide, fun t1 ht1 => ?_⟩
          have s5 := same_new (o := HO.lst [V.int 2]) ht1
          have S5 := S4.trans (Step.same S4.rep s5) R
          refine ⟨_, rfl, t1, tp, _, _, rfl, rfl, upd_same, S5.rep.val tp _ wt, ?_, fun t2 ht2 => ?_⟩
          · rw [List.length_map, sizeLine_eq]; show 1 + _ ≤ _; omega
          have s6 := same_new (o := HO.lst ([V.int 2] ++ N.told.map V.int)) ht2
          have S6 := S5.trans (Step.same S5.rep s6) R
          obtain ⟨ds, pss, hs, wss⟩ := S6.rep.task hsk
          refine ⟨_, rfl, p4, _, _, _, rfl, rfl, SqL.of (s6 _ _ (s5 _ _ hp4)), atI_nat (j := 0) rfl, _, _, ds, _, _, rfl, hs, T.l_Task, T.a_Task_target, tl_target, (by show 1 ≤ sizeLine; decide), fun t3 ht3 => ?_⟩
          have s7 := same_new (o := HO.lst [V.int (N.tg s)]) ht3
          have S7 := S6.trans (Step.same S6.rep s7) R
          refine ⟨t2, t3, _, _, rfl, rfl, s7 _ _ upd_same, upd_same, ?_, fun p hp => ?_⟩
          · rw [List.length_append, List.length_map, sizeLine_eq]; show 1 + _ + 1 ≤ _; omega
          obtain ⟨c, hp0⟩ := Cal.ret S7 ck (o := HO.lst (([V.int 2] ++ N.told.map V.int) ++ [V.int (N.tg s)])) hp
          refine k2 s l rfl _ _ _ p c hp0 ?_
          rw [upd_same, List.map_append]
          rfl
        | nil =>
          refine iteF ?_
          have hh4 := s4 _ _ hh3'
          refine ⟨_, rfl, _, dh3, _, rfl, hh4, rfl, A2, W3, N, by rw [f1]; rfl, S4.rep, by omega, fun H5 s5 => ⟨_, rfl, ?_⟩⟩
          have wt5 : ∀ t1 o, H5 t1 = none → (upd H5 t1 o) tp = some (.lst (N.told.map V.int)) := fun t1 o ht1 => same_new ht1 _ _ (s5 _ _ (S4.rep.val tp _ wt))
          cases ha : N.ks.all (endedB N) with
          | true =>
            refine iteT ?_
            refine ⟨by show 1 ≤ sizeLine; decide, fun t1 ht1 => ⟨_, rfl, t1, tp, _, _, rfl, rfl, upd_same, wt5 t1 _ ht1, ?_, fun p hp => fin 3 H5 s5 (k3 rfl ha) t1 ht1 p hp⟩⟩
            rw [List.length_map, sizeLine_eq]; show 1 + _ ≤ _; omega
          | false =>
            refine iteF ?_
            refine ⟨by show 1 ≤ sizeLine; decide, fun t1 ht1 => ⟨_, rfl, t1, tp, _, _, rfl, rfl, upd_same, wt5 t1 _ ht1, ?_, fun p hp => fin 4 H5 s5 (k4 rfl ha) t1 ht1 p hp⟩⟩
            rw [List.length_map, sizeLine_eq]; show 1 + _ ≤ _; omega
end
end TT
end
section
set_option Elab.async false
set_option linter.all false
set_option maxRecDepth 100000
set_option maxHeartbeats 2000000
open PySem PySem.Spec PyProof.Rows L2
namespace TT
def MS.ranGo (M : MS) (n : Nat) (why at_ : Int) (ls : List (List Int)) : MS :=
  if why = 0 then M.open.ready n else if why = 1 then M.open.endT n 7 (ls.getD 0 []) else if why = 2 then M.open.endT n 8 (ls.getD 0 []) else M.open.stand n at_ ls
def MS.ranM (M : MS) (z why at_ : Int) (ls : List (List Int)) : MS × List Int := match M.taskNo z with
  | none => (M, [-8])
  | some n => if M.st n = 1 ∧ (ls.length : Int) = wantedR why at_ ∧ ls.all isValB = true then ((M.ranGo n why at_ ls).close, 0 :: (M.ranGo n why at_ ls).told) else (M, [-8])
def sp_answer_ran (a : Ad) : Sp := fun vs H Q _ => ∃ (A : Nm) (W : Wd) (M : MS) (z why at_ : Int) (p : Addr) (ps : List Addr) (ls : List (List Int)), vs = [.ref (A .held), .int z, .int why, .int at_, .ref p, .ref (A .clock)] ∧ Pre0 a H A W M ∧ H p = some (.lst (ps.map V.ref)) ∧ Toks W ps ls ∧ ls.length < 100000 ∧
  (M.ranM z why at_ ls).2.length < 16000000 ∧ Ret a H A W M (M.ranM z why at_ ls).1 (M.ranM z why at_ ls).2 Q
theorem give_some {N : MS} {k : Int} {n : Nat} {l : List Int} (h : ∃ os, N.ords = some os) : ∃ os, (N.give k n l).ords = some os := let ⟨os, e⟩ := h; ⟨_, give_ords e⟩
theorem order_some {N : MS} {l : List Int} (h : ∃ os, N.ords = some os) : ∃ os, (N.order l).ords = some os := let ⟨os, e⟩ := h; ⟨os ++ [l], by show N.ords.map _ = _; rw [e]; rfl⟩
section
variable {M : MS} {n : Nat}
theorem wrong_some (h : ∃ os, M.ords = some os) : ∃ os, (M.wrong n).ords = some os := give_some h
theorem endT_some {code : Int} {v : List Int} (h : ∃ os, M.ords = some os) : ∃ os, (M.endT n code v).ords = some os := by
  obtain ⟨os, e⟩ := h
  obtain ⟨_, _, _, os', h4, _⟩ := fold_tell n (M.wt n) (((M.setSt n code 0).setVal n v).setWt n []) os e
  exact ⟨os', h4⟩
theorem stand_some {z : Int} {ls : List (List Int)} (h : ∃ os, M.ords = some os) : ∃ os, (M.stand n z ls).ords = some os := by
  unfold MS.stand
  split
  · exact order_some (N := M.setSt n 2 0) h
  split
  · exact give_some h
  split
  · unfold MS.standChannel
    split
    · split
      · exact give_some (N := M.newChan _) h
      · exact wrong_some h
    · exact wrong_some h
  split
  · unfold MS.standSend
    split
    · exact wrong_some h
    · split
      · exact h
      · split
        · exact give_some (give_some (N := M.setCh _ _) h)
        · split
          · exact give_some (N := M.setCh _ _) h
          · exact h
  split
  · unfold MS.standReceive
    split
    · exact wrong_some h
    · split
      · exact h
      · unfold MS.recvAt
        split
        · exact give_some (N := M.setCh _ _) h
        · exact give_some (N := ((((M.setCh _ _).give _ _ _).setCh _ _).setCh _ _)) (show ∃ os, (((M.setCh _ _).give _ _ _)).ords = some os from give_some (N := M.setCh _ _) h)
        · exact give_some (give_some (N := M.setCh _ _) h)
        · exact h
  split
  · unfold MS.standEnd
    split
    · exact wrong_some h
    · split
      · exact give_some h
      · split
        · obtain ⟨k, e⟩ := tell_is M _ n
          rw [e]
          exact give_some h
        · exact h
  · unfold MS.standSleep
    split
    · split
      · exact give_some (N := M.heard) h
      · exact h
    · exact wrong_some h
theorem ranGo_some {why z : Int} {ls : List (List Int)} : ∃ os, (M.ranGo n why z ls).ords = some os := by
  have h : ∃ os, M.open.ords = some os := ⟨_, rfl⟩
  unfold MS.ranGo
  split
  · exact h
  split
  · exact endT_some h
  split
  · exact endT_some h
  · exact stand_some h
end
section
variable {P : Program} {w : World} {K : PySem.W.Frag} {mg : Str → Option Value} {base : Heap} {a : Ad}
theorem ok_answer_ran (T : Tx K mg a) : FnOk P w K mg base CX0 7 a.f_answer_ran a.d_answer_ran ["held", "number", "why", "at", "values", "clock"] (sp_answer_ran a) := by
  refine T.F_answer_ran.ok sc_answer_ran (fun vs H Q E h => ?_) (fun cdv A' outer s H vs Q E hr h => ?_)
  · obtain ⟨A, W, M, z, why, at_, p, ps, ls, rfl, _⟩ := h
    rfl
  · obtain ⟨A, W, M, z, why, at_, p, ps, ls, rfl, ⟨R, G, no, ck⟩, hp, tk, hll, hout, k⟩ := h
    obtain ⟨dh, hh⟩ := R.held
    refine ⟨_, (pss_cons (ps_set (i := 6) sc_answer_ran.nd rfl (Or.inl rfl) (pe_dget1 (hu_of hr) (pe_fld (pv 0) rfl) (pv 1) ⟨rfl, rfl, rfl, rfl⟩))
      (pss_cons (ps_if (PW.pt (pw_or (pt_cmp (pc_isN (pv 6))) (pw_or1 (pt_cmp (pc_neI (pe_fld (pv 6) rfl) (pe_glob (v := .int (1)) rfl T.c_GOING ⟨_, rfl⟩)))))) (pss_one (ps_ret (pe_lst (pa_cons (pe_glob (v := .int (-8)) rfl T.c_NOT_AS_TOLD ⟨_, rfl⟩) pa_nil)))) pss_nil)
      (pss_cons (ps_if (PW.pt (pw_or (pt_cmp (pc_neI (pe_callB (call_len_seq) (by rfl) T.n_len PySem.boot_len (pa_cons (pv 4) pa_nil)) (pe_call (ok_values_of_ran T) (hr.mono (by decide)) rfl T.m_values_of_ran T.F_values_of_ran.kp (b_values_of_ran T) .nil pass0 (pa_cons (pv 2) (pa_cons (pv 3) pa_nil))))) (pw_or1 (pt_not (pt_truth (pe_callB (cr_all rfl) (by rfl) T.n_all PyProof.Rows.boot_all (pa_cons (pe_lc rfl sc_answer_ran.nd (pi_list (pv 4)) (own := [("value", 8)]) (g := gName 8) (tt := tYes) (te := (tCall (sp_is_value K) [] E0 (tCons (tVar 8) tNil))) (blkOk_by rfl) (fun _ _ _ _ _ => pg_name (i := 8) sc_answer_ran.nd rfl (Or.inl rfl)) (fun _ _ _ _ _ => pts_nil) (fun _ _ _ _ _ => (pe_call (ok_is_value T) (hr.mono (by decide)) rfl T.m_is_value T.F_is_value.kp (b_is_value T) .nil pass0 (pa_cons (pv 8) pa_nil)))) pa_nil)) (fun _ => rfl)))))) (pss_one (ps_ret (pe_lst (pa_cons (pe_glob (v := .int (-8)) rfl T.c_NOT_AS_TOLD ⟨_, rfl⟩) pa_nil)))) pss_nil)
      (pss_cons (ps_set (i := 7) sc_answer_ran.nd rfl (Or.inl rfl) (pe_lst pa_nil))
      (pss_cons (ps_if (pt_cmp (pc_eqI (pv 2) (pe_glob (v := .int (0)) rfl T.c_TURN_OVER ⟨_, rfl⟩))) (pss_one (ps_expr (pe_meth (pv 0) T.l_Held T.M_Held_make_ready (ok_Held_make_ready T) (hr.mono (by decide)) (b_Held_make_ready T) .nil pass0 (pa_cons (pv 6) pa_nil)))) (pss_one (ps_if (pt_cmp (pc_eqI (pv 2) (pe_glob (v := .int (1)) rfl T.c_BY_ITSELF ⟨_, rfl⟩))) (pss_one (ps_expr (pe_call (ok_end_task T) (hr.mono (by decide)) rfl T.m_end_task T.F_end_task.kp (b_end_task T) .nil pass0 (pa_cons (pv 0) (pa_cons (pv 7) (pa_cons (pv 6) (pa_cons (pe_glob (v := .int (7)) rfl T.c_ENDED ⟨_, rfl⟩) (pa_cons (pe_ix ix_list (pv 4) pe_int (fun _ _ => rfl)) pa_nil)))))))) (pss_one (ps_if (pt_cmp (pc_eqI (pv 2) (pe_glob (v := .int (2)) rfl T.c_BY_THROW ⟨_, rfl⟩))) (pss_one (ps_expr (pe_call (ok_end_task T) (hr.mono (by decide)) rfl T.m_end_task T.F_end_task.kp (b_end_task T) .nil pass0 (pa_cons (pv 0) (pa_cons (pv 7) (pa_cons (pv 6) (pa_cons (pe_glob (v := .int (8)) rfl T.c_THROWN ⟨_, rfl⟩) (pa_cons (pe_ix ix_list (pv 4) pe_int (fun _ _ => rfl)) pa_nil)))))))) (pss_one (ps_expr (pe_call (ok_stand T) (hr.mono (by decide)) rfl T.m_stand T.F_stand.kp (b_stand T) .nil pass0 (pa_cons (pv 0) (pa_cons (pv 7) (pa_cons (pv 6) (pa_cons (pv 3) (pa_cons (pv 4) (pa_cons (pv 5) pa_nil))))))))))))))
      (pss_one (ps_ret (pe_op op_cat (pe_lst (pa_cons (pe_glob (v := .int (0)) rfl T.c_DONE ⟨_, rfl⟩) pa_nil)) (pe_call (ok_tell_orders T) (hr.mono (by decide)) rfl T.m_tell_orders T.F_tell_orders.kp (b_tell_orders T) .nil pass0 (pa_cons (pv 7) pa_nil)))))))))), ?_⟩
    refine ⟨_, rfl, _, _, dh, _, _, rfl, hh, T.l_Held, T.a_Held_tasks, hl_tasks, _, rfl, .inl ⟨_, .inl R.tasks⟩, _, rfl, _, DGet.k (k := Sum.inl z) R.tasks, ?_⟩
    rw [val_task]
    cases en : M.taskNo z with
    | none =>
      refine ⟨_, rfl, _, rfl, ?_⟩
      refine iteT (iteT ?_)
      exact ⟨by show 1 ≤ sizeLine; decide, fun x hx => retEq k (Cal.same R (same_new hx)) hx (out := [-8]) upd_same (by rw [MS.ranM, en])⟩
    | some n =>
      have hn : n ∈ M.ks := by
        unfold MS.taskNo at en
        split at en
        · rename_i h
          rw [← Option.some.inj en]
          exact h.2
        · cases en
      obtain ⟨dt, pt, ht, wt⟩ := R.task hn
      have er : M.ranM z why at_ ls = if M.st n = 1 ∧ (ls.length : Int) = wantedR why at_ ∧ ls.all isValB = true then ((M.ranGo n why at_ ls).close, 0 :: (M.ranGo n why at_ ls).told) else (M, [-8]) := by rw [MS.ranM, en]
      have bad : ¬ (M.st n = 1 ∧ (ls.length : Int) = wantedR why at_ ∧ ls.all isValB = true) → ∀ H1, Same H H1 → ∀ x, H1 x = none → Q (.ref x) (upd H1 x (.lst [V.int (-8)])) := fun h H1 s1 x hx =>
        retEq k (Cal.same R (s1.trans (same_new hx))) (s1.free hx) (out := [-8]) upd_same (by rw [er, if_neg h])
      refine ⟨_, rfl, _, rfl, ?_⟩
      refine iteF ?_
      refine ⟨_, rfl, _, _, dt, _, _, rfl, ht, T.l_Task, T.a_Task_state, tl_state, _, _, rfl, rfl, _, rfl, ?_⟩
      refine ite2 (fun h => ?_) (fun h => ?_)
      · have h1 : ¬ M.st n = 1 := by simpa using h
        exact ⟨by show 1 ≤ sizeLine; decide, bad (fun q => h1 q.1) H (Same.refl H)⟩
      have h1 : M.st n = 1 := by simpa using h
      refine ⟨_, rfl, p, _, rfl, .inl (SqL.of hp), _, rfl, _, rfl, why, at_, rfl, _, _, rfl, rfl, _, rfl, ?_⟩
      refine ite2 (fun h => ?_) (fun h => ?_)
      · have h2 : ¬ (ls.length : Int) = wantedR why at_ := by
          have h' : ¬ ((ps.map V.ref).length : Int) = wantedR why at_ := by simpa using h
          rw [List.length_map, tk.length] at h'
          exact h'
        refine iteT ?_
        exact ⟨by show 1 ≤ sizeLine; decide, bad (fun q => h2 q.2.1) H (Same.refl H)⟩
      have h2 : (ls.length : Int) = wantedR why at_ := by
        have h' : ((ps.map V.ref).length : Int) = wantedR why at_ := by simpa using h
        rw [List.length_map, tk.length] at h'
        exact h'
      refine ⟨_, rfl, p, rfl, ⟨_, SqL.of hp⟩, fun D hD => ?_⟩
      refine lc_list (K := K) (a := p) (xs := ps.map V.ref) (fun i H' => Same H H' ∧ H' D = some (.lst ((ls.take i).map fun l => V.bl (isValB l)))) ⟨same_new hD, upd_same⟩ (fun i H' _ ⟨s2, _⟩ => SqL.of (s2 _ _ hp)) ?_ ?_
      · rintro i x H' hi ⟨s2, hd⟩
        obtain ⟨q, hq, rfl⟩ : ∃ q, ps[i]? = some q ∧ x = V.ref q := by
          rw [List.getElem?_map] at hi
          cases e : ps[i]? with
          | none => rw [e] at hi; cases hi
          | some t => rw [e] at hi; exact ⟨t, rfl, (Option.some.inj hi).symm⟩
        obtain ⟨l, hl, wl⟩ := tk.at_ hq
        refine ⟨rfl, ?_⟩
        refine ⟨_, rfl, q, l, rfl, s2 _ _ (R.val q l wl), ?_⟩
        refine ⟨_, hd, big (m := 100000) (by rw [List.length_map, List.length_take]; exact Nat.lt_of_le_of_lt (Nat.min_le_right _ _) hll), fun b o e => ?_, ?_⟩
        · rw [upd_ne (ne_of_none e hD)]
          exact s2 b o e
        · rw [upd_same, take_snoc hl, List.map_append]
          rfl
      · rintro H1 ⟨s1, hd⟩
        rw [List.length_map, tk.length, List.take_length] at hd
        refine ⟨_, ls.map isValB, rfl, SqL.of (by rw [hd, List.map_map]; rfl), _, rfl, ?_⟩
        show if (!((ls.map isValB).all id)) = true then _ else _
        rw [show (ls.map isValB).all id = ls.all isValB by rw [List.all_map]; rfl]
        cases hv : ls.all isValB with
        | false =>
          refine iteT ?_
          exact ⟨by show 1 ≤ sizeLine; decide, bad (fun q => by rw [hv] at q; exact absurd q.2.2 (by decide)) H1 s1⟩
        | true =>
          refine iteF ?_
          have ok : M.st n = 1 ∧ (ls.length : Int) = wantedR why at_ ∧ ls.all isValB = true := ⟨h1, h2, hv⟩
          have vlen : ∀ l ∈ ls, l.length ≤ 1000 := fun l hl => by
            have h := List.all_eq_true.mp hv l hl
            simp only [isValB, Bool.and_eq_true, decide_eq_true_eq] at h
            omega
          rw [er, if_pos ok] at hout
          have R1 := R.same s1
          refine ⟨Nat.zero_le _, fun q hq => ?_⟩
          have S0 := Step.open R1 no hq
          have S01 := (Step.same R s1).trans S0 R
          have R0 := S0.rep
          have G0 := G.open
          have e1 : nmOrd A q .held = A .held := S0.at_ (r := .held) trivial
          have e2 : nmOrd A q .clock = A .clock := S0.at_ (r := .clock) ck
          have e3 : nmOrd A q .orders = q := by unfold nmOrd; rw [if_pos rfl]
          have e4 : nmOrd A q (.task n) = A (.task n) := S0.at_ (r := .task n) hn
          have PR : Pre a _ (nmOrd A q) W M.open n := ⟨R0, G0, hn, [], rfl⟩
          have hp0 := same_new (o := HO.lst []) hq _ _ (s1 _ _ hp)
          have at0 : 1 ≤ ls.length → ∃ p0, atI (ps.map V.ref) (0 : Int) = some (V.ref p0) ∧ W p0 = some (ls.getD 0 []) ∧ (ls.getD 0 []).length ≤ 1000 := fun h => by
            obtain ⟨p0, h1, h2⟩ := get0 tk (i := 0) (List.getElem?_eq_getElem (by omega))
            have e : ls.getD 0 [] = ls[0] := by rw [List.getD_eq_getElem?_getD, List.getElem?_eq_getElem (by omega)]; rfl
            exact ⟨p0, at_of (j := 0) rfl (by rw [List.getElem?_map, h1]; rfl), by rw [h2, e], by rw [e]; exact vlen _ (List.getElem_mem _)⟩
          have fin : ∀ (N : MS) (H2 : Hp) (A2 : Nm) (W2 : Wd), N = M.ranGo n why at_ ls → Step a (upd H1 q (.lst [])) (nmOrd A q) W M.open H2 A2 W2 N → ∀ t1, H2 t1 = none → sp_tell_orders a [.ref q] (upd H2 t1 (.lst [V.int 0])) (fun y H3 => rCat (.ref t1) y H3 Q) E0 := by
            rintro N H2 A2 W2 eN S2 t1 ht1
            obtain ⟨os, ho⟩ := ranGo_some (M := M) (n := n) (why := why) (z := at_) (ls := ls)
            rw [← eN] at ho hout
            have f3 : A2 .orders = q := (S2.at_ (r := .orders) rfl).trans e3
            have s3 := same_new (o := HO.lst [V.int 0]) ht1
            have S3 := (S01.trans S2 R).trans (Step.same S2.rep s3) R
            rw [told_is ho] at hout
            simp only [List.length_cons] at hout
            refine ⟨A2, W2, N, os, by rw [f3], S3.rep, ho, by omega, fun H4 tp s4 n4 hp4 => ?_⟩
            have S4 := S3.trans (Step.same S3.rep s4) R
            refine ⟨t1, tp, _, _, rfl, rfl, s4 _ _ upd_same, hp4, ?_, fun x hx => ?_⟩
            · rw [List.length_map, sizeLine_eq]
              simp only [List.length_cons, List.length_nil]
              omega
            · obtain ⟨c, hp0⟩ := Cal.ret S4 ck (o := HO.lst ([V.int 0] ++ ((os.length : Int) :: os.flatten).map V.int)) hx
              refine retEq k c hp0 (out := 0 :: N.told) ?_ (by rw [er, if_pos ok, eN])
              rw [upd_same, told_is ho]
              rfl
          have hwy : ∀ y, wantedR why at_ = y → (ls.length : Int) = y := fun y e => h2.trans e
          refine ⟨_, rfl, _, _, rfl, rfl, _, rfl, ?_⟩
          refine ite2 (fun h => ?_) (fun h => ?_)
          · have y0 : why = 0 := by simpa using h
            obtain ⟨dh0, hh0⟩ := R0.held
            rw [e1] at hh0
            refine ⟨_, rfl, _, dh0, _, rfl, hh0, rfl, _, rfl, nmOrd A q, W, M.open, n, by rw [e1, e4]; rfl, R0, hn, (by show M.row.length < _; have := G.row; omega), fun H2 R2 k2 => ?_⟩
            exact ⟨by show 1 ≤ sizeLine; decide, fun t1 ht1 => ⟨_, rfl, fin _ _ _ _ (by rw [MS.ranGo, if_pos y0]) (Step.of R2 (WLe.refl W) k2 fun _ => live_ready) t1 ht1⟩⟩
          have y0 : ¬ why = 0 := by simpa using h
          refine ⟨_, rfl, _, _, rfl, rfl, _, rfl, ?_⟩
          refine ite2 (fun h => ?_) (fun h => ?_)
          · have y1 : why = 1 := by simpa using h
            obtain ⟨p0, a0, w0, l0⟩ := at0 (by have := hwy 1 (by rw [wantedR, if_neg y0, if_pos (.inl y1)]); omega)
            refine ⟨_, rfl, _, rfl, _, rfl, _, rfl, p, _, _, _, rfl, rfl, SqL.of hp0, a0, nmOrd A q, W, M.open, n, 7, p0, _, by rw [e1, e3, e4]; rfl, PR, w0, l0, fun H2 A2 W2 S2 => ?_⟩
            exact ⟨by show 1 ≤ sizeLine; decide, fun t1 ht1 => ⟨_, rfl, fin _ _ _ _ (by rw [MS.ranGo, if_neg y0, if_pos y1]) S2 t1 ht1⟩⟩
          have y1 : ¬ why = 1 := by simpa using h
          refine ⟨_, rfl, _, _, rfl, rfl, _, rfl, ?_⟩
          refine ite2 (fun h => ?_) (fun h => ?_)
          · have y2 : why = 2 := by simpa using h
            obtain ⟨p0, a0, w0, l0⟩ := at0 (by have := hwy 1 (by rw [wantedR, if_neg y0, if_pos (.inr y2)]); omega)
            refine ⟨_, rfl, _, rfl, _, rfl, _, rfl, p, _, _, _, rfl, rfl, SqL.of hp0, a0, nmOrd A q, W, M.open, n, 8, p0, _, by rw [e1, e3, e4]; rfl, PR, w0, l0, fun H2 A2 W2 S2 => ?_⟩
            exact ⟨by show 1 ≤ sizeLine; decide, fun t1 ht1 => ⟨_, rfl, fin _ _ _ _ (by rw [MS.ranGo, if_neg y0, if_neg y1, if_pos y2]) S2 t1 ht1⟩⟩
          have y2 : ¬ why = 2 := by simpa using h
          have y3 : why = 3 := by
            by_cases y : why = 3
            · exact y
            · have := hwy (-1) (by rw [wantedR, if_neg y0, if_neg (by omega), if_neg y])
              omega
          have hw : (ls.length : Int) = wantedN at_ := hwy _ (by rw [wantedR, if_neg y0, if_neg (by omega), if_pos y3])
          refine ⟨_, rfl, _, rfl, _, rfl, _, rfl, _, rfl, _, rfl, nmOrd A q, W, M.open, n, at_, p, ps, ls, by rw [e1, e2, e3, e4]; rfl, PR, hp0, tk, ck, hw, vlen, fun H2 A2 W2 S2 => ?_⟩
          exact ⟨by show 1 ≤ sizeLine; decide, fun t1 ht1 => ⟨_, rfl, fin _ _ _ _ (by rw [MS.ranGo, if_neg y0, if_neg y1, if_neg y2]) S2 t1 ht1⟩⟩
end
end TT
end
section
set_option Elab.async false
set_option linter.all false
set_option maxRecDepth 100000
set_option maxHeartbeats 2000000
open PySem PySem.Spec PyProof.Rows L2
namespace TT
def MS.spawnedM (M : MS) (z u : Int) : MS × List Int := match M.taskNo z with
  | none => (M, [-8])
  | some n => if ¬ M.st n = 2 then (M, [-8]) else if u = -1 then (M.ready n, [0]) else if M.refuse u = 0 then ((M.ready n).add u.toNat, [0]) else (M, [M.refuse u])
def MS.stateO (M : MS) (z : Int) : List Int := match M.taskNo z with
  | none => [-8]
  | some n => [M.st n, M.tg n]
def MS.chanO (M : MS) (z : Int) : List Int := if z < 0 then [-8] else match M.ch[z.toNat]? with
  | none => [-4]
  | some c => [(c.kept.length : Int), c.room, (c.snd.length : Int), (c.rcv.length : Int)]
def MS.stuckRow (M : MS) (n : Nat) : List Int := [(n : Int), M.st n, M.tg n, if ringM M n M.ks.length n = true then 1 else 0]
def MS.stuckO (M : MS) (l : List Nat) : List Int := (l.length : Int) :: l.flatMap M.stuckRow
def sp_answer_spawned (a : Ad) : Sp := fun vs H Q _ => ∃ (A : Nm) (W : Wd) (M : MS) (z u : Int), vs = [.ref (A .held), .int z, .int u] ∧ Pre0 a H A W M ∧ Ret a H A W M (M.spawnedM z u).1 (M.spawnedM z u).2 Q
def sp_answer_state (a : Ad) : Sp := fun vs H Q _ => ∃ (A : Nm) (W : Wd) (M : MS) (z : Int), vs = [.ref (A .held), .int z] ∧ Pre0 a H A W M ∧ Ret a H A W M M (M.stateO z) Q
def sp_answer_channel (a : Ad) : Sp := fun vs H Q _ => ∃ (A : Nm) (W : Wd) (M : MS) (z : Int), vs = [.ref (A .held), .int z] ∧ Pre0 a H A W M ∧ Ret a H A W M M (M.chanO z) Q
def sp_answer_stuck (a : Ad) : Sp := fun vs H Q _ => ∃ (A : Nm) (W : Wd) (M : MS), vs = [.ref (A .held)] ∧ Pre0 a H A W M ∧ JoinOk M ∧ ∀ l, Stuck M l → Ret a H A W M M (M.stuckO l) Q
theorem rows_len (M : MS) : ∀ l : List Nat, (l.flatMap M.stuckRow).length = 4 * l.length
  | [] => rfl
  | n :: l => by
    rw [List.flatMap_cons, List.length_append, rows_len M l, List.length_cons]
    show 4 + _ = _
    omega
theorem Closed.ready {M : MS} {n : Nat} (h : Closed M) (hn : n ∈ M.ks) : Closed (M.ready n) :=
  ⟨fun m hm => (List.mem_append.mp (show m ∈ M.row ++ [n] from hm)).elim (h.row m) (fun q => by rw [List.mem_singleton.mp q]; exact hn), h.wt, h.snd, h.rcv⟩
theorem taskNo_mem {M : MS} {z : Int} {n : Nat} (h : M.taskNo z = some n) : n ∈ M.ks ∧ z = (n : Int) := by
  unfold MS.taskNo at h
  split at h
  · rename_i q
    have e := Option.some.inj h
    rw [← e]
    exact ⟨q.2, by omega⟩
  · cases h
section
variable {P : Program} {w : World} {K : PySem.W.Frag} {mg : Str → Option Value} {base : Heap} {a : Ad}
theorem ok_answer_spawned (T : Tx K mg a) : FnOk P w K mg base CX0 5 a.f_answer_spawned a.d_answer_spawned ["held", "number", "new"] (sp_answer_spawned a) := by
  refine T.F_answer_spawned.ok sc_answer_spawned (fun vs H Q E h => ?_) (fun cdv A' outer s H vs Q E hr h => ?_)
  · obtain ⟨A, W, M, z, u, rfl, _⟩ := h
    rfl
  · obtain ⟨A, W, M, z, u, rfl, ⟨R, G, no, ck⟩, k⟩ := h
    obtain ⟨dh, hh⟩ := R.held
    have g1 := G.ks
    have g2 := G.row
    refine ⟨_, (pss_cons (ps_set (i := 3) sc_answer_spawned.nd rfl (Or.inl rfl) (pe_dget1 (hu_of hr) (pe_fld (pv 0) rfl) (pv 1) ⟨rfl, rfl, rfl, rfl⟩))
      (pss_cons (ps_if (PW.pt (pw_or (pt_cmp (pc_isN (pv 3))) (pw_or1 (pt_cmp (pc_neI (pe_fld (pv 3) rfl) (pe_glob (v := .int (2)) rfl T.c_SPAWNING ⟨_, rfl⟩)))))) (pss_one (ps_ret (pe_lst (pa_cons (pe_glob (v := .int (-8)) rfl T.c_NOT_AS_TOLD ⟨_, rfl⟩) pa_nil)))) pss_nil)
      (pss_cons (ps_if (pt_cmp (pc_eqI (pv 2) (pe_glob (v := .int (-1)) rfl T.c_NO_THREAD ⟨_, rfl⟩))) (pss_cons (ps_expr (pe_meth (pv 0) T.l_Held T.M_Held_make_ready (ok_Held_make_ready T) (hr.mono (by decide)) (b_Held_make_ready T) .nil pass0 (pa_cons (pv 3) pa_nil)))
      (pss_one (ps_ret (pe_lst (pa_cons (pe_glob (v := .int (0)) rfl T.c_DONE ⟨_, rfl⟩) pa_nil))))) pss_nil)
      (pss_cons (ps_set (i := 4) sc_answer_spawned.nd rfl (Or.inl rfl) (pe_call (ok_refusal_of_new T) (hr.mono (by decide)) rfl T.m_refusal_of_new T.F_refusal_of_new.kp (b_refusal_of_new T) .nil pass0 (pa_cons (pv 0) (pa_cons (pv 2) pa_nil))))
      (pss_cons (ps_if (pt_cmp (pc_neI (pv 4) (pe_glob (v := .int (0)) rfl T.c_DONE ⟨_, rfl⟩))) (pss_one (ps_ret (pe_lst (pa_cons (pv 4) pa_nil)))) pss_nil)
      (pss_cons (ps_expr (pe_meth (pv 0) T.l_Held T.M_Held_make_ready (ok_Held_make_ready T) (hr.mono (by decide)) (b_Held_make_ready T) .nil pass0 (pa_cons (pv 3) pa_nil)))
      (pss_cons (ps_expr (pe_meth (pv 0) T.l_Held T.M_Held_add_task (ok_Held_add_task T) (hr.mono (by decide)) (b_Held_add_task T) .nil pass0 (pa_cons (pv 2) pa_nil)))
      (pss_one (ps_ret (pe_lst (pa_cons (pe_glob (v := .int (0)) rfl T.c_DONE ⟨_, rfl⟩) pa_nil))))))))))), ?_⟩
    refine ⟨_, rfl, _, _, dh, _, _, rfl, hh, T.l_Held, T.a_Held_tasks, hl_tasks, _, rfl, .inl ⟨_, .inl R.tasks⟩, _, rfl, _, DGet.k (k := Sum.inl z) R.tasks, ?_⟩
    rw [val_task]
    cases en : M.taskNo z with
    | none =>
      refine ⟨_, rfl, _, rfl, ?_⟩
      refine iteT (iteT ?_)
      exact ⟨by show 1 ≤ sizeLine; decide, fun x hx => retEq k (Cal.same R (same_new hx)) hx (out := [-8]) upd_same (by rw [MS.spawnedM, en])⟩
    | some n =>
      obtain ⟨hn, _⟩ := taskNo_mem en
      obtain ⟨dt, pt, ht, wt⟩ := R.task hn
      have er : M.spawnedM z u = if ¬ M.st n = 2 then (M, [-8]) else if u = -1 then (M.ready n, [0]) else if M.refuse u = 0 then ((M.ready n).add u.toNat, [0]) else (M, [M.refuse u]) := by rw [MS.spawnedM, en]
      refine ⟨_, rfl, _, rfl, ?_⟩
      refine iteF ?_
      refine ⟨_, rfl, _, _, dt, _, _, rfl, ht, T.l_Task, T.a_Task_state, tl_state, _, _, rfl, rfl, _, rfl, ?_⟩
      refine ite2 (fun h => ?_) (fun h => ?_)
      · have h1 : ¬ M.st n = 2 := by simpa using h
        exact ⟨by show 1 ≤ sizeLine; decide, fun x hx => retEq k (Cal.same R (same_new hx)) hx (out := [-8]) upd_same (by rw [er, if_pos h1])⟩
      have h1 : ¬ ¬ M.st n = 2 := by simpa using h
      rw [if_neg h1] at er
      refine ⟨_, rfl, _, _, rfl, rfl, _, rfl, ?_⟩
      refine ite2 (fun h => ?_) (fun h => ?_)
      · have h2 : u = -1 := by simpa using h
        rw [if_pos h2] at er
        refine ⟨_, rfl, _, dh, _, rfl, hh, rfl, _, rfl, A, W, M, n, rfl, R, hn, by omega, fun H2 R2 k2 => ?_⟩
        have S2 : Step a H A W M H2 A W (M.ready n) := Step.of R2 (WLe.refl W) k2 fun _ => live_ready
        exact ⟨by show 1 ≤ sizeLine; decide, fun p hp => retEq k (Cal.more (Cal.step S2 ck) (same_new hp)) (S2.back hp) (out := [0]) upd_same er⟩
      have h2 : ¬ u = -1 := by simpa using h
      rw [if_neg h2] at er
      refine ⟨_, rfl, _, rfl, A, W, M, u, rfl, R, ?_⟩
      refine ⟨_, rfl, _, _, rfl, rfl, _, rfl, ?_⟩
      refine ite2 (fun h => ?_) (fun h => ?_)
      · have h3 : ¬ M.refuse u = 0 := by simpa using h
        exact ⟨_, rfl, by show 1 ≤ sizeLine; decide, fun p hp => retEq k (Cal.same R (same_new hp)) hp (out := [M.refuse u]) upd_same (by rw [er, if_neg h3])⟩
      · have h3 : M.refuse u = 0 := by simpa using h
        rw [if_pos h3] at er
        obtain ⟨z0, z1, hk, hl⟩ := refuse_no h3
        refine ⟨_, rfl, _, dh, _, rfl, hh, rfl, _, rfl, A, W, M, n, rfl, R, hn, by omega, fun H2 R2 k2 => ?_⟩
        have S2 : Step a H A W M H2 A W (M.ready n) := Step.of R2 (WLe.refl W) k2 fun _ => live_ready
        obtain ⟨dh2, hh2⟩ := R2.held
        refine ⟨_, rfl, _, dh2, _, rfl, hh2, rfl, _, rfl, A, W, M.ready n, u.toNat, ?_, R2, G.cl.ready hn, hk, (by show M.ks.length < _; omega), ?_, fun H3 A3 W3 R3 wl ax kp fr => ?_⟩
        · rw [Int.toNat_of_nonneg z0]; rfl
        · show (M.row ++ [n]).length < _
          rw [List.length_append]
          show _ + 1 < _
          omega
        have S3 := S2.trans (Step.add R3 wl ax kp fr) R
        exact ⟨by show 1 ≤ sizeLine; decide, fun p hp => retEq k (Cal.more (Cal.step S3 ck) (same_new hp)) (S3.back hp) (out := [0]) upd_same er⟩
theorem ok_answer_state (T : Tx K mg a) : FnOk P w K mg base CX0 1 a.f_answer_state a.d_answer_state ["held", "number"] (sp_answer_state a) := by
  refine T.F_answer_state.ok sc_answer_state (fun vs H Q E h => ?_) (fun cdv A' outer s H vs Q E hr h => ?_)
  · obtain ⟨A, W, M, z, rfl, _⟩ := h
    rfl
  · obtain ⟨A, W, M, z, rfl, ⟨R, G, no, ck⟩, k⟩ := h
    obtain ⟨dh, hh⟩ := R.held
    have fin : ∀ out : List Int, out = M.stateO z → ∀ p, H p = none → Q (.ref p) (upd H p (.lst (out.map V.int))) := fun out e p hp => by
      subst e
      exact k _ _ _ p (Cal.same R (same_new hp)) hp upd_same
    refine ⟨_, (pss_cons (ps_set (i := 2) sc_answer_state.nd rfl (Or.inl rfl) (pe_dget1 (hu_of hr) (pe_fld (pv 0) rfl) (pv 1) ⟨rfl, rfl, rfl, rfl⟩))
      (pss_cons (ps_if (pt_cmp (pc_isN (pv 2))) (pss_one (ps_ret (pe_lst (pa_cons (pe_glob (v := .int (-8)) rfl T.c_NOT_AS_TOLD ⟨_, rfl⟩) pa_nil)))) pss_nil)
      (pss_one (ps_ret (pe_lst (pa_cons (pe_fld (pv 2) rfl) (pa_cons (pe_fld (pv 2) rfl) pa_nil))))))), ?_⟩
    refine ⟨_, rfl, _, _, dh, _, _, rfl, hh, T.l_Held, T.a_Held_tasks, hl_tasks, _, rfl, .inl ⟨_, .inl R.tasks⟩, _, rfl, _, DGet.k (k := Sum.inl z) R.tasks, ?_⟩
    rw [val_task]
    cases en : M.taskNo z with
    | none =>
      refine ⟨_, rfl, _, rfl, ?_⟩
      refine iteT ?_
      exact ⟨by show 1 ≤ sizeLine; decide, fin [-8] (by rw [MS.stateO, en])⟩
    | some n =>
      obtain ⟨hn, _⟩ := taskNo_mem en
      obtain ⟨dt, pt, ht, wt⟩ := R.task hn
      refine ⟨_, rfl, _, rfl, ?_⟩
      refine iteF ?_
      exact ⟨_, rfl, _, _, dt, _, _, rfl, ht, T.l_Task, T.a_Task_state, tl_state, _, rfl, _, _, dt, _, _, rfl, ht, T.l_Task, T.a_Task_target, tl_target, by show 2 ≤ sizeLine; decide, fin [M.st n, M.tg n] (by rw [MS.stateO, en])⟩
theorem ok_answer_channel (T : Tx K mg a) : FnOk P w K mg base CX0 1 a.f_answer_channel a.d_answer_channel ["held", "number"] (sp_answer_channel a) := by
  refine T.F_answer_channel.ok sc_answer_channel (fun vs H Q E h => ?_) (fun cdv A' outer s H vs Q E hr h => ?_)
  · obtain ⟨A, W, M, z, rfl, _⟩ := h
    rfl
  · obtain ⟨A, W, M, z, rfl, ⟨R, G, no, ck⟩, k⟩ := h
    obtain ⟨dh, hh⟩ := R.held
    have fin : ∀ out : List Int, out = M.chanO z → ∀ p, H p = none → Q (.ref p) (upd H p (.lst (out.map V.int))) := fun out e p hp => by
      subst e
      exact k _ _ _ p (Cal.same R (same_new hp)) hp upd_same
    have ll : ((List.range M.ch.length).map fun i => V.ref (A (.chan i))).length = M.ch.length := by rw [List.length_map, List.length_range]
    refine ⟨_, (pss_cons (ps_if (pt_cmp (pc_lt (pv 1) pe_int)) (pss_one (ps_ret (pe_lst (pa_cons (pe_glob (v := .int (-8)) rfl T.c_NOT_AS_TOLD ⟨_, rfl⟩) pa_nil)))) pss_nil)
      (pss_cons (ps_if (pt_cmp (pc_ge (pv 1) (pe_callB (call_len_seq) (by rfl) T.n_len PySem.boot_len (pa_cons (pe_fld (pv 0) rfl) pa_nil)))) (pss_one (ps_ret (pe_lst (pa_cons (pe_glob (v := .int (-4)) rfl T.c_NO_CHANNEL ⟨_, rfl⟩) pa_nil)))) pss_nil)
      (pss_cons (ps_set (i := 2) sc_answer_channel.nd rfl (Or.inl rfl) (pe_ix ix_list (pe_fld (pv 0) rfl) (pv 1) (fun _ _ => rfl)))
      (pss_one (ps_ret (pe_lst (pa_cons (pe_callB (call_len_seq) (by rfl) T.n_len PySem.boot_len (pa_cons (pe_fld (pv 2) rfl) pa_nil)) (pa_cons (pe_fld (pv 2) rfl) (pa_cons (pe_callB (call_len_seq) (by rfl) T.n_len PySem.boot_len (pa_cons (pe_fld (pv 2) rfl) pa_nil)) (pa_cons (pe_callB (call_len_seq) (by rfl) T.n_len PySem.boot_len (pa_cons (pe_fld (pv 2) rfl) pa_nil)) pa_nil)))))))))), ?_⟩
    refine ⟨_, rfl, _, _, rfl, rfl, _, rfl, ?_⟩
    refine ite2 (fun h => ?_) (fun h => ?_)
    · have h1 : z < 0 := by simpa using h
      exact ⟨by show 1 ≤ sizeLine; decide, fin [-8] (by rw [MS.chanO, if_pos h1])⟩
    have h1 : ¬ z < 0 := by simpa using h
    refine ⟨_, rfl, _, rfl, _, _, dh, _, _, rfl, hh, T.l_Held, T.a_Held_channels, hl_chs, _, _, rfl, .inl (SqL.of R.chs), _, _, rfl, rfl, _, rfl, ?_⟩
    rw [ll]
    refine ite2 (fun h => ?_) (fun h => ?_)
    · have h2 : (M.ch.length : Int) ≤ z := by simpa using h
      exact ⟨by show 1 ≤ sizeLine; decide, fin [-4] (by rw [MS.chanO, if_neg h1, List.getElem?_eq_none (by omega)])⟩
    have h2 : ¬ (M.ch.length : Int) ≤ z := by simpa using h
    have hi : z.toNat < M.ch.length := by omega
    have hc : M.ch[z.toNat]? = some M.ch[z.toNat] := List.getElem?_eq_getElem hi
    obtain ⟨dc, hcc⟩ := R.chan hc
    obtain ⟨ps, hkp, tk⟩ := R.kept hc
    refine ⟨_, rfl, _, _, dh, _, _, rfl, hh, T.l_Held, T.a_Held_channels, hl_chs, _, rfl, _, _, _, V.ref (A (.chan z.toNat)), rfl, rfl, SqL.of R.chs, at_of (j := z.toNat) (by omega) (by rw [List.getElem?_map, List.getElem?_range hi]; rfl), ?_⟩
    refine ⟨_, rfl, _, _, dc, _, _, rfl, hcc, T.l_Channel, T.a_Channel_kept, cl_kept, _, _, rfl, .inl (SqL.of hkp), _, rfl, _, _, dc, _, _, rfl, hcc, T.l_Channel, T.a_Channel_room, cl_room, _, rfl, _, _, dc, _, _, rfl, hcc, T.l_Channel, T.a_Channel_senders, cl_snd, _, _, rfl, .inl (SqL.of (R.snd hc)),
      _, rfl, _, _, dc, _, _, rfl, hcc, T.l_Channel, T.a_Channel_receivers, cl_rcv, _, _, rfl, .inl (SqL.of (R.rcv hc)), by show 4 ≤ sizeLine; decide, ?_⟩
    refine fin [((ps.map V.ref).length : Nat), M.ch[z.toNat].room, ((rs A M.ch[z.toNat].snd).length : Nat), ((rs A M.ch[z.toNat].rcv).length : Nat)] ?_
    rw [MS.chanO, if_neg h1, hc, rs, rs, List.length_map, List.length_map, List.length_map, tk.length]
theorem ok_answer_stuck (T : Tx K mg a) : FnOk P w K mg base CX0 3 a.f_answer_stuck a.d_answer_stuck ["held"] (sp_answer_stuck a) := by
  refine T.F_answer_stuck.ok sc_answer_stuck (fun vs H Q E h => ?_) (fun cdv A' outer s H vs Q E hr h => ?_)
  · obtain ⟨A, W, M, rfl, _⟩ := h
    rfl
  · obtain ⟨A, W, M, rfl, ⟨R, G, no, ck⟩, hj, k⟩ := h
    obtain ⟨dh, hh⟩ := R.held
    have g1 := G.ks
    refine ⟨_, (pss_cons (ps_set (i := 1) sc_answer_stuck.nd rfl (Or.inl rfl) (pe_meth0 (pv 0) T.l_Held T.M_Held_stuck_tasks (ok_Held_stuck_tasks T) (hr.mono (by decide)) (b_Held_stuck_tasks T) .nil pass0))
      (pss_cons (ps_set (i := 2) sc_answer_stuck.nd rfl (Or.inl rfl) (pe_lst (pa_cons (pe_callB (call_len_seq) (by rfl) T.n_len PySem.boot_len (pa_cons (pv 1) pa_nil)) pa_nil)))
      (pss_cons (ps_for PassesOwn.never rfl (pi_list (pv 1)) (pg_name (i := 3) sc_answer_stuck.nd rfl (Or.inl rfl)) (pss_one (ps_expr (pe_bm PySem.F.plainAttrs_list PySem.F.slot_list_extend PySem.F.type_list_extend mt_extend (pv 2) (pa_cons (pe_lst (pa_cons (pe_fld (pv 3) rfl) (pa_cons (pe_fld (pv 3) rfl) (pa_cons (pe_fld (pv 3) rfl) (pa_cons (pe_ifExp (pt_truth (pe_call (ok_is_in_ring T) (hr.mono (by decide)) rfl T.m_is_in_ring T.F_is_in_ring.kp (b_is_in_ring T) .nil pass0 (pa_cons (pv 0) (pa_cons (pv 3) pa_nil))) (fun _ => rfl)) pe_int pe_int) pa_nil))))) pa_nil)))))
      (pss_one (ps_ret (pv 2)))))), ?_⟩
    refine ⟨_, rfl, _, dh, _, rfl, hh, rfl, A, W, M, rfl, R, by omega, fun H1 pl l s1 npl hst hpl => ?_⟩
    have hll : l.length ≤ M.ks.length := by
      rw [hst.perm.length_eq]
      exact List.length_filter_le _ _
    have hlk : ∀ n ∈ l, n ∈ M.ks := fun n hn => (List.mem_filter.mp (hst.perm.mem_iff.mp hn)).1
    refine ⟨_, rfl, pl, _, rfl, .inl (SqL.of hpl), by show 1 ≤ sizeLine; decide, fun t nt => ?_⟩
    have nt0 : H t = none := s1.free nt
    have plt : pl ≠ t := ne_of_none hpl nt
    have e0 : [V.int ((rs A l).length : Nat)] = ((l.length : Int) :: (l.take 0).flatMap M.stuckRow).map V.int := by
      rw [rs, List.length_map]
      rfl
    refine ⟨_, rfl, pl, rfl, ⟨_, SqL.of (by rw [upd_ne plt]; exact hpl)⟩, for_list (K := K) (a := pl) (xs := rs A l) (fun i σ H' => (∃ v3 : Option V, σ = [some (.ref (A .held)), some (.ref pl), some (.ref t), v3]) ∧ Same H H' ∧ H' pl = some (.lst (rs A l)) ∧ H' t = some (.lst (((l.length : Int) :: (l.take i).flatMap M.stuckRow).map V.int)))
      ⟨⟨none, rfl⟩, s1.trans (same_new nt), by rw [upd_ne plt]; exact hpl, by rw [upd_same, e0]⟩ (fun i σ H' _ ⟨_, _, h2, _⟩ => SqL.of h2) ?_ ?_⟩
    · rintro i y σ H' hi ⟨⟨v3, rfl⟩, s2, hp2, ht2⟩
      obtain ⟨n, hnl, rfl⟩ : ∃ n, l[i]? = some n ∧ y = V.ref (A (.task n)) := by
        unfold rs at hi
        rw [List.getElem?_map] at hi
        cases e : l[i]? with
        | none => rw [e] at hi; cases hi
        | some m => rw [e] at hi; exact ⟨m, rfl, (Option.some.inj hi).symm⟩
      have hn : n ∈ M.ks := hlk n (List.mem_of_getElem? hnl)
      have hil := lt_of_get hnl
      have R2 := R.same s2
      obtain ⟨dt, pt, htn, _⟩ := R2.task hn
      have step : ∀ z : Int, z = (if ringM M n M.ks.length n = true then 1 else 0) → ∀ x, H' x = none → (∃ v3 : Option V, [some (V.ref (A .held)), some (.ref pl), some (.ref t), some (.ref (A (.task n)))] = [some (V.ref (A .held)), some (.ref pl), some (.ref t), v3]) ∧
          Same H (upd (upd H' x (.lst [V.int n, V.int (M.st n), V.int (M.tg n), V.int z])) t (.lst (((l.length : Int) :: (l.take i).flatMap M.stuckRow).map V.int ++ [V.int n, V.int (M.st n), V.int (M.tg n), V.int z]))) ∧
          (upd (upd H' x (.lst [V.int n, V.int (M.st n), V.int (M.tg n), V.int z])) t (.lst (((l.length : Int) :: (l.take i).flatMap M.stuckRow).map V.int ++ [V.int n, V.int (M.st n), V.int (M.tg n), V.int z]))) pl = some (.lst (rs A l)) ∧
          (upd (upd H' x (.lst [V.int n, V.int (M.st n), V.int (M.tg n), V.int z])) t (.lst (((l.length : Int) :: (l.take i).flatMap M.stuckRow).map V.int ++ [V.int n, V.int (M.st n), V.int (M.tg n), V.int z]))) t = some (.lst (((l.length : Int) :: (l.take (i + 1)).flatMap M.stuckRow).map V.int)) := by
        rintro z ez x hx
        refine ⟨⟨_, rfl⟩, fun b o e => ?_, ?_, ?_⟩
        · rw [upd_ne (ne_of_none e nt0), upd_ne (ne_of_none (s2 b o e) hx)]
          exact s2 b o e
        · rw [upd_ne plt, upd_ne (ne_of_none hp2 hx)]
          exact hp2
        · rw [upd_same, take_snoc hnl, List.flatMap_append, List.flatMap_cons, List.flatMap_nil, List.append_nil, ← List.cons_append, List.map_append, ez]
          rfl
      have size : (((l.length : Int) :: (l.take i).flatMap M.stuckRow).map V.int).length + 4 ≤ sizeLine := by
        rw [List.length_map, List.length_cons, rows_len, List.length_take, sizeLine_eq]
        omega
      refine ⟨_, rfl, .inl ⟨rfl, _, SqL.of ht2⟩, _, rfl, _, _, dt, _, _, rfl, htn, T.l_Task, T.a_Task_number, tl_number, _, rfl, _, _, dt, _, _, rfl, htn, T.l_Task, T.a_Task_state, tl_state, _, rfl, _, _, dt, _, _, rfl, htn, T.l_Task, T.a_Task_target, tl_target, _, rfl, _, rfl, A, W, M, n, rfl, R2, hn, hj, by omega, _, rfl, ?_⟩
      refine ite2 (fun h => ?_) (fun h => ?_)
      · refine ⟨by show 4 ≤ sizeLine; decide, fun x hx => ⟨t, x, _, _, rfl, rfl, (by rw [upd_ne (ne_of_none ht2 hx)]; exact ht2), upd_same, size, ?_⟩⟩
        exact step 1 (by rw [if_pos h]) x hx
      · refine ⟨by show 4 ≤ sizeLine; decide, fun x hx => ⟨t, x, _, _, rfl, rfl, (by rw [upd_ne (ne_of_none ht2 hx)]; exact ht2), upd_same, size, ?_⟩⟩
        exact step 0 (by rw [if_neg h]) x hx
    · rintro σ H' ⟨⟨v3, rfl⟩, s2, hp2, ht2⟩
      rw [rs, List.length_map, List.take_length] at ht2
      exact ⟨_, rfl, k l hst _ _ _ t (Cal.same R s2) nt0 ht2⟩
end
end TT
end
section
set_option Elab.async false
set_option linter.all false
set_option maxRecDepth 100000
set_option maxHeartbeats 2000000
open PySem PySem.Spec PyProof.Rows L2
namespace TT
def readerF (p : Addr) (i : Nat) : List (Str × V) := [("numbers", .ref p), ("place", .int i)]
theorem rl_numbers {p : Addr} {i : Nat} : (readerF p i).lookup ("numbers" : Str) = some (.ref p) := by rfl
theorem rl_place {p : Addr} {i : Nat} : (readerF p i).lookup ("place" : Str) = some (.int i) := by rfl
structure Reads (a : Ad) (K : PySem.W.Frag) (H : Hp) (x p : Addr) (ns : List Int) (i : Nat) : Prop where
  obj : ∃ dx, H x = some (.ins a.C_Reader dx (readerF p i))
  seq : SqL K H p (ns.map V.int)
def Kept (x : Addr) (H H' : Hp) : Prop := ∀ b o, H b = some o → b ≠ x → H' b = some o
theorem sq_keep {K : PySem.W.Frag} {H H' : Hp} {x p : Addr} {xs : List V} {o : HO} (s : SqL K H p xs) (hx : H x = some o) (nl : ∀ ys, o ≠ .lst ys) (nf : ∀ ob u, o ≠ .frz ob u) (k : Kept x H H') : SqL K H' p xs := by
  rcases s with (h | ⟨ob, h⟩) | h
  · exact .inl (.inl (k _ _ h (fun e => by subst e; rw [hx] at h; exact nl _ (Option.some.inj h))))
  · exact .inl (.inr ⟨ob, k _ _ h (fun e => by subst e; rw [hx] at h; exact nf _ _ (Option.some.inj h))⟩)
  · exact .inr h
theorem Reads.move {a : Ad} {K : PySem.W.Frag} {H H' : Hp} {x p : Addr} {ns : List Int} {i j : Nat} (r : Reads a K H x p ns i) (k : Kept x H H') (ho : ∃ dx, H' x = some (.ins a.C_Reader dx (readerF p j))) : Reads a K H' x p ns j := by
  obtain ⟨dx, h⟩ := r.obj
  exact ⟨ho, sq_keep r.seq h (fun _ e => by cases e) (fun _ _ e => by cases e) k⟩
theorem Kept.refl {x : Addr} (H : Hp) : Kept x H H := fun _ _ e _ => e
theorem Kept.trans {x : Addr} {H H1 H2 : Hp} (a : Kept x H H1) (b : Kept x H1 H2) : Kept x H H2 := fun c o e n => b c o (a c o e n) n
theorem Kept.upd {x : Addr} {H : Hp} {o : HO} : Kept x H (upd H x o) := fun b u e n => by rw [upd_ne n]; exact e
theorem Kept.new {x p : Addr} {H : Hp} {o : HO} (h : H p = none) : Kept x H (L2.upd H p o) := fun b u e _ => same_new h b u e
theorem Kept.back {x : Addr} {H H' : Hp} (k : Kept x H H') {o' : HO} (hx : H' x = some o') {p : Addr} (h : H' p = none) : H p = none := by
  cases e : H p with
  | none => rfl
  | some o =>
    by_cases hb : p = x
    · rw [hb, hx] at h; cases h
    · rw [k p o e hb] at h; cases h
def sp_Reader_init (a : Ad) : Sp := fun vs H Q _ => ∃ (x dx p : Addr), vs = [.ref x, .ref p] ∧ H x = some (.ins a.C_Reader dx []) ∧
  ∀ (H' : Hp), H' x = some (.ins a.C_Reader dx (readerF p 0)) → Kept x H H' → Q .non H'
def sp_Reader_has_more (a : Ad) (K : PySem.W.Frag) : Sp := fun vs H Q _ => ∃ (x p : Addr) (ns : List Int) (i : Nat), vs = [.ref x] ∧ Reads a K H x p ns i ∧ Q (.bl (decide (i < ns.length))) H
def sp_Reader_take_number (a : Ad) (K : PySem.W.Frag) : Sp := fun vs H Q _ => ∃ (x p : Addr) (ns : List Int) (i : Nat) (z : Int) (t : List Int), vs = [.ref x] ∧ Reads a K H x p ns i ∧ ns.drop i = z :: t ∧
  ∀ H', Reads a K H' x p ns (i + 1) → Kept x H H' → Q (.int z) H'
def sp_Reader_take_list (a : Ad) (K : PySem.W.Frag) : Sp := fun vs H Q _ => ∃ (x p : Addr) (ns : List Int) (i : Nat) (l t : List Int), vs = [.ref x] ∧ Reads a K H x p ns i ∧ ns.drop i = PyFlat.putRow l ++ t ∧
  ∀ H' q, Reads a K H' x p ns (i + 1 + l.length) → Kept x H H' → H q = none → H' q = some (.lst (l.map V.int)) → Q (.ref q) H'
def sp_Reader_take_lists (a : Ad) (K : PySem.W.Frag) : Sp := fun vs H Q _ => ∃ (x p : Addr) (ns : List Int) (i : Nat) (ls : List (List Int)) (t : List Int), vs = [.ref x] ∧ Reads a K H x p ns i ∧ ns.drop i = (ls.length : Int) :: (PyFlat.putRows ls ++ t) ∧ ls.length < 100000 ∧
  ∀ H' q ps j, Reads a K H' x p ns j → ns.drop j = t → Kept x H H' → H q = none → H' q = some (.lst (ps.map V.ref)) → Paired (fun p l => H p = none ∧ H' p = some (.lst (l.map V.int))) ps ls → Q (.ref q) H'
theorem drop_next {ns t : List Int} {i : Nat} {z : Int} (h : ns.drop i = z :: t) : i < ns.length ∧ ns[i]? = some z ∧ ns.drop (i + 1) = t := by
  have hi : i < ns.length := by
    by_cases h' : i < ns.length
    · exact h'
    · rw [List.drop_eq_nil_of_le (by omega)] at h; cases h
  refine ⟨hi, ?_, ?_⟩
  · rw [List.drop_eq_getElem_cons hi] at h
    rw [List.getElem?_eq_getElem hi, (List.cons.inj h).1]
  · rw [List.drop_eq_getElem_cons hi] at h
    exact (List.cons.inj h).2
theorem drop_len {ns t x : List Int} {i : Nat} (h : ns.drop i = x ++ t) (hi : i ≤ ns.length) : i + x.length ≤ ns.length ∧ (ns.drop i).take x.length = x ∧ ns.drop (i + x.length) = t := by
  have e := congrArg List.length h
  rw [List.length_drop, List.length_append] at e
  refine ⟨by omega, ?_, ?_⟩
  · rw [h]; exact List.take_left
  · rw [← List.drop_drop, h]; exact List.drop_left
theorem take_snoc' {α : Type} : ∀ {l : List α} {i : Nat} {x : α}, l[i]? = some x → l.take (i + 1) = l.take i ++ [x]
  | [], i, x, h => by simp at h
  | a :: l, 0, x, h => by
    have e : a = x := Option.some.inj h
    subst e
    rfl
  | a :: l, i + 1, x, h => by
    have ih := take_snoc' (l := l) (i := i) (x := x) h
    show a :: l.take (i + 1) = a :: l.take i ++ [x]
    rw [ih]
    rfl
theorem paired_snoc {α β : Type} {F : α → β → Prop} {l : List α} {m : List β} {x : α} {y : β} (h : Paired F l m) (e : F x y) : Paired F (l ++ [x]) (m ++ [y]) := by
  induction h with
  | nil => exact .cons e .nil
  | cons h _ ih => exact .cons h ih
theorem cut_map (ns : List Int) {i j : Nat} (hi : i ≤ j) (hj : j ≤ ns.length) : cutV (ns.map V.int) (some (i : Int)) (some (j : Int)) = ((ns.drop i).take (j - i)).map V.int := by
  unfold cutV
  rw [HT.sIx_nat, HT.sIx_nat, List.length_map, Nat.min_eq_left hj, Nat.min_eq_left (Nat.le_trans hi hj), List.map_take, List.map_drop]
section
variable {P : Program} {w : World} {K : PySem.W.Frag} {mg : Str → Option Value} {base : Heap} {a : Ad}
theorem ok_Reader_init (T : Tx K mg a) : FnOk P w K mg base CX0 1 a.f_Reader_init a.d_Reader_init ["self", "numbers"] (sp_Reader_init a) := by
  refine T.F_Reader_init.ok sc_Reader_init (fun vs H Q E h => ?_) (fun cdv A' outer s H vs Q E hr h => ?_)
  · obtain ⟨x, dx, p, rfl, _⟩ := h
    rfl
  · obtain ⟨x, dx, p, rfl, hx, k⟩ := h
    refine ⟨_, (pss_cons (ps_fld (pv 0) (pv 1) rfl)
      (pss_one (ps_fld (pv 0) pe_int rfl))), ?_⟩
    refine ⟨_, rfl, _, rfl, _, _, dx, _, rfl, hx, T.l_Reader, T.a_Reader_numbers, (by show 0 < 1000; decide), ?_⟩
    refine ⟨_, rfl, _, _, dx, _, rfl, upd_same, T.l_Reader, T.a_Reader_place, (by show 1 < 1000; decide), ?_⟩
    show Q .non _
    rw [upd_upd]
    exact k _ upd_same Kept.upd
theorem ok_Reader_has_more (T : Tx K mg a) : FnOk P w K mg base CX0 1 a.f_Reader_has_more a.d_Reader_has_more ["self"] (sp_Reader_has_more a K) := by
  refine T.F_Reader_has_more.ok sc_Reader_has_more (fun vs H Q E h => ?_) (fun cdv A' outer s H vs Q E hr h => ?_)
  · obtain ⟨x, p, ns, i, rfl, _⟩ := h
    rfl
  · obtain ⟨x, p, ns, i, rfl, ⟨⟨dx, hx⟩, hs⟩, k⟩ := h
    refine ⟨_, (pss_one (ps_ret (pe_cmp (pc_lt (pe_fld (pv 0) rfl) (pe_callB (call_len_seq) (by rfl) T.n_len PySem.boot_len (pa_cons (pe_fld (pv 0) rfl) pa_nil)))))), ?_⟩
    refine ⟨_, rfl, _, _, dx, _, _, rfl, hx, T.l_Reader, T.a_Reader_place, rl_place, _, rfl, _, _, dx, _, _, rfl, hx, T.l_Reader, T.a_Reader_numbers, rl_numbers, _, _, rfl, .inl hs, _, _, rfl, rfl, ?_⟩
    have e : decide ((i : Int) < ((ns.map V.int).length : Nat)) = decide (i < ns.length) := by
      rw [List.length_map]
      exact decide_eq_decide.mpr (by omega)
    show Q (.bl (decide ((i : Int) < ((ns.map V.int).length : Nat)))) H
    rw [e]
    exact k
theorem ok_Reader_take_number (T : Tx K mg a) : FnOk P w K mg base CX0 1 a.f_Reader_take_number a.d_Reader_take_number ["self"] (sp_Reader_take_number a K) := by
  refine T.F_Reader_take_number.ok sc_Reader_take_number (fun vs H Q E h => ?_) (fun cdv A' outer s H vs Q E hr h => ?_)
  · obtain ⟨x, p, ns, i, z, t, rfl, _⟩ := h
    rfl
  · obtain ⟨x, p, ns, i, z, t, rfl, Rd, hd, k⟩ := h
    obtain ⟨⟨dx, hx⟩, hs⟩ := id Rd
    obtain ⟨h1, h2, h3⟩ := drop_next hd
    refine ⟨_, (pss_cons (ps_set (i := 1) sc_Reader_take_number.nd rfl (Or.inl rfl) (pe_ix ix_list (pe_fld (pv 0) rfl) (pe_fld (pv 0) rfl) (fun _ _ => rfl)))
      (pss_cons (ps_fld (pv 0) (pe_op op_add (pe_fld (pv 0) rfl) pe_int) rfl)
      (pss_one (ps_ret (pv 1))))), ?_⟩
    refine ⟨_, rfl, _, _, dx, _, _, rfl, hx, T.l_Reader, T.a_Reader_numbers, rl_numbers, _, rfl, _, _, dx, _, _, rfl, hx, T.l_Reader, T.a_Reader_place, rl_place, _, _, _, _, rfl, rfl, hs, atI_nat (j := i) (v := V.int z) (by rw [List.getElem?_map, h2]; rfl), ?_⟩
    refine ⟨_, rfl, _, _, dx, _, _, rfl, hx, T.l_Reader, T.a_Reader_place, rl_place, _, _, rfl, rfl, _, rfl, _, _, dx, _, rfl, hx, T.l_Reader, T.a_Reader_place, (by show 2 < 1000; decide), ?_⟩
    refine ⟨_, rfl, ?_⟩
    exact k _ (Rd.move Kept.upd ⟨dx, upd_same⟩) Kept.upd
theorem ok_Reader_take_list (T : Tx K mg a) : FnOk P w K mg base CX0 2 a.f_Reader_take_list a.d_Reader_take_list ["self"] (sp_Reader_take_list a K) := by
  refine T.F_Reader_take_list.ok sc_Reader_take_list (fun vs H Q E h => ?_) (fun cdv A' outer s H vs Q E hr h => ?_)
  · obtain ⟨x, p, ns, i, l, t, rfl, _⟩ := h
    rfl
  · obtain ⟨x, p, ns, i, l, t, rfl, Rd, hd, k⟩ := h
    obtain ⟨⟨dx, hx⟩, hs⟩ := id Rd
    obtain ⟨h1, h2, h3⟩ := drop_next (show ns.drop i = (l.length : Int) :: (l ++ t) from hd)
    obtain ⟨h4, h5, h6⟩ := drop_len h3 (by omega)
    refine ⟨_, (pss_cons (ps_set (i := 1) sc_Reader_take_list.nd rfl (Or.inl rfl) (pe_meth0 (pv 0) T.l_Reader T.M_Reader_take_number (ok_Reader_take_number T) (hr.mono (by decide)) (b_Reader_take_number T) .nil pass0))
      (pss_cons (ps_set (i := 2) sc_Reader_take_list.nd rfl (Or.inl rfl) (pe_fld (pv 0) rfl))
      (pss_cons (ps_fld (pv 0) (pe_op op_add (pv 2) (pv 1)) rfl)
      (pss_one (ps_ret (pe_slice sl_list (pe_fld (pv 0) rfl) (po_some (pv 2)) (po_some (pe_fld (pv 0) rfl)))))))), ?_⟩
    refine ⟨_, rfl, _, dx, _, rfl, hx, rfl, x, p, ns, i, (l.length : Int), l ++ t, rfl, Rd, hd, fun H1 Rd1 kp1 => ?_⟩
    obtain ⟨⟨dx1, hx1⟩, hs1⟩ := id Rd1
    refine ⟨_, rfl, _, _, dx1, _, _, rfl, hx1, T.l_Reader, T.a_Reader_place, rl_place, ?_⟩
    refine ⟨_, rfl, _, rfl, _, _, rfl, rfl, _, rfl, _, _, dx1, _, rfl, hx1, T.l_Reader, T.a_Reader_place, (by show 2 < 1000; decide), ?_⟩
    have eF : putF "place" (V.int (((i + 1 : Nat) : Int) + (l.length : Int))) (readerF p (i + 1)) = readerF p (i + 1 + l.length) := by
      rw [show ((i + 1 : Nat) : Int) + (l.length : Int) = ((i + 1 + l.length : Nat) : Int) by omega]
      rfl
    rw [eF]
    have Rd2 : Reads a K _ x p ns (i + 1 + l.length) := Rd1.move (Kept.upd (o := HO.ins a.C_Reader dx1 (readerF p (i + 1 + l.length)))) ⟨dx1, upd_same⟩
    refine ⟨_, rfl, _, _, dx1, _, _, rfl, upd_same, T.l_Reader, T.a_Reader_numbers, rl_numbers, _, rfl, _, rfl, _, rfl, _, _, dx1, _, _, rfl, upd_same, T.l_Reader, T.a_Reader_place, rl_place, _, rfl, _, _, rfl, Rd2.seq, fun q hq => ?_⟩
    rw [cut_map ns (by omega) h4, show i + 1 + l.length - (i + 1) = l.length by omega, h5]
    have kp2 : Kept x H (upd H1 x (HO.ins a.C_Reader dx1 (readerF p (i + 1 + l.length)))) := kp1.trans Kept.upd
    refine k _ q (Rd2.move (Kept.new hq) ⟨dx1, same_new hq _ _ upd_same⟩) (kp2.trans (Kept.new hq)) (kp2.back upd_same hq) upd_same
theorem ok_Reader_take_lists (T : Tx K mg a) : FnOk P w K mg base CX0 3 a.f_Reader_take_lists a.d_Reader_take_lists ["self"] (sp_Reader_take_lists a K) := by
  refine T.F_Reader_take_lists.ok sc_Reader_take_lists (fun vs H Q E h => ?_) (fun cdv A' outer s H vs Q E hr h => ?_)
  · obtain ⟨x, p, ns, i, ls, t, rfl, _⟩ := h
    rfl
  · obtain ⟨x, p, ns, i, ls, t, rfl, Rd, hd, hll, k⟩ := h
    obtain ⟨h1, h2, h3⟩ := drop_next hd
    refine ⟨_, (pss_cons (ps_set (i := 1) sc_Reader_take_lists.nd rfl (Or.inl rfl) (pe_lst pa_nil))
      (pss_cons (ps_for PassesOwn.never rfl (pi_range1 rfl T.n_range (pa_cons (pe_meth0 (pv 0) T.l_Reader T.M_Reader_take_number (ok_Reader_take_number T) (hr.mono (by decide)) (b_Reader_take_number T) .nil pass0) pa_nil)) (pg_name (i := 2) sc_Reader_take_lists.nd rfl (Or.inl rfl)) (pss_one (ps_expr (pe_bm PySem.F.plainAttrs_list PySem.F.slot_list_append PySem.F.type_list_append mt_append (pv 1) (pa_cons (pe_meth0 (pv 0) T.l_Reader T.M_Reader_take_list (ok_Reader_take_list T) (hr.mono (by decide)) (b_Reader_take_list T) .nil pass0) pa_nil)))))
      (pss_one (ps_ret (pv 1))))), ?_⟩
    refine ⟨Nat.zero_le _, fun q hq => ?_⟩
    have s0 : Same H (upd H q (.lst [])) := same_new hq
    have Rd0 : Reads a K (upd H q (.lst [])) x p ns i := Rd.move (Kept.new hq) (let ⟨dx, hx⟩ := Rd.obj; ⟨dx, s0 _ _ hx⟩)
    obtain ⟨dx0, hx0⟩ := Rd0.obj
    have qx : q ≠ x := fun e => by
      obtain ⟨dx, hx⟩ := Rd.obj
      rw [e, hx] at hq; cases hq
    refine ⟨_, rfl, _, dx0, _, rfl, hx0, rfl, x, p, ns, i, (ls.length : Int), _, rfl, Rd0, hd, fun H1 Rd1 kp1 => ?_⟩
    have hq1 : H1 q = some (.lst []) := kp1 _ _ upd_same qx
    have kk1 : Kept x H H1 := Kept.trans (Kept.new hq) kp1
    refine ⟨_, rfl, by omega, by omega, ?_⟩
    rw [Int.toNat_natCast]
    refine for_range (n := ls.length) (fun m σ H' => (∃ v : Option V, σ = [some (.ref x), some (.ref q), v]) ∧ ∃ (ps : List Addr) (j : Nat), Reads a K H' x p ns j ∧ ns.drop j = PyFlat.putRows (ls.drop m) ++ t ∧ Kept x H H' ∧ H' q = some (.lst (ps.map V.ref)) ∧ Paired (fun p l => H p = none ∧ p ≠ q ∧ p ≠ x ∧ H' p = some (.lst (l.map V.int))) ps (ls.take m))
      ⟨⟨none, rfl⟩, [], i + 1, Rd1, h3, kk1, hq1, .nil⟩ ?_ ?_
    · rintro m σ H' hm ⟨⟨v, rfl⟩, ps, j, Rdj, hdj, kpj, hqj, pr⟩
      obtain ⟨dxj, hxj⟩ := Rdj.obj
      have hml : ls[m]? = some ls[m] := List.getElem?_eq_getElem hm
      have ed : ls.drop m = ls[m] :: ls.drop (m + 1) := List.drop_eq_getElem_cons hm
      rw [ed] at hdj
      have hdj' : ns.drop j = PyFlat.putRow ls[m] ++ (PyFlat.putRows (ls.drop (m + 1)) ++ t) := by rw [hdj]; exact List.append_assoc _ _ _
      refine ⟨_, rfl, .inl ⟨rfl, _, SqL.of hqj⟩, _, rfl, _, dxj, _, rfl, hxj, rfl, x, p, ns, j, ls[m], _, rfl, Rdj, hdj', fun H2 r Rd2 kp2 nr hr2 => ?_⟩
      have hq2 : H2 q = some (.lst (ps.map V.ref)) := kp2 _ _ hqj qx
      have rq : r ≠ q := fun e => by rw [e, hqj] at nr; cases nr
      have rx : r ≠ x := fun e => by rw [e, hxj] at nr; cases nr
      refine ⟨_, _, _, rfl, rfl, hq2, ?_, ?_⟩
      · rw [List.length_map, Paired.length pr, List.length_take, sizeLine_eq]
        omega
      obtain ⟨dx2, hx2⟩ := Rd2.obj
      obtain ⟨_, hk1, hk2⟩ := drop_next (show ns.drop j = (ls[m].length : Int) :: (ls[m] ++ (PyFlat.putRows (ls.drop (m + 1)) ++ t)) from hdj')
      obtain ⟨_, _, hk5⟩ := drop_len hk2 (by have := (drop_next (show ns.drop j = (ls[m].length : Int) :: (ls[m] ++ (PyFlat.putRows (ls.drop (m + 1)) ++ t)) from hdj')).1; omega)
      refine ⟨⟨_, rfl⟩, ps ++ [r], j + 1 + ls[m].length, ⟨⟨dx2, by rw [upd_ne qx.symm]; exact hx2⟩, ?_⟩, hk5, fun b o e hb => ?_, ?_, ?_⟩
      · rcases Rd2.seq with (h | ⟨ob, h⟩) | h
        · by_cases hpq : p = q
          · subst hpq
            obtain ⟨⟨_, _⟩, hs⟩ := Rd
            rcases hs with (h' | ⟨ob, h'⟩) | h'
            · rw [hq] at h'; cases h'
            · rw [hq] at h'; cases h'
            · exact .inr h'
          · exact .inl (.inl (by rw [upd_ne hpq]; exact h))
        · by_cases hpq : p = q
          · subst hpq
            rw [hq2] at h; cases h
          · exact .inl (.inr ⟨ob, by rw [upd_ne hpq]; exact h⟩)
        · exact .inr h
      · rw [upd_ne (ne_of_none e hq)]
        exact kp2 _ _ (kpj b o e hb) hb
      · rw [upd_same, List.map_append]
        rfl
      · rw [take_snoc' hml]
        have pr2 : Paired (fun p (l : List Int) => H p = none ∧ p ≠ q ∧ p ≠ x ∧ (upd H2 q (.lst (ps.map V.ref ++ [V.ref r]))) p = some (.lst (l.map V.int))) ps (ls.take m) := Paired.mapP pr fun p l ⟨z1, z2, z3, z4⟩ => ⟨z1, z2, z3, by rw [upd_ne z2]; exact kp2 _ _ z4 z3⟩
        exact paired_snoc pr2 ⟨kpj.back hxj nr, rq, rx, by rw [upd_ne rq]; exact hr2⟩
    · rintro σ H' ⟨⟨v, rfl⟩, ps, j, Rdj, hdj, kpj, hqj, pr⟩
      rw [List.drop_length] at hdj
      rw [List.take_length] at pr
      refine ⟨_, rfl, ?_⟩
      exact k H' q ps j Rdj hdj kpj hq hqj (Paired.mapP pr fun p l ⟨z1, _, _, z4⟩ => ⟨z1, z4⟩)
end
end TT
end
section
set_option linter.all false
set_option maxHeartbeats 1000000
namespace TS
open Rd25
def view {β : Type} (q : Does → Option β) (l : List (Nat × Does)) : List (Nat × β) := l.filterMap fun x => (q x.2).map fun b => (x.1, b)
def sendq (c : Nat) : Does → Option (List Int)
  | .sending d v => if d = c then some v else none
  | _ => none
def recvq (c : Nat) : Does → Option Unit
  | .receiving d => if d = c then some () else none
  | _ => none
def joinq (u : Nat) : Does → Option Unit
  | .joining d => if d = u then some () else none
  | _ => none
def sleepq : Does → Option Nat
  | .sleeping t => some t
  | _ => none
def keys (S : State) : List Nat := S.tasks.map (·.1)
theorem filterMap_ext {α β : Type} {f g : α → Option β} (h : ∀ x, f x = g x) (l : List α) : l.filterMap f = l.filterMap g := by
  have e : f = g := funext h
  rw [e]
theorem senders_view (S : State) (c : Nat) : senders S c = view (sendq c) S.tasks := by
  unfold senders view
  refine filterMap_ext (fun x => ?_) _
  obtain ⟨n, d⟩ := x
  cases d <;> simp only [sendq] <;> first | rfl | (split <;> rfl)
theorem receivers_view (S : State) (c : Nat) : receivers S c = (view (recvq c) S.tasks).map (·.1) := by
  unfold receivers view
  rw [List.map_filterMap]
  refine filterMap_ext (fun x => ?_) _
  obtain ⟨n, d⟩ := x
  cases d <;> simp only [recvq] <;> first | rfl | (split <;> rfl)
theorem joiners_view (S : State) (u : Nat) : joiners S u = (view (joinq u) S.tasks).map (·.1) := by
  unfold joiners view
  rw [List.map_filterMap]
  refine filterMap_ext (fun x => ?_) _
  obtain ⟨n, d⟩ := x
  cases d <;> simp only [joinq] <;> first | rfl | (split <;> rfl)
theorem sleepers_view (S : State) : sleepers S = (view sleepq S.tasks).map (fun x => (x.2, x.1)) := by
  unfold sleepers view
  rw [List.map_filterMap]
  refine filterMap_ext (fun x => ?_) _
  obtain ⟨n, d⟩ := x
  cases d <;> simp only [sleepq] <;> rfl
theorem mem_view {β : Type} {q : Does → Option β} {l : List (Nat × Does)} {n : Nat} {b : β} : (n, b) ∈ view q l ↔ ∃ d, (n, d) ∈ l ∧ q d = some b := by
  unfold view
  rw [List.mem_filterMap]
  constructor
  · rintro ⟨⟨m, d⟩, h1, h2⟩
    cases e : q d with
    | none => rw [show ((m, d) : Nat × Does).2 = d from rfl, e] at h2; cases h2
    | some b' =>
      rw [show ((m, d) : Nat × Does).2 = d from rfl, e] at h2
      have h3 := Option.some.inj h2
      have e1 : m = n := congrArg Prod.fst h3
      have e2 : b' = b := congrArg Prod.snd h3
      subst e1 e2
      exact ⟨d, h1, e⟩
  · rintro ⟨d, h1, h2⟩
    exact ⟨(n, d), h1, by rw [show ((n, d) : Nat × Does).2 = d from rfl, h2]; rfl⟩
theorem view_filter {β : Type} (q : Does → Option β) (t : Nat) : ∀ l : List (Nat × Does), view q (l.filter fun x => x.1 != t) = (view q l).filter fun x => x.1 != t
  | [] => rfl
  | (n, d) :: l => by
    have ih := view_filter q t l
    by_cases h : n = t
    · have e1 : ((n, d) :: l).filter (fun x => x.1 != t) = l.filter fun x => x.1 != t := by simp [h]
      rw [e1, ih]
      unfold view
      cases e : q d with
      | none => simp [e]
      | some b => simp [e, h]
    · have e1 : ((n, d) :: l).filter (fun x => x.1 != t) = (n, d) :: l.filter fun x => x.1 != t := by simp [h]
      rw [e1]
      unfold view at ih ⊢
      cases e : q d with
      | none => simp [e]; simpa using ih
      | some b => simp [e, h]; simpa using ih
theorem view_append {β : Type} (q : Does → Option β) (l m : List (Nat × Does)) : view q (l ++ m) = view q l ++ view q m := by unfold view; exact List.filterMap_append
theorem view_does {β : Type} (q : Does → Option β) (S : State) (t : Nat) (d : Does) : view q (does_ S t d).tasks = ((view q S.tasks).filter fun x => x.1 != t) ++ view q [(t, d)] := by
  show view q ((S.tasks.filter fun x => x.1 != t) ++ [(t, d)]) = _
  rw [view_append, view_filter]
theorem view_one_none {β : Type} {q : Does → Option β} {t : Nat} {d : Does} (h : q d = none) : view q [(t, d)] = [] := by
  unfold view
  rw [List.filterMap_cons, show ((t, d) : Nat × Does).2 = d from rfl, h]
  rfl
theorem view_one_some {β : Type} {q : Does → Option β} {t : Nat} {d : Does} {b : β} (h : q d = some b) : view q [(t, d)] = [(t, b)] := by
  unfold view
  rw [List.filterMap_cons, show ((t, d) : Nat × Does).2 = d from rfl, h]
  rfl
theorem filter_all {α : Type} {p : α → Bool} : ∀ {l : List α}, (∀ x ∈ l, p x = true) → l.filter p = l := fun {l} h => List.filter_eq_self.mpr h
theorem vd_none {β : Type} {q : Does → Option β} {S : State} {t : Nat} {d : Does} (h0 : ∀ d0, (t, d0) ∈ S.tasks → q d0 = none) (h1 : q d = none) : view q (does_ S t d).tasks = view q S.tasks := by
  rw [view_does, view_one_none h1, List.append_nil]
  refine filter_all fun x hx => ?_
  obtain ⟨n, b⟩ := x
  obtain ⟨d0, h2, h3⟩ := mem_view.mp hx
  rw [bne_iff_ne]
  intro e
  have e' : n = t := e
  subst e'
  rw [h0 d0 h2] at h3
  cases h3
theorem vd_add {β : Type} {q : Does → Option β} {S : State} {t : Nat} {d : Does} {b : β} (h0 : ∀ d0, (t, d0) ∈ S.tasks → q d0 = none) (h1 : q d = some b) : view q (does_ S t d).tasks = view q S.tasks ++ [(t, b)] := by
  rw [view_does, view_one_some h1]
  congr 1
  refine filter_all fun x hx => ?_
  obtain ⟨n, b'⟩ := x
  obtain ⟨d0, h2, h3⟩ := mem_view.mp hx
  rw [bne_iff_ne]
  intro e
  have e' : n = t := e
  subst e'
  rw [h0 d0 h2] at h3
  cases h3
theorem view_keys {β : Type} {q : Does → Option β} {l : List (Nat × Does)} (nd : (l.map (·.1)).Nodup) : ((view q l).map (·.1)).Nodup := by
  have sub : ∀ l : List (Nat × Does), ((view q l).map (·.1)).Sublist (l.map (·.1)) := by
    intro l
    induction l with
    | nil => exact List.Sublist.slnil
    | cons x l ih =>
      obtain ⟨n, d⟩ := x
      unfold view at ih ⊢
      rw [List.filterMap_cons]
      cases e : q d with
      | none => simp only [e, Option.map_none]; exact List.Sublist.cons _ ih
      | some b => simp only [e, Option.map_some, List.map_cons]; exact List.Sublist.cons₂ _ ih
  exact nd.sublist (sub l)
theorem vd_head {β : Type} {q : Does → Option β} {S : State} {t : Nat} {d : Does} {b : β} {l : List (Nat × β)} (nd : (keys S).Nodup) (h0 : view q S.tasks = (t, b) :: l) (h1 : q d = none) : view q (does_ S t d).tasks = l := by
  rw [view_does, view_one_none h1, List.append_nil, h0]
  have nd2 := view_keys (q := q) nd
  rw [h0, List.map_cons] at nd2
  have e1 : ((t, b) :: l).filter (fun x => x.1 != t) = l.filter fun x => x.1 != t := by simp
  rw [e1]
  refine filter_all fun x hx => ?_
  rw [bne_iff_ne]
  intro e
  exact (List.nodup_cons.mp nd2).1 (List.mem_map.mpr ⟨x, hx, e⟩)
theorem doing_mem {S : State} {t : Nat} {d : Does} (h : doing S t = some d) : (t, d) ∈ S.tasks := by
  unfold doing at h
  cases e : S.tasks.find? fun x => x.1 == t with
  | none => rw [e] at h; cases h
  | some x =>
    rw [e] at h
    obtain ⟨n, d'⟩ := x
    have h1 := List.find?_some e
    have h2 := List.mem_of_find?_eq_some e
    have e1 : n = t := by simpa using h1
    have e2 : d' = d := Option.some.inj h
    subst e1 e2
    exact h2
theorem doing_none {S : State} {t : Nat} : doing S t = none ↔ t ∉ keys S := by
  unfold doing keys
  rw [Option.map_eq_none_iff, List.find?_eq_none]
  constructor
  · intro h hm
    obtain ⟨x, hx, e⟩ := List.mem_map.mp hm
    exact h x hx (by simpa using e)
  · intro h x hx e
    exact h (List.mem_map.mpr ⟨x, hx, by simpa using e⟩)
theorem mem_unique {l : List (Nat × Does)} (nd : (l.map (·.1)).Nodup) {t : Nat} {d d' : Does} (h : (t, d) ∈ l) (h' : (t, d') ∈ l) : d = d' := by
  induction l with
  | nil => cases h
  | cons x l ih =>
    rw [List.map_cons, List.nodup_cons] at nd
    rcases List.mem_cons.mp h with e | e <;> rcases List.mem_cons.mp h' with e' | e'
    · exact congrArg Prod.snd (e.trans e'.symm)
    · exact absurd (List.mem_map.mpr ⟨(t, d'), e', rfl⟩) (by rw [← e] at nd; exact nd.1)
    · exact absurd (List.mem_map.mpr ⟨(t, d), e, rfl⟩) (by rw [← e'] at nd; exact nd.1)
    · exact ih nd.2 e e'
theorem mem_keys {S : State} {t : Nat} {d : Does} (h : (t, d) ∈ S.tasks) : t ∈ keys S := List.mem_map.mpr ⟨(t, d), h, rfl⟩
theorem mem_doing {S : State} {t : Nat} {d : Does} (nd : (keys S).Nodup) (h : (t, d) ∈ S.tasks) : doing S t = some d := by
  cases e : doing S t with
  | none => exact absurd (mem_keys h) (doing_none.mp e)
  | some d' => rw [mem_unique nd h (doing_mem e)]
theorem key_doing {S : State} {t : Nat} (h : t ∈ keys S) : ∃ d, doing S t = some d := by
  cases e : doing S t with
  | none => exact absurd h (doing_none.mp e)
  | some d => exact ⟨d, rfl⟩
theorem mem_does {S : State} {t n : Nat} {d d' : Does} : (n, d') ∈ (does_ S t d).tasks ↔ (n ≠ t ∧ (n, d') ∈ S.tasks) ∨ (n = t ∧ d' = d) := by
  show (n, d') ∈ (S.tasks.filter fun x => x.1 != t) ++ [(t, d)] ↔ _
  rw [List.mem_append, List.mem_filter, List.mem_singleton, Prod.mk.injEq]
  constructor
  · rintro (⟨h1, h2⟩ | h)
    · exact .inl ⟨by simpa using h2, h1⟩
    · exact .inr h
  · rintro (⟨h1, h2⟩ | h)
    · exact .inl ⟨h2, by simpa using h1⟩
    · exact .inr h
theorem keys_does (S : State) (t : Nat) (d : Does) : keys (does_ S t d) = ((keys S).filter fun x => x != t) ++ [t] := by
  unfold keys
  show ((S.tasks.filter fun x => x.1 != t) ++ [(t, d)]).map (·.1) = _
  rw [List.map_append]
  congr 1
  rw [List.filter_map]
  rfl
theorem nodup_does {S : State} (nd : (keys S).Nodup) (t : Nat) (d : Does) : (keys (does_ S t d)).Nodup := by
  rw [keys_does]
  rw [List.nodup_append]
  refine ⟨nd.filter _, by simp, fun a ha b hb e => ?_⟩
  rw [List.mem_singleton] at hb
  subst hb e
  have := (List.mem_filter.mp ha).2
  simp at this
theorem mem_keys_does {S : State} {t n : Nat} {d : Does} : n ∈ keys (does_ S t d) ↔ n ∈ keys S ∨ n = t := by
  rw [keys_does, List.mem_append, List.mem_filter, List.mem_singleton]
  constructor
  · rintro (h | h)
    · exact .inl h.1
    · exact .inr h
  · rintro (h | h)
    · by_cases e : n = t
      · exact .inr e
      · exact .inl ⟨h, by simpa using e⟩
    · exact .inr h
theorem perm_does {S : State} (nd : (keys S).Nodup) {t : Nat} (h : t ∈ keys S) (d : Does) : (keys (does_ S t d)).Perm (keys S) := by
  refine (List.perm_ext_iff_of_nodup (nodup_does nd t d) nd).mpr fun n => ?_
  rw [mem_keys_does]
  constructor
  · rintro (q | rfl)
    · exact q
    · exact h
  · exact .inl
theorem doing_does {S : State} (nd : (keys S).Nodup) {t n : Nat} {d : Does} : doing (does_ S t d) n = if n = t then some d else doing S n := by
  by_cases h : n = t
  · rw [if_pos h]
    exact mem_doing (nodup_does nd t d) (mem_does.mpr (.inr ⟨h, rfl⟩))
  · rw [if_neg h]
    cases e : doing S n with
    | none =>
      refine doing_none.mpr fun q => ?_
      rcases mem_keys_does.mp q with q | q
      · exact doing_none.mp e q
      · exact h q
    | some d' => exact mem_doing (nodup_does nd t d) (mem_does.mpr (.inl ⟨h, doing_mem e⟩))
end TS
end
section
set_option Elab.async false
set_option linter.all false
set_option maxRecDepth 100000
set_option maxHeartbeats 2000000
namespace TT
open TS
open Rd25 (State Does doing does_ stateOf readied)
structure WF (S : State) : Prop where
  nd : (keys S).Nodup
  lt : ∀ n ∈ keys S, n < 4294967296
  rnd : S.row.Nodup
  rdy : ∀ n ∈ S.row, doing S n = some .ready
  join : ∀ t u, (t, Does.joining u) ∈ S.tasks → u ∈ keys S
  snd : ∀ t c v, (t, Does.sending c v) ∈ S.tasks → c < S.channels.length
  rcv : ∀ t c, (t, Does.receiving c) ∈ S.tasks → c < S.channels.length
  ch : ∀ k ∈ S.channels, k.held.length ≤ k.most ∧ k.most ≤ 65536 ∧ ∀ v ∈ k.held, v.length ≤ 64
  nt : S.tasks.length ≤ 1000
  nc : S.channels.length ≤ 1000
  tm : S.time ≤ 4611686018427387904
def valOk (v : List Int) : Does → Prop
  | .sending _ x => v = x
  | .ended x => v = x
  | .thrown x => v = x
  | _ => True
structure InvX (ex : Nat → Prop) (M : MS) (S : State) : Prop where
  steps : M.steps = (S.steps : Int)
  now : M.now = (S.time : Int)
  row : M.row = S.row
  keys : M.ks.Perm (keys S)
  does : ∀ n d, (n, d) ∈ S.tasks → M.st n = (stateOf d).1 ∧ M.tg n = (stateOf d).2 ∧ valOk (M.val n) d
  vlen : ∀ n ∈ M.ks, (M.val n).length ≤ 64
  chl : M.ch.length = S.channels.length
  chs : ∀ i c, M.ch[i]? = some c → ∃ k, S.channels[i]? = some k ∧ c.room = (k.most : Int) ∧ c.kept = k.held ∧ c.snd = (view (sendq i) S.tasks).map (·.1) ∧ c.rcv = (view (recvq i) S.tasks).map (·.1)
  wt : ∀ n ∈ M.ks, ¬ ex n → M.wt n = (view (joinq n) S.tasks).map (·.1)
abbrev Inv : MS → State → Prop := InvX fun _ => False
section
variable {ex : Nat → Prop} {M M' : MS} {S S' : State} {t : Nat} {d d0 : Does}
theorem InvX.mem (I : InvX ex M S) {n : Nat} : n ∈ M.ks ↔ n ∈ TS.keys S := I.keys.mem_iff
theorem tasks_len (S : State) : S.tasks.length = (TS.keys S).length := by unfold TS.keys; rw [List.length_map]
theorem view_len {β : Type} {q : Does → Option β} {l : List (Nat × Does)} : (view q l).length ≤ l.length := by unfold view; exact List.length_filterMap_le _ _
theorem view_key {β : Type} {q : Does → Option β} {n : Nat} (h : n ∈ (view q S.tasks).map (·.1)) : n ∈ TS.keys S := by
  obtain ⟨⟨m, b⟩, hm, rfl⟩ := List.mem_map.mp h
  obtain ⟨d, hd, _⟩ := mem_view.mp hm
  exact mem_keys hd
theorem nodup_len {l m : List Nat} (nd : l.Nodup) (h : ∀ x ∈ l, x ∈ m) : l.length ≤ m.length := by
  induction l generalizing m with
  | nil => exact Nat.zero_le _
  | cons a l ih =>
    rw [List.nodup_cons] at nd
    have ha : a ∈ m := h a List.mem_cons_self
    have h2 : l.length ≤ (m.erase a).length := ih nd.2 fun x hx => by
      refine (List.mem_erase_of_ne fun e => ?_).mpr (h x (List.mem_cons_of_mem _ hx))
      subst e
      exact nd.1 hx
    rw [List.length_erase_of_mem ha] at h2
    have : 0 < m.length := List.length_pos_of_mem ha
    rw [List.length_cons]
    omega
theorem InvX.good (I : Inv M S) (W : WF S) (ho : ∀ os, M.ords = some os → os.length < 50000) : Good M := by
  have hk : M.ks.length ≤ 1000 := by rw [I.keys.length_eq, ← tasks_len]; exact W.nt
  have vl : ∀ {β : Type} {q : Does → Option β}, ((view q S.tasks).map (·.1)).length < 50000 := fun {β q} => by
    rw [List.length_map]
    have h1 := view_len (q := q) (l := S.tasks)
    have h2 := W.nt
    omega
  refine ⟨⟨fun n hn => ?_, fun k hk n hn => ?_, fun i c hc n hn => ?_, fun i c hc n hn => ?_⟩, by omega, ?_, fun n hn => by have := I.vlen n hn; omega, fun n hn => ?_, fun i c hc => ?_, fun i c hc => ?_, fun i c hc => ?_, ?_, ho⟩
  · rw [I.row] at hn
    exact I.mem.mpr (mem_keys (doing_mem (W.rdy n hn)))
  · rw [I.wt k hk id] at hn
    exact I.mem.mpr (view_key hn)
  · obtain ⟨k, _, _, _, e, _⟩ := I.chs i c hc
    rw [e] at hn
    exact I.mem.mpr (view_key hn)
  · obtain ⟨k, _, _, _, _, e⟩ := I.chs i c hc
    rw [e] at hn
    exact I.mem.mpr (view_key hn)
  · rw [I.row]
    have h := nodup_len W.rnd fun x hx => mem_keys (doing_mem (W.rdy x hx))
    rw [← tasks_len] at h
    have := W.nt
    omega
  · rw [I.wt n hn id]
    exact vl
  · obtain ⟨k, hk, _, e, _⟩ := I.chs i c hc
    obtain ⟨h1, h2, h3⟩ := W.ch k (List.mem_of_getElem? hk)
    rw [e]
    exact ⟨by omega, fun v hv => by have := h3 v hv; omega⟩
  · obtain ⟨k, _, _, _, e, _⟩ := I.chs i c hc
    rw [e]
    exact vl
  · obtain ⟨k, _, _, _, _, e⟩ := I.chs i c hc
    rw [e]
    exact vl
  · rw [I.chl]
    have := W.nc
    omega
theorem InvX.order (I : InvX ex M S) (o : List Int) : InvX ex (M.order o) S := ⟨I.steps, I.now, I.row, I.keys, I.does, I.vlen, I.chl, I.chs, I.wt⟩
theorem InvX.ask (I : InvX ex M S) : InvX ex M.ask S := ⟨I.steps, I.now, I.row, I.keys, I.does, I.vlen, I.chl, I.chs, I.wt⟩
theorem InvX.open (I : InvX ex M S) : InvX ex M.open S := ⟨I.steps, I.now, I.row, I.keys, I.does, I.vlen, I.chl, I.chs, I.wt⟩
theorem InvX.close (I : InvX ex M S) : InvX ex M.close S := ⟨I.steps, I.now, I.row, I.keys, I.does, I.vlen, I.chl, I.chs, I.wt⟩
theorem InvX.hear (I : InvX ex M S) (z : Int) : InvX ex (M.hear z) (Rd25.toldTime S z) := by
  have e : (Rd25.toldTime S z).tasks = S.tasks ∧ (Rd25.toldTime S z).row = S.row ∧ (Rd25.toldTime S z).channels = S.channels ∧ (Rd25.toldTime S z).steps = S.steps := by
    unfold Rd25.toldTime
    split <;> exact ⟨rfl, rfl, rfl, rfl⟩
  obtain ⟨e1, e2, e3, e4⟩ := e
  refine ⟨by rw [e4]; exact I.steps, ?_, by rw [e2]; exact I.row, by unfold TS.keys; rw [e1]; exact I.keys, by rw [e1]; exact I.does, I.vlen, by rw [e3]; exact I.chl, by rw [e1, e3]; exact I.chs, by rw [e1]; exact I.wt⟩
  show hearN M.now z = _
  have hn := I.now
  unfold hearN Rd25.toldTime
  rw [hn]
  by_cases h : (S.time : Int) ≤ z
  · rw [if_pos h, if_pos h]
    show (if 4611686018427387904 < z then 4611686018427387904 else z) = ((min z.toNat Rd25.LATE : Nat) : Int)
    have hl : Rd25.LATE = 4611686018427387904 := rfl
    rw [hl]
    split <;> omega
  · rw [if_neg h, if_neg h]
structure Quiet (d : Does) : Prop where
  snd : ∀ c, sendq c d = none
  rcv : ∀ c, recvq c d = none
  join : ∀ u, joinq u d = none
theorem q_ready : Quiet .ready := ⟨fun _ => rfl, fun _ => rfl, fun _ => rfl⟩
theorem q_going : Quiet .going := ⟨fun _ => rfl, fun _ => rfl, fun _ => rfl⟩
theorem q_spawning : Quiet .spawning := ⟨fun _ => rfl, fun _ => rfl, fun _ => rfl⟩
theorem q_sleeping {n : Nat} : Quiet (.sleeping n) := ⟨fun _ => rfl, fun _ => rfl, fun _ => rfl⟩
theorem q_ended {v : List Int} : Quiet (.ended v) := ⟨fun _ => rfl, fun _ => rfl, fun _ => rfl⟩
theorem q_thrown {v : List Int} : Quiet (.thrown v) := ⟨fun _ => rfl, fun _ => rfl, fun _ => rfl⟩
theorem InvX.move (I : InvX ex M S) (W : WF S) (ht : t ∈ TS.keys S) (d : Does) (eS : S'.tasks = (does_ S t d).tasks) (eSt : S'.steps = S.steps) (eT : S'.time = S.time)
    (m1 : M'.steps = M.steps) (m2 : M'.now = M.now) (m3 : M'.ks = M.ks) (row : M'.row = S'.row)
    (oth : ∀ n, n ≠ t → M'.st n = M.st n ∧ M'.tg n = M.tg n ∧ M'.val n = M.val n)
    (own : M'.st t = (stateOf d).1 ∧ M'.tg t = (stateOf d).2 ∧ valOk (M'.val t) d ∧ (M'.val t).length ≤ 64)
    (chl : M'.ch.length = S'.channels.length)
    (chs : ∀ i c, M'.ch[i]? = some c → ∃ k, S'.channels[i]? = some k ∧ c.room = (k.most : Int) ∧ c.kept = k.held ∧ c.snd = (view (sendq i) (does_ S t d).tasks).map (·.1) ∧ c.rcv = (view (recvq i) (does_ S t d).tasks).map (·.1))
    (wt : ∀ n ∈ M.ks, ¬ ex n → M'.wt n = (view (joinq n) (does_ S t d).tasks).map (·.1)) : InvX ex M' S' := by
  have ek : TS.keys S' = TS.keys (does_ S t d) := by unfold TS.keys; rw [eS]
  refine ⟨by rw [m1, eSt]; exact I.steps, by rw [m2, eT]; exact I.now, row, ?_, fun n d' h => ?_, fun n hn => ?_, chl, by rw [eS]; exact chs, by rw [eS, m3]; exact wt⟩
  · rw [ek, m3]
    exact I.keys.trans (perm_does W.nd ht d).symm
  · rw [eS] at h
    rcases mem_does.mp h with ⟨h1, h2⟩ | ⟨rfl, rfl⟩
    · obtain ⟨o1, o2, o3⟩ := oth n h1
      rw [o1, o2, o3]
      exact I.does n d' h2
    · exact ⟨own.1, own.2.1, own.2.2.1⟩
  · rw [m3] at hn
    by_cases h : n = t
    · subst h
      exact own.2.2.2
    · rw [(oth n h).2.2]
      exact I.vlen n hn
theorem quiet_views (W : WF S) (h0 : doing S t = some d0) (q0 : Quiet d0) (q : Quiet d) :
    (∀ c, view (sendq c) (does_ S t d).tasks = view (sendq c) S.tasks) ∧ (∀ c, view (recvq c) (does_ S t d).tasks = view (recvq c) S.tasks) ∧ ∀ u, view (joinq u) (does_ S t d).tasks = view (joinq u) S.tasks := by
  have hu : ∀ d1, (t, d1) ∈ S.tasks → d1 = d0 := fun d1 h => mem_unique W.nd h (doing_mem h0)
  exact ⟨fun c => vd_none (fun d1 h => by rw [hu d1 h]; exact q0.snd c) (q.snd c), fun c => vd_none (fun d1 h => by rw [hu d1 h]; exact q0.rcv c) (q.rcv c), fun u => vd_none (fun d1 h => by rw [hu d1 h]; exact q0.join u) (q.join u)⟩
theorem InvX.quiet (I : InvX ex M S) (W : WF S) (h0 : doing S t = some d0) (q0 : Quiet d0) (q : Quiet d) (eS : S'.tasks = (does_ S t d).tasks) (eSt : S'.steps = S.steps) (eT : S'.time = S.time) (eC : S'.channels = S.channels)
    (m1 : M'.steps = M.steps) (m2 : M'.now = M.now) (m3 : M'.ks = M.ks) (row : M'.row = S'.row) (m4 : M'.ch = M.ch) (m5 : ∀ n ∈ M.ks, ¬ ex n → M'.wt n = M.wt n)
    (oth : ∀ n, n ≠ t → M'.st n = M.st n ∧ M'.tg n = M.tg n ∧ M'.val n = M.val n)
    (own : M'.st t = (stateOf d).1 ∧ M'.tg t = (stateOf d).2 ∧ valOk (M'.val t) d ∧ (M'.val t).length ≤ 64) : InvX ex M' S' := by
  obtain ⟨v1, v2, v3⟩ := quiet_views W h0 q0 q
  refine I.move W (mem_keys (doing_mem h0)) d eS eSt eT m1 m2 m3 row oth own (by rw [m4, eC]; exact I.chl) (fun i c h => ?_) fun n hn he => ?_
  · rw [m4] at h
    rw [v1, v2, eC]
    exact I.chs i c h
  · rw [v3, m5 n hn he]
    exact I.wt n hn he
theorem InvX.ready (I : InvX ex M S) (W : WF S) (h0 : doing S t = some d0) (q0 : Quiet d0) : InvX ex (M.ready t) (readied S t) := by
  have hk : t ∈ M.ks := I.mem.mpr (mem_keys (doing_mem h0))
  refine I.quiet (M' := M.ready t) (S' := readied S t) (d := .ready) W h0 q0 q_ready rfl rfl rfl rfl rfl rfl rfl ?_ rfl (fun _ _ _ => rfl) (fun n hn => ?_) ?_
  · show M.row ++ [t] = S.row ++ [t]
    rw [I.row]
  · exact ⟨if_neg hn, if_neg hn, rfl⟩
  · exact ⟨if_pos rfl, if_pos rfl, trivial, I.vlen t hk⟩
theorem InvX.give (I : InvX ex M S) (W : WF S) (h0 : doing S t = some d0) (q0 : Quiet d0) (k : Int) (l : List Int) : InvX ex (M.give k t l) (readied S t) := (I.order _).ready W h0 q0
theorem InvX.setSt (I : InvX ex M S) (W : WF S) (h0 : doing S t = some d0) (q0 : Quiet d0) (q : Quiet d) {c g : Int} (e1 : (stateOf d).1 = c) (e2 : (stateOf d).2 = g) (hv : ∀ v, valOk v d) : InvX ex (M.setSt t c g) (does_ S t d) := by
  have hk : t ∈ M.ks := I.mem.mpr (mem_keys (doing_mem h0))
  refine I.quiet (M' := M.setSt t c g) (S' := does_ S t d) (d := d) W h0 q0 q rfl rfl rfl rfl rfl rfl rfl I.row rfl (fun _ _ _ => rfl) (fun n hn => ?_) ?_
  · exact ⟨if_neg hn, if_neg hn, rfl⟩
  · rw [e1, e2]
    exact ⟨if_pos rfl, if_pos rfl, hv _, I.vlen t hk⟩
theorem WF.move (W : WF S) {d : Does} (ht : t ∈ TS.keys S ∨ (t < 4294967296 ∧ S.tasks.length < 1000)) (eS : S'.tasks = (does_ S t d).tasks)
    (rnd : S'.row.Nodup) (rdy : ∀ n ∈ S'.row, (n ≠ t ∧ n ∈ S.row) ∨ (n = t ∧ d = .ready)) (join : ∀ u, d = .joining u → u ∈ TS.keys S)
    (nl : S.channels.length ≤ S'.channels.length) (snd : ∀ c v, d = .sending c v → c < S'.channels.length) (rcv : ∀ c, d = .receiving c → c < S'.channels.length)
    (ch : ∀ k ∈ S'.channels, k.held.length ≤ k.most ∧ k.most ≤ 65536 ∧ ∀ v ∈ k.held, v.length ≤ 64) (nc : S'.channels.length ≤ 1000) (tm : S'.time ≤ 4611686018427387904) : WF S' := by
  have ek : TS.keys S' = TS.keys (does_ S t d) := by unfold TS.keys; rw [eS]
  have ed : ∀ n, doing S' n = doing (does_ S t d) n := fun n => by unfold doing; rw [eS]
  refine ⟨by rw [ek]; exact nodup_does W.nd t d, fun n hn => ?_, rnd, fun n hn => ?_, fun x u h => ?_, fun x c v h => ?_, fun x c h => ?_, ch, ?_, nc, tm⟩
  · rw [ek] at hn
    rcases mem_keys_does.mp hn with h | h
    · exact W.lt n h
    · subst h
      rcases ht with h | h
      · exact W.lt n h
      · exact h.1
  · rw [ed, doing_does W.nd]
    rcases rdy n hn with ⟨h1, h2⟩ | ⟨h1, h2⟩
    · rw [if_neg h1]
      exact W.rdy n h2
    · rw [if_pos h1, h2]
  · rw [eS] at h
    rw [ek]
    rcases mem_does.mp h with ⟨_, h2⟩ | ⟨_, h2⟩
    · exact mem_keys_does.mpr (.inl (W.join x u h2))
    · exact mem_keys_does.mpr (.inl (join u h2.symm))
  · rw [eS] at h
    rcases mem_does.mp h with ⟨_, h2⟩ | ⟨_, h2⟩
    · exact Nat.lt_of_lt_of_le (W.snd x c v h2) nl
    · exact snd c v h2.symm
  · rw [eS] at h
    rcases mem_does.mp h with ⟨_, h2⟩ | ⟨_, h2⟩
    · exact Nat.lt_of_lt_of_le (W.rcv x c h2) nl
    · exact rcv c h2.symm
  · rw [eS, tasks_len]
    rcases ht with h | h
    · rw [(perm_does W.nd h d).length_eq, ← tasks_len]
      exact W.nt
    · rw [keys_does, List.length_append]
      have h1 : ((TS.keys S).filter fun x => x != t).length ≤ (TS.keys S).length := List.length_filter_le _ _
      rw [← tasks_len] at h1
      show _ + 1 ≤ 1000
      omega
theorem WF.ready (W : WF S) (h0 : doing S t = some d0) (hr : d0 ≠ .ready) : WF (readied S t) := by
  refine W.move (S' := readied S t) (d := .ready) (.inl (mem_keys (doing_mem h0))) rfl ?_ (fun n hn => ?_) (fun u e => by cases e) (Nat.le_refl _) (fun c v e => by cases e) (fun c e => by cases e) W.ch W.nc W.tm
  · show (S.row ++ [t]).Nodup
    rw [List.nodup_append]
    refine ⟨W.rnd, by simp, fun a ha b hb e => ?_⟩
    rw [List.mem_singleton] at hb
    subst hb e
    rw [W.rdy a ha] at h0
    exact hr (Option.some.inj h0).symm
  · rcases List.mem_append.mp (show n ∈ S.row ++ [t] from hn) with h | h
    · by_cases e : n = t
      · exact .inr ⟨e, rfl⟩
      · exact .inl ⟨e, h⟩
    · exact .inr ⟨List.mem_singleton.mp h, rfl⟩
theorem WF.does (W : WF S) (h0 : doing S t = some d0) (hr : d0 ≠ .ready) (join : ∀ u, d = .joining u → u ∈ TS.keys S) (snd : ∀ c v, d = .sending c v → c < S.channels.length) (rcv : ∀ c, d = .receiving c → c < S.channels.length) : WF (does_ S t d) := by
  refine W.move (S' := does_ S t d) (d := d) (.inl (mem_keys (doing_mem h0))) rfl W.rnd (fun n hn => .inl ⟨fun e => ?_, hn⟩) join (Nat.le_refl _) snd rcv W.ch W.nc W.tm
  subst e
  rw [W.rdy n hn] at h0
  exact hr (Option.some.inj h0).symm
end
end TT
end
section
set_option Elab.async false
set_option linter.all false
set_option maxRecDepth 100000
set_option maxHeartbeats 2000000
namespace TT
open TS
open Rd25 (State Does doing does_ stateOf readied)
section
variable {ex : Nat → Prop} {M M' : MS} {S S' : State} {t n i u : Nat} {d d0 : Does} {c : Ch}
theorem sendq_is {d : Does} {v : List Int} (h : sendq i d = some v) : d = .sending i v := by
  cases d <;> simp only [sendq] at h <;> first | cases h | skip
  split at h
  · rename_i e
    subst e
    rw [Option.some.inj h]
  · cases h
theorem recvq_is {d : Does} {x : Unit} (h : recvq i d = some x) : d = .receiving i := by
  cases d <;> simp only [recvq] at h <;> first | cases h | skip
  split at h
  · rename_i e
    rw [e]
  · cases h
theorem joinq_is {d : Does} {x : Unit} (h : joinq u d = some x) : d = .joining u := by
  cases d <;> simp only [joinq] at h <;> first | cases h | skip
  split at h
  · rename_i e
    rw [e]
  · cases h
theorem map_cons_inv {α β : Type} {f : α → β} {l : List α} {y : β} {m : List β} (h : y :: m = l.map f) : ∃ x l', l = x :: l' ∧ f x = y ∧ l'.map f = m := by
  cases l with
  | nil => cases h
  | cons x l' =>
    rw [List.map_cons] at h
    exact ⟨x, l', rfl, (List.cons.inj h).1.symm, (List.cons.inj h).2.symm⟩
theorem InvX.readyRcv (I : InvX ex M S) (W : WF S) {r : Nat} {l : List Nat} (hc : M.ch[i]? = some c) (er : c.rcv = r :: l) : doing S r = some (.receiving i) ∧ InvX ex ((M.setCh i { c with rcv := l }).ready r) (readied S r) := by
  obtain ⟨k, hk, k1, k2, k3, k4⟩ := I.chs i c hc
  rw [er] at k4
  obtain ⟨⟨r', ⟨⟩⟩, lv, hv, e1, e2⟩ := map_cons_inv k4
  have e1' : r' = r := e1
  subst e1'
  obtain ⟨d0, hd, hq⟩ := mem_view.mp (show (r', ()) ∈ view (recvq i) S.tasks by rw [hv]; exact List.mem_cons_self)
  have ed := recvq_is hq
  subst ed
  have h0 := mem_doing W.nd hd
  have hu : ∀ d1, (r', d1) ∈ S.tasks → d1 = .receiving i := fun d1 h => mem_unique W.nd h hd
  have hkk : r' ∈ M.ks := I.mem.mpr (mem_keys hd)
  refine ⟨h0, I.move (M' := (M.setCh i { c with rcv := l }).ready r') (S' := readied S r') W (mem_keys hd) .ready rfl rfl rfl rfl rfl rfl ?_ (fun n hn => ?_) ?_ ?_ (fun j c' h => ?_) fun n hn he => ?_⟩
  · show M.row ++ [r'] = S.row ++ [r']
    rw [I.row]
  · exact ⟨if_neg hn, if_neg hn, rfl⟩
  · exact ⟨if_pos rfl, if_pos rfl, trivial, I.vlen r' hkk⟩
  · show (M.ch.set i _).length = _
    rw [List.length_set]
    exact I.chl
  · have v1 : view (sendq j) (does_ S r' .ready).tasks = view (sendq j) S.tasks := vd_none (fun d1 h => by rw [hu d1 h]; rfl) rfl
    by_cases hj : j = i
    · subst hj
      have e : c' = { c with rcv := l } := Option.some.inj (h.symm.trans (ch_self hc))
      subst e
      refine ⟨k, hk, k1, k2, ?_, ?_⟩
      · rw [v1]; exact k3
      · rw [vd_head W.nd hv rfl]; exact e2.symm
    · have h' := ch_same (M := M) h hj
      obtain ⟨k', q1, q2, q3, q4, q5⟩ := I.chs j c' h'
      refine ⟨k', q1, q2, q3, by rw [v1]; exact q4, ?_⟩
      rw [vd_none (fun d1 h => by rw [hu d1 h]; exact if_neg (Ne.symm hj)) rfl]
      exact q5
  · rw [vd_none (fun d1 h => by rw [hu d1 h]; rfl) rfl]
    exact I.wt n hn he
theorem InvX.readySnd (I : InvX ex M S) (W : WF S) {r : Nat} {l : List Nat} (hc : M.ch[i]? = some c) (er : c.snd = r :: l) : doing S r = some (.sending i (M.val r)) ∧ InvX ex ((M.setCh i { c with snd := l }).ready r) (readied S r) ∧ ∃ lv, view (sendq i) S.tasks = (r, M.val r) :: lv := by
  obtain ⟨k, hk, k1, k2, k3, k4⟩ := I.chs i c hc
  rw [er] at k3
  obtain ⟨⟨r', x⟩, lv, hv, e1, e2⟩ := map_cons_inv k3
  have e1' : r' = r := e1
  subst e1'
  obtain ⟨d0, hd, hq⟩ := mem_view.mp (show (r', x) ∈ view (sendq i) S.tasks by rw [hv]; exact List.mem_cons_self)
  have ed := sendq_is hq
  subst ed
  have ex' : M.val r' = x := (I.does r' _ hd).2.2
  have h0 := mem_doing W.nd hd
  have hu : ∀ d1, (r', d1) ∈ S.tasks → d1 = .sending i x := fun d1 h => mem_unique W.nd h hd
  have hkk : r' ∈ M.ks := I.mem.mpr (mem_keys hd)
  refine ⟨by rw [ex']; exact h0, I.move (M' := (M.setCh i { c with snd := l }).ready r') (S' := readied S r') W (mem_keys hd) .ready rfl rfl rfl rfl rfl rfl ?_ (fun n hn => ?_) ?_ ?_ (fun j c' h => ?_) fun n hn he => ?_, lv, by rw [ex']; exact hv⟩
  · show M.row ++ [r'] = S.row ++ [r']
    rw [I.row]
  · exact ⟨if_neg hn, if_neg hn, rfl⟩
  · exact ⟨if_pos rfl, if_pos rfl, trivial, I.vlen r' hkk⟩
  · show (M.ch.set i _).length = _
    rw [List.length_set]
    exact I.chl
  · have v1 : view (recvq j) (does_ S r' .ready).tasks = view (recvq j) S.tasks := vd_none (fun d1 h => by rw [hu d1 h]; rfl) rfl
    by_cases hj : j = i
    · subst hj
      have e : c' = { c with snd := l } := Option.some.inj (h.symm.trans (ch_self hc))
      subst e
      refine ⟨k, hk, k1, k2, ?_, ?_⟩
      · rw [vd_head W.nd hv rfl]; exact e2.symm
      · rw [v1]; exact k4
    · have h' := ch_same (M := M) h hj
      obtain ⟨k', q1, q2, q3, q4, q5⟩ := I.chs j c' h'
      refine ⟨k', q1, q2, q3, ?_, by rw [v1]; exact q5⟩
      rw [vd_none (fun d1 h => by rw [hu d1 h]; exact if_neg (Ne.symm hj)) rfl]
      exact q4
  · rw [vd_none (fun d1 h => by rw [hu d1 h]; rfl) rfl]
    exact I.wt n hn he
theorem InvX.toSend (I : InvX ex M S) (W : WF S) (h0 : doing S n = some d0) (q0 : Quiet d0) (hc : M.ch[i]? = some c) {v : List Int} (hv : v.length ≤ 64) : InvX ex (((M.setVal n v).setSt n 3 i).setCh i { c with snd := c.snd ++ [n] }) (does_ S n (.sending i v)) := by
  obtain ⟨k, hk, k1, k2, k3, k4⟩ := I.chs i c hc
  have hd := doing_mem h0
  have hu : ∀ d1, (n, d1) ∈ S.tasks → d1 = d0 := fun d1 h => mem_unique W.nd h hd
  refine I.move (M' := ((M.setVal n v).setSt n 3 i).setCh i { c with snd := c.snd ++ [n] }) (S' := does_ S n (.sending i v)) W (mem_keys hd) (.sending i v) rfl rfl rfl rfl rfl rfl I.row (fun m hn => ?_) ?_ ?_ (fun j c' h => ?_) fun m hn he => ?_
  · exact ⟨if_neg hn, if_neg hn, if_neg hn⟩
  · refine ⟨if_pos rfl, if_pos rfl, ?_, ?_⟩
    · show (if n = n then v else _) = v
      rw [if_pos rfl]
    · show (if n = n then v else M.val n).length ≤ 64
      rw [if_pos rfl]
      exact hv
  · show (M.ch.set i _).length = _
    rw [List.length_set]
    exact I.chl
  · have v1 : view (recvq j) (does_ S n (.sending i v)).tasks = view (recvq j) S.tasks := vd_none (fun d1 h => by rw [hu d1 h]; exact q0.rcv j) rfl
    by_cases hj : j = i
    · subst hj
      have e : c' = { c with snd := c.snd ++ [n] } := Option.some.inj (h.symm.trans (ch_self (M := (M.setVal n v).setSt n 3 j) hc))
      subst e
      refine ⟨k, hk, k1, k2, ?_, by rw [v1]; exact k4⟩
      rw [vd_add (b := v) (fun d1 h => by rw [hu d1 h]; exact q0.snd j) (if_pos rfl), List.map_append, ← k3]
      rfl
    · have h' := ch_same (M := (M.setVal n v).setSt n 3 i) h hj
      obtain ⟨k', q1, q2, q3, q4, q5⟩ := I.chs j c' h'
      refine ⟨k', q1, q2, q3, ?_, by rw [v1]; exact q5⟩
      rw [vd_none (fun d1 h => by rw [hu d1 h]; exact q0.snd j) (if_neg (Ne.symm hj))]
      exact q4
  · rw [vd_none (fun d1 h => by rw [hu d1 h]; exact q0.join m) rfl]
    exact I.wt m hn he
theorem InvX.toRecv (I : InvX ex M S) (W : WF S) (h0 : doing S n = some d0) (q0 : Quiet d0) (hc : M.ch[i]? = some c) : InvX ex ((M.setSt n 4 i).setCh i { c with rcv := c.rcv ++ [n] }) (does_ S n (.receiving i)) := by
  obtain ⟨k, hk, k1, k2, k3, k4⟩ := I.chs i c hc
  have hd := doing_mem h0
  have hu : ∀ d1, (n, d1) ∈ S.tasks → d1 = d0 := fun d1 h => mem_unique W.nd h hd
  refine I.move (M' := (M.setSt n 4 i).setCh i { c with rcv := c.rcv ++ [n] }) (S' := does_ S n (.receiving i)) W (mem_keys hd) (.receiving i) rfl rfl rfl rfl rfl rfl I.row (fun m hn => ?_) ?_ ?_ (fun j c' h => ?_) fun m hn he => ?_
  · exact ⟨if_neg hn, if_neg hn, rfl⟩
  · exact ⟨if_pos rfl, if_pos rfl, trivial, I.vlen n (I.mem.mpr (mem_keys hd))⟩
  · show (M.ch.set i _).length = _
    rw [List.length_set]
    exact I.chl
  · have v1 : view (sendq j) (does_ S n (.receiving i)).tasks = view (sendq j) S.tasks := vd_none (fun d1 h => by rw [hu d1 h]; exact q0.snd j) rfl
    by_cases hj : j = i
    · subst hj
      have e : c' = { c with rcv := c.rcv ++ [n] } := Option.some.inj (h.symm.trans (ch_self (M := M.setSt n 4 j) hc))
      subst e
      refine ⟨k, hk, k1, k2, by rw [v1]; exact k3, ?_⟩
      rw [vd_add (b := ()) (fun d1 h => by rw [hu d1 h]; exact q0.rcv j) (if_pos rfl), List.map_append, ← k4]
      rfl
    · have h' := ch_same (M := M.setSt n 4 i) h hj
      obtain ⟨k', q1, q2, q3, q4, q5⟩ := I.chs j c' h'
      refine ⟨k', q1, q2, q3, by rw [v1]; exact q4, ?_⟩
      rw [vd_none (fun d1 h => by rw [hu d1 h]; exact q0.rcv j) (if_neg (Ne.symm hj))]
      exact q5
  · rw [vd_none (fun d1 h => by rw [hu d1 h]; exact q0.join m) rfl]
    exact I.wt m hn he
theorem InvX.toJoin (I : Inv M S) (W : WF S) (h0 : doing S n = some d0) (q0 : Quiet d0) (hu' : u ∈ M.ks) : Inv ((M.setSt n 5 u).setWt u (M.wt u ++ [n])) (does_ S n (.joining u)) := by
  have hd := doing_mem h0
  have hu : ∀ d1, (n, d1) ∈ S.tasks → d1 = d0 := fun d1 h => mem_unique W.nd h hd
  refine I.move (M' := (M.setSt n 5 u).setWt u (M.wt u ++ [n])) (S' := does_ S n (.joining u)) W (mem_keys hd) (.joining u) rfl rfl rfl rfl rfl rfl I.row (fun m hn => ?_) ?_ I.chl (fun j c' h => ?_) fun m hn he => ?_
  · exact ⟨if_neg hn, if_neg hn, rfl⟩
  · exact ⟨if_pos rfl, if_pos rfl, trivial, I.vlen n (I.mem.mpr (mem_keys hd))⟩
  · rw [vd_none (fun d1 h => by rw [hu d1 h]; exact q0.snd j) rfl, vd_none (fun d1 h => by rw [hu d1 h]; exact q0.rcv j) rfl]
    exact I.chs j c' h
  · show (if m = u then M.wt u ++ [n] else M.wt m) = _
    by_cases hm : m = u
    · subst hm
      rw [if_pos rfl, vd_add (b := ()) (fun d1 h => by rw [hu d1 h]; exact q0.join m) (if_pos rfl), List.map_append, ← I.wt m hn he]
      rfl
    · rw [if_neg hm, vd_none (fun d1 h => by rw [hu d1 h]; exact q0.join m) (if_neg (Ne.symm hm))]
      exact I.wt m hn he
theorem InvX.setKept (I : InvX ex M S) (hc : M.ch[i]? = some c) {k : Rd25.Channel} (hk : S.channels[i]? = some k) (l : List (List Int)) : InvX ex (M.setCh i { c with kept := l }) (Rd25.setChannel S i { k with held := l }) := by
  obtain ⟨k', hk', k1, k2, k3, k4⟩ := I.chs i c hc
  rw [hk] at hk'
  cases hk'
  refine ⟨I.steps, I.now, I.row, I.keys, I.does, I.vlen, ?_, fun j c' h => ?_, I.wt⟩
  · show (M.ch.set i _).length = (S.channels.set i _).length
    rw [List.length_set, List.length_set]
    exact I.chl
  · by_cases hj : j = i
    · subst hj
      have e : c' = { c with kept := l } := Option.some.inj (h.symm.trans (ch_self hc))
      subst e
      exact ⟨_, List.getElem?_set_self (lt_of_get hk), k1, rfl, k3, k4⟩
    · obtain ⟨k', q1, q2⟩ := I.chs j c' (ch_same (M := M) h hj)
      exact ⟨k', by show (S.channels.set i _)[j]? = _; rw [List.getElem?_set_ne (Ne.symm hj)]; exact q1, q2⟩
theorem WF.setKept (W : WF S) {k : Rd25.Channel} (hk : S.channels[i]? = some k) {l : List (List Int)} (h1 : l.length ≤ k.most) (h2 : ∀ v ∈ l, v.length ≤ 64) : WF (Rd25.setChannel S i { k with held := l }) := by
  have el : (S.channels.set i { k with held := l }).length = S.channels.length := List.length_set
  refine ⟨W.nd, W.lt, W.rnd, W.rdy, W.join, fun t c v h => by show c < (S.channels.set i _).length; rw [el]; exact W.snd t c v h, fun t c h => by show c < (S.channels.set i _).length; rw [el]; exact W.rcv t c h, fun k' h => ?_, W.nt, by show (S.channels.set i _).length ≤ _; rw [el]; exact W.nc, W.tm⟩
  have h' : k' ∈ S.channels.set i { k with held := l } := h
  rcases List.mem_or_eq_of_mem_set h' with q | q
  · exact W.ch k' q
  · subst q
    exact ⟨h1, (W.ch k (List.mem_of_getElem? hk)).2.1, h2⟩
theorem view_none {β : Type} {q : Does → Option β} {l : List (Nat × Does)} (h : ∀ n d, (n, d) ∈ l → q d = none) : view q l = [] := by
  rw [List.eq_nil_iff_forall_not_mem]
  rintro ⟨n, b⟩ hm
  obtain ⟨d, h1, h2⟩ := mem_view.mp hm
  rw [h n d h1] at h2
  cases h2
theorem InvX.newChan (I : InvX ex M S) (W : WF S) {z : Int} (hz : 0 ≤ z) : InvX ex (M.newChan z) { S with channels := S.channels ++ [⟨z.toNat, []⟩] } := by
  refine ⟨I.steps, I.now, I.row, I.keys, I.does, I.vlen, ?_, fun j c' h => ?_, I.wt⟩
  · show (M.ch ++ [_]).length = (S.channels ++ [_]).length
    rw [List.length_append, List.length_append, I.chl]
    rfl
  · by_cases hj : j < M.ch.length
    · have h' : M.ch[j]? = some c' := by
        rw [show (M.newChan z).ch = M.ch ++ [_] from rfl, List.getElem?_append_left hj] at h
        exact h
      obtain ⟨k', q1, q2⟩ := I.chs j c' h'
      exact ⟨k', by show (S.channels ++ _)[j]? = _; rw [List.getElem?_append_left (by rw [← I.chl]; exact hj)]; exact q1, q2⟩
    · have hl := lt_of_get h
      rw [show (M.newChan z).ch = M.ch ++ [_] from rfl, List.length_append] at hl
      have ej : j = M.ch.length := by
        have : ([(⟨z, [], [], []⟩ : Ch)] : List Ch).length = 1 := rfl
        omega
      subst ej
      rw [show (M.newChan z).ch = M.ch ++ [_] from rfl, List.getElem?_append_right (Nat.le_refl _), Nat.sub_self] at h
      have e : c' = ⟨z, [], [], []⟩ := (Option.some.inj h).symm
      subst e
      refine ⟨⟨z.toNat, []⟩, ?_, ?_, rfl, ?_, ?_⟩
      · show (S.channels ++ _)[_]? = _
        rw [I.chl, List.getElem?_append_right (Nat.le_refl _), Nat.sub_self]
        rfl
      · show z = ((z.toNat : Nat) : Int)
        omega
      · rw [view_none fun n d hd => ?_]
        · rfl
        · cases hq : sendq M.ch.length d with
          | none => rfl
          | some v =>
            have e := sendq_is hq
            subst e
            have := W.snd n _ _ hd
            rw [I.chl] at this
            omega
      · rw [view_none fun n d hd => ?_]
        · rfl
        · cases hq : recvq M.ch.length d with
          | none => rfl
          | some v =>
            have e := recvq_is hq
            subst e
            have := W.rcv n _ hd
            rw [I.chl] at this
            omega
theorem WF.newChan (W : WF S) {z : Int} (hz : 0 ≤ z ∧ z ≤ 65536) (hl : S.channels.length < 1000) : WF { S with channels := S.channels ++ [⟨z.toNat, []⟩] } := by
  have el : (S.channels ++ [(⟨z.toNat, []⟩ : Rd25.Channel)]).length = S.channels.length + 1 := by rw [List.length_append]; rfl
  refine ⟨W.nd, W.lt, W.rnd, W.rdy, W.join, fun t c v h => ?_, fun t c h => ?_, fun k' h => ?_, W.nt, ?_, W.tm⟩
  · have := W.snd t c v h
    show c < (S.channels ++ [_]).length
    rw [el]; omega
  · have := W.rcv t c h
    show c < (S.channels ++ [_]).length
    rw [el]; omega
  · rcases List.mem_append.mp (show k' ∈ S.channels ++ [_] from h) with q | q
    · exact W.ch k' q
    · rw [List.mem_singleton.mp q]
      exact ⟨Nat.zero_le _, by show z.toNat ≤ 65536; omega, fun v hv => nomatch hv⟩
  · show (S.channels ++ [_]).length ≤ 1000
    rw [el]; omega
theorem WF.told (W : WF S) (z : Int) : WF (Rd25.toldTime S z) := by
  unfold Rd25.toldTime
  split
  · refine ⟨W.nd, W.lt, W.rnd, W.rdy, W.join, W.snd, W.rcv, W.ch, W.nt, W.nc, ?_⟩
    show min z.toNat Rd25.LATE ≤ _
    have hl : Rd25.LATE = 4611686018427387904 := rfl
    rw [hl]
    exact Nat.min_le_right _ _
  · exact W
end
end TT
end
section
set_option Elab.async false
set_option linter.all false
set_option maxRecDepth 100000
set_option maxHeartbeats 2000000
namespace TT
open TS
open Rd25 (State Does doing does_ stateOf readied)
def encO (x : Rd25.Order) : List Int := (x.1 : Int) :: (x.2.1 : Int) :: (if x.1 = 2 then [] else (x.2.2.length : Int) :: x.2.2)
structure InvW (ex : Nat → Prop) (M : MS) (w : Rd25.W) : Prop where
  inv : InvX ex M w.1
  wf : WF w.1
  ords : M.ords = some (w.2.map encO)
abbrev InvW0 : MS → Rd25.W → Prop := InvW fun _ => False
section
variable {ex : Nat → Prop} {M : MS} {S : State} {o : List Rd25.Order} {t n i u : Nat} {d d0 : Does} {c : Ch}
theorem InvW.give (I : InvW ex M (S, o)) (h0 : doing S t = some d0) (q0 : Quiet d0) (hr : d0 ≠ .ready) (k : Nat) (hk : k ≠ 2) (v : List Int) : InvW ex (M.give k t v) (readied S t, o ++ [(k, t, v)]) := by
  refine ⟨I.inv.give I.wf h0 q0 k v, I.wf.ready h0 hr, ?_⟩
  show M.ords.map _ = _
  rw [I.ords, List.map_append]
  show some (o.map encO ++ [ordV k t v]) = some (o.map encO ++ [encO (k, t, v)])
  rw [show encO (k, t, v) = ordV k t v by unfold encO ordV; rw [if_neg hk]]
theorem InvW.hand (I : InvW ex M (S, o)) (h0 : doing S t = some d0) (q0 : Quiet d0) (hr : d0 ≠ .ready) (v : List Int) : InvW ex (M.give 0 t v) (Rd25.hand t v (S, o)) := I.give h0 q0 hr 0 (by decide) v
theorem InvW.toss (I : InvW ex M (S, o)) (h0 : doing S t = some d0) (q0 : Quiet d0) (hr : d0 ≠ .ready) (v : List Int) : InvW ex (M.give 1 t v) (Rd25.toss t v (S, o)) := I.give h0 q0 hr 1 (by decide) v
theorem going_ne : Does.going ≠ .ready := by intro e; cases e
theorem InvW.wrong (I : InvW ex M (S, o)) (h0 : doing S n = some .going) : InvW ex (M.wrong n) (Rd25.toss n (Rd25.whole (-1)) (S, o)) := I.toss h0 q_going going_ne [2, -1]
theorem chanOf_some (I : InvX ex M S) {l : List Int} (h : M.chanOf l = some i) : Rd25.channelOf l = some i ∧ ∃ c k, M.ch[i]? = some c ∧ S.channels[i]? = some k := by
  obtain ⟨c, hc⟩ := chanOf_get h
  obtain ⟨k, hk, _⟩ := I.chs i c hc
  refine ⟨?_, c, k, hc, hk⟩
  rw [chanOf_is h]
  show (if (i : Int) < 0 then none else some (i : Int).toNat) = some i
  rw [if_neg (by omega), Int.toNat_natCast]
theorem chanOf_none (I : InvX ex M S) {l : List Int} (h : M.chanOf l = none) (f : Nat → Rd25.W → Rd25.W) (hf : ∀ c, S.channels[c]? = none → f c (S, o) = Rd25.toss n (Rd25.whole (-1)) (S, o)) : Rd25.at_ n l f (S, o) = Rd25.toss n (Rd25.whole (-1)) (S, o) := by
  unfold Rd25.at_ Rd25.channelOf
  split
  · rename_i c hc
    split at hc
    · rename_i z
      split at hc
      · cases hc
      · rename_i hz
        have e : z.toNat = c := Option.some.inj hc
        subst e
        refine hf _ ?_
        rw [List.getElem?_eq_none_iff]
        have h' : (if 0 ≤ z ∧ z < M.ch.length then some z.toNat else none) = none := h
        split at h'
        · cases h'
        · rename_i hn
          rw [← I.chl]
          omega
    · cases hc
  · rfl
theorem at_some {l : List Int} (h : Rd25.channelOf l = some i) (f : Nat → Rd25.W → Rd25.W) (w : Rd25.W) : Rd25.at_ n l f w = f i w := by
  unfold Rd25.at_
  rw [h]
theorem doing_ready (W : WF S) {r : Nat} (hne : n ≠ r) : doing (readied S r) n = doing S n := by
  show doing (does_ S r .ready) n = _
  rw [doing_does W.nd, if_neg hne]
theorem inv_send (I : InvW0 M (S, o)) (h0 : doing S n = some .going) (l v : List Int) (hv : v.length ≤ 64) : InvW0 (M.standSend n l v) (Rd25.at_ n l (fun c => Rd25.sent n c v) (S, o)) := by
  unfold MS.standSend
  cases e : M.chanOf l with
  | none =>
    rw [chanOf_none I.inv e _ fun c hc => by unfold Rd25.sent; rw [show ((S, o) : Rd25.W).1 = S from rfl, hc]]
    exact I.wrong h0
  | some i =>
    obtain ⟨e1, c, k, hc, hk⟩ := chanOf_some I.inv e
    rw [at_some e1]
    unfold Rd25.sent
    rw [show ((S, o) : Rd25.W).1 = S from rfl, show ((S, o) : Rd25.W).2 = o from rfl, hk]
    dsimp only
    rw [hc]
    dsimp only
    obtain ⟨k', hk', k1, k2, k3, k4⟩ := I.inv.chs i c hc
    rw [hk] at hk'
    cases hk'
    have er' : Rd25.receivers S i = c.rcv := by rw [receivers_view]; exact k4.symm
    rw [er']
    cases er : c.rcv with
    | cons r rl =>
      dsimp only
      obtain ⟨hr, I1⟩ := (I.inv.order (ordV 0 r v)).readyRcv I.wf (c := c) hc er
      have hnr : n ≠ r := fun e => by rw [e, hr] at h0; cases h0
      have J1 : InvW0 ((M.setCh i { c with rcv := rl }).give 0 r v) (Rd25.hand r v (S, o)) := by
        refine ⟨I1, I.wf.ready hr (by intro e; cases e), ?_⟩
        show M.ords.map _ = _
        rw [I.ords, show (Rd25.hand r v (S, o)).2 = o ++ [(0, r, v)] from rfl, List.map_append]
        rfl
      exact J1.hand (S := readied S r) (o := o ++ [(0, r, v)]) (by rw [doing_ready I.wf hnr]; exact h0) q_going going_ne [0]
    | nil =>
      dsimp only
      obtain ⟨w1, w2, w3⟩ := I.wf.ch k (List.mem_of_getElem? hk)
      by_cases hl : k.held.length < k.most
      · rw [if_pos hl, if_pos (show ((c.kept.length : Nat) : Int) < c.room by rw [k1, k2]; omega)]
        have J1 : InvW0 (M.setCh i { c with kept := c.kept ++ [v] }) (Rd25.setChannel S i { k with held := k.held ++ [v] }, o) := by
          refine ⟨?_, I.wf.setKept hk ?_ fun x hx => ?_, I.ords⟩
          · rw [k2]
            exact I.inv.setKept hc hk _
          · rw [List.length_append]; show _ + 1 ≤ _; omega
          · rcases List.mem_append.mp hx with q | q
            · exact w3 x q
            · rw [List.mem_singleton.mp q]; exact hv
        have J2 := J1.hand (S := Rd25.setChannel S i { k with held := k.held ++ [v] }) h0 q_going going_ne [0]
        rw [er] at J2
        exact J2
      · rw [if_neg hl, if_neg (show ¬ ((c.kept.length : Nat) : Int) < c.room by rw [k1, k2]; omega)]
        have J2 := I.inv.toSend I.wf h0 q_going hc hv
        rw [er] at J2
        exact ⟨J2, I.wf.does h0 going_ne (fun u e => by cases e) (fun c' v' e => by cases e; exact lt_of_get hk) (fun c' e => by cases e), I.ords⟩
theorem inv_recv (I : InvW0 M (S, o)) (h0 : doing S n = some .going) (l : List Int) : InvW0 (M.standReceive n l) (Rd25.at_ n l (fun c => Rd25.received n c) (S, o)) := by
  unfold MS.standReceive
  cases e : M.chanOf l with
  | none =>
    rw [chanOf_none I.inv e _ fun c hc => by unfold Rd25.received; rw [show ((S, o) : Rd25.W).1 = S from rfl, hc]]
    exact I.wrong h0
  | some i =>
    obtain ⟨e1, c, k, hc, hk⟩ := chanOf_some I.inv e
    rw [at_some e1]
    unfold Rd25.received
    rw [show ((S, o) : Rd25.W).1 = S from rfl, show ((S, o) : Rd25.W).2 = o from rfl, hk]
    dsimp only
    rw [hc]
    dsimp only
    obtain ⟨k', hk', k1, k2, k3, k4⟩ := I.inv.chs i c hc
    rw [hk] at hk'
    cases hk'
    obtain ⟨w1, w2, w3⟩ := I.wf.ch k (List.mem_of_getElem? hk)
    have es : Rd25.senders S i = view (sendq i) S.tasks := senders_view S i
    cases ek : c.kept with
    | cons v l1 =>
      have ek' : k.held = v :: l1 := k2.symm.trans ek
      cases en : c.snd with
      | nil =>
        rw [recv1 ek en]
        have ev : Rd25.senders S i = [] := by
          rw [es]
          rw [en] at k3
          exact List.map_eq_nil_iff.mp k3.symm
        rw [ek', ev]
        dsimp only
        have J1 : InvW0 (M.setCh i { c with kept := l1 }) (Rd25.setChannel S i { k with held := l1 }, o) := by
          refine ⟨I.inv.setKept hc hk _, I.wf.setKept hk ?_ fun x hx => w3 x (by rw [ek']; exact List.mem_cons_of_mem _ hx), I.ords⟩
          rw [ek', List.length_cons] at w1; omega
        exact J1.hand (S := Rd25.setChannel S i { k with held := l1 }) h0 q_going going_ne v
      | cons u l2 =>
        rw [recv2 ek en]
        obtain ⟨hu, _, lv, hv⟩ := I.inv.readySnd I.wf hc en
        rw [ek', es, hv]
        dsimp only
        have J1 : InvW0 (M.setCh i { c with kept := l1 ++ [M.val u] }) (Rd25.setChannel S i { k with held := l1 ++ [M.val u] }, o) := by
          refine ⟨I.inv.setKept hc hk _, I.wf.setKept hk ?_ fun x hx => ?_, I.ords⟩
          · rw [ek', List.length_cons] at w1; rw [List.length_append]; show _ + 1 ≤ _; omega
          · rcases List.mem_append.mp hx with q | q
            · exact w3 x (by rw [ek']; exact List.mem_cons_of_mem _ q)
            · rw [List.mem_singleton.mp q]
              exact I.inv.vlen u (I.inv.mem.mpr (mem_keys (doing_mem hu)))
        have J2 := J1.hand (S := Rd25.setChannel S i { k with held := l1 ++ [M.val u] }) h0 q_going going_ne v
        have hun : u ≠ n := fun e => by rw [e, h0] at hu; cases hu
        generalize eS2 : Rd25.hand n v (Rd25.setChannel S i { k with held := l1 ++ [M.val u] }, o) = w2' at J2 ⊢
        obtain ⟨S2, o2⟩ := w2'
        have hu2 : doing S2 u = some (.sending i (M.val u)) := by
          have e3 : S2 = readied (Rd25.setChannel S i { k with held := l1 ++ [M.val u] }) n := (congrArg Prod.fst eS2).symm
          rw [e3, doing_ready J1.wf hun]
          exact hu
        have hc2 : ((M.setCh i { c with kept := l1 ++ [M.val u] }).give 0 n v).ch[i]? = some { c with kept := l1 ++ [M.val u] } := ch_self hc
        obtain ⟨_, I3, _⟩ := (J2.inv.order (ordV 0 u [0])).readySnd J2.wf (i := i) (c := { c with kept := l1 ++ [M.val u] }) hc2 en
        have eM : (((((M.setCh i { c with kept := l1 }).give 0 n v).setCh i { c with kept := l1, snd := l2 })).setCh i { c with kept := l1 ++ [M.val u], snd := l2 }).give 0 u [0] = (((((M.setCh i { c with kept := l1 ++ [M.val u] }).give 0 n v).order (ordV 0 u [0])).setCh i { c with kept := l1 ++ [M.val u], snd := l2 })).ready u := by
          simp only [MS.setCh, MS.give, MS.order, MS.ready, MS.setSt, List.set_set]
        rw [eM]
        refine ⟨I3, J2.wf.ready hu2 (by intro e; cases e), ?_⟩
        show (((M.setCh i { c with kept := l1 ++ [M.val u] }).give 0 n v).ords.map _) = _
        rw [J2.ords, show (Rd25.hand u Rd25.NOTHING (S2, o2)).2 = o2 ++ [(0, u, [0])] from rfl, List.map_append]
        rfl
    | nil =>
      have ek' : k.held = [] := k2.symm.trans ek
      cases en : c.snd with
      | cons u l2 =>
        rw [recv3 ek en]
        obtain ⟨hu, _, lv, hv⟩ := I.inv.readySnd I.wf hc en
        rw [ek', es, hv]
        dsimp only
        have J2 := I.hand h0 q_going going_ne (M.val u)
        have hun : u ≠ n := fun e => by rw [e, h0] at hu; cases hu
        generalize eS2 : Rd25.hand n (M.val u) (S, o) = w2' at J2 ⊢
        obtain ⟨S2, o2⟩ := w2'
        have hu2 : doing S2 u = some (.sending i (M.val u)) := by
          have e3 : S2 = readied S n := (congrArg Prod.fst eS2).symm
          rw [e3, doing_ready I.wf hun]
          exact hu
        have hc2 : (M.give 0 n (M.val u)).ch[i]? = some c := hc
        obtain ⟨_, I3, _⟩ := (J2.inv.order (ordV 0 u [0])).readySnd J2.wf (i := i) (c := c) hc2 en
        refine ⟨I3, J2.wf.ready hu2 (by intro e; cases e), ?_⟩
        show ((M.give 0 n (M.val u)).ords.map _) = _
        rw [J2.ords, show (Rd25.hand u Rd25.NOTHING (S2, o2)).2 = o2 ++ [(0, u, [0])] from rfl, List.map_append]
        rfl
      | nil =>
        rw [recv4 ek en]
        have ev : Rd25.senders S i = [] := by
          rw [es]
          rw [en] at k3
          exact List.map_eq_nil_iff.mp k3.symm
        rw [ek', ev]
        dsimp only
        exact ⟨I.inv.toRecv I.wf h0 q_going hc, I.wf.does h0 going_ne (fun u e => by cases e) (fun c' v' e => by cases e) (fun c' e => by cases e; exact lt_of_get hk), I.ords⟩
theorem inv_chan (I : InvW0 M (S, o)) (h0 : doing S n = some .going) (l : List Int) : InvW0 (M.standChannel n l) (Rd25.made n l (S, o)) := by
  unfold MS.standChannel
  split
  · rename_i z
    change InvW0 _ (if 0 ≤ z ∧ z ≤ 65536 ∧ S.channels.length < Rd25.MOST then Rd25.hand n [9, (S.channels.length : Int)] ({ S with channels := S.channels ++ [⟨z.toNat, []⟩] }, o) else Rd25.toss n (Rd25.whole (-1)) (S, o))
    by_cases h : (0 ≤ z ∧ z ≤ 65536) ∧ M.ch.length < 1000
    · have hl : S.channels.length < 1000 := by rw [← I.inv.chl]; exact h.2
      rw [if_pos h, if_pos ⟨h.1.1, h.1.2, hl⟩]
      have J1 : InvW0 (M.newChan z) ({ S with channels := S.channels ++ [⟨z.toNat, []⟩] }, o) := ⟨I.inv.newChan I.wf h.1.1, I.wf.newChan h.1 hl, I.ords⟩
      rw [I.inv.chl]
      exact J1.hand (S := { S with channels := S.channels ++ [⟨z.toNat, []⟩] }) h0 q_going going_ne _
    · rw [if_neg h, if_neg (fun q => h ⟨⟨q.1, q.2.1⟩, by rw [I.inv.chl]; exact q.2.2⟩)]
      exact I.wrong h0
  · rename_i hne
    have e : Rd25.wholeOf l = none := by
      unfold Rd25.wholeOf
      split
      · exact absurd rfl (hne _)
      · rfl
    unfold Rd25.made
    rw [e]
    exact I.wrong h0
theorem st_code (I : InvX ex M S) (h : doing S u = some d) : M.st u = (stateOf d).1 := (I.does u d (doing_mem h)).1
theorem inv_end (I : InvW0 M (S, o)) (h0 : doing S n = some .going) (l : List Int) : InvW0 (M.standEnd n l) (match Rd25.taskOf l with
    | some u => Rd25.joined n u (S, o)
    | none => Rd25.toss n (Rd25.whole (-1)) (S, o)) := by
  unfold MS.standEnd
  cases e : M.taskOf l with
  | none =>
    have : (match Rd25.taskOf l with
        | some u => Rd25.joined n u (S, o)
        | none => Rd25.toss n (Rd25.whole (-1)) (S, o)) = Rd25.toss n (Rd25.whole (-1)) (S, o) := by
      unfold Rd25.taskOf
      split
      · rename_i u hu
        split at hu
        · rename_i z
          split at hu
          · cases hu
          · rename_i hz
            have e1 : z.toNat = u := Option.some.inj hu
            have h' : (if 0 ≤ z ∧ z.toNat ∈ M.ks then some z.toNat else none) = none := e
            have hn : u ∉ M.ks := fun q => by
              rw [if_pos ⟨by omega, by rw [e1]; exact q⟩] at h'
              cases h'
            have hun : ¬ u = n := fun q => hn (by rw [q]; exact I.inv.mem.mpr (mem_keys (doing_mem h0)))
            have hd : doing S u = none := doing_none.mpr fun q => hn (I.inv.mem.mpr q)
            unfold Rd25.joined
            rw [if_neg hun, show ((S, o) : Rd25.W).1 = S from rfl, hd]
        · cases hu
      · rfl
    rw [this]
    exact I.wrong h0
  | some u =>
    have hu := taskOf_mem e
    have et : Rd25.taskOf l = some u := by
      unfold MS.taskOf MS.taskNo at e
      split at e
      · rename_i z
        split at e
        · rename_i hz
          show (if z < 0 then none else some z.toNat) = some u
          rw [if_neg (by omega)]
          exact e
        · cases e
      · cases e
    rw [et]
    dsimp only
    unfold Rd25.joined
    by_cases hun : u = n
    · rw [if_pos hun, if_pos hun]
      exact I.toss h0 q_going going_ne [2, -2]
    · rw [if_neg hun, if_neg hun]
      obtain ⟨d, hd⟩ := key_doing (I.inv.mem.mp hu)
      rw [show ((S, o) : Rd25.W).1 = S from rfl, hd]
      obtain ⟨s1, s2, s3⟩ := I.inv.does u d (doing_mem hd)
      have join : endedB M u = false → InvW0 (if endedB M u = true then M.tellEnd u n else (M.setSt n 5 u).setWt u (M.wt u ++ [n])) (does_ S n (.joining u), o) := fun h => by
        rw [h, if_neg (by decide)]
        exact ⟨I.inv.toJoin I.wf h0 q_going hu, I.wf.does h0 going_ne (fun u' e => by cases e; exact I.inv.mem.mp hu) (fun c v e => by cases e) (fun c e => by cases e), I.ords⟩
      cases d with
      | ended v =>
        dsimp only
        have e7 : M.st u = 7 := s1
        rw [if_pos (by rw [endedB, e7]; rfl), MS.tellEnd, if_pos e7, show M.val u = v from s3]
        exact I.hand h0 q_going going_ne v
      | thrown v =>
        dsimp only
        have e8 : M.st u = 8 := s1
        rw [if_pos (by rw [endedB, e8]; rfl), MS.tellEnd, if_neg (by rw [e8]; decide), show M.val u = v from s3]
        exact I.toss h0 q_going going_ne v
      | ready => exact join (by rw [endedB, s1]; rfl)
      | going => exact join (by rw [endedB, s1]; rfl)
      | spawning => exact join (by rw [endedB, s1]; rfl)
      | sending c v => exact join (by rw [endedB, s1]; rfl)
      | receiving c => exact join (by rw [endedB, s1]; rfl)
      | joining x => exact join (by rw [endedB, s1]; rfl)
      | sleeping x => exact join (by rw [endedB, s1]; rfl)
end
end TT
end
section
set_option Elab.async false
set_option linter.all false
set_option maxRecDepth 100000
set_option maxHeartbeats 2000000
namespace TT
open TS
open Rd25 (State Does doing does_ stateOf readied)
section
variable {ex : Nat → Prop} {M N : MS} {S : State} {o : List Rd25.Order} {t n i u : Nat} {d d0 : Does} {c : Ch}
theorem InvX.readyJoin (I : InvX (fun x => x = n) M S) (W : WF S) {l : List (Nat × Unit)} (hv : view (joinq n) S.tasks = (t, ()) :: l) : doing S t = some (.joining n) ∧ InvX (fun x => x = n) (M.ready t) (readied S t) ∧ view (joinq n) (readied S t).tasks = l := by
  obtain ⟨d0, hd, hq⟩ := mem_view.mp (show (t, ()) ∈ view (joinq n) S.tasks by rw [hv]; exact List.mem_cons_self)
  have ed := joinq_is hq
  subst ed
  have h0 := mem_doing W.nd hd
  have hu : ∀ d1, (t, d1) ∈ S.tasks → d1 = .joining n := fun d1 h => mem_unique W.nd h hd
  have hkk : t ∈ M.ks := I.mem.mpr (mem_keys hd)
  refine ⟨h0, I.move (M' := M.ready t) (S' := readied S t) W (mem_keys hd) .ready rfl rfl rfl rfl rfl rfl ?_ (fun m hn => ?_) ?_ I.chl (fun j c' h => ?_) fun m hm he => ?_, vd_head W.nd hv rfl⟩
  · show M.row ++ [t] = S.row ++ [t]
    rw [I.row]
  · exact ⟨if_neg hn, if_neg hn, rfl⟩
  · exact ⟨if_pos rfl, if_pos rfl, trivial, I.vlen t hkk⟩
  · rw [vd_none (fun d1 h => by rw [hu d1 h]; rfl) rfl, vd_none (fun d1 h => by rw [hu d1 h]; rfl) rfl]
    exact I.chs j c' h
  · rw [vd_none (fun d1 h => by rw [hu d1 h]; exact if_neg (Ne.symm he)) rfl]
    exact I.wt m hm he
def tellS (b : Bool) (v : List Int) (y : Rd25.W) (t : Nat) : Rd25.W := if b = true then Rd25.toss t v y else Rd25.hand t v y
theorem inv_tell (n : Nat) (b : Bool) (v : List Int) : ∀ (l : List (Nat × Unit)) (N : MS) (S : State) (o : List Rd25.Order), InvW (fun x => x = n) N (S, o) → view (joinq n) S.tasks = l → N.wt n = [] → doing S n = some (if b = true then .thrown v else .ended v) →
    InvW0 ((l.map (·.1)).foldl (fun N u => N.tellEnd n u) N) ((l.map (·.1)).foldl (tellS b v) (S, o)) ∧ ((l.map (·.1)).foldl (fun N u => N.tellEnd n u) N).clk = N.clk
  | [], N, S, o, I, hv, hw, hd => by
    refine ⟨⟨⟨I.inv.steps, I.inv.now, I.inv.row, I.inv.keys, I.inv.does, I.inv.vlen, I.inv.chl, I.inv.chs, fun m hm _ => ?_⟩, I.wf, I.ords⟩, rfl⟩
    by_cases h : m = n
    · subst h
      show N.wt m = (view (joinq m) S.tasks).map (·.1)
      rw [hw, hv]
      rfl
    · exact I.inv.wt m hm h
  | (t, ⟨⟩) :: l, N, S, o, I, hv, hw, hd => by
    obtain ⟨ht, _, hv2⟩ := I.inv.readyJoin I.wf hv
    have htn : n ≠ t := fun e => by
      rw [← e, hd] at ht
      cases b <;> cases ht
    obtain ⟨s1, s2, s3⟩ := I.inv.does n _ (doing_mem hd)
    have hd2 : doing (readied S t) n = some (if b = true then .thrown v else .ended v) := by rw [doing_ready I.wf htn]; exact hd
    have W2 : WF (readied S t) := I.wf.ready ht (by intro e; cases e)
    rw [List.map_cons, List.foldl_cons, List.foldl_cons]
    cases b with
    | false =>
      have e7 : N.st n = 7 := s1
      have ev : N.val n = v := s3
      have eN : N.tellEnd n t = N.give 0 t v := by rw [MS.tellEnd, if_pos e7, ev]
      rw [eN]
      obtain ⟨_, I2, _⟩ := (I.inv.order (ordV 0 t v)).readyJoin I.wf hv
      have J : InvW (fun x => x = n) (N.give 0 t v) (readied S t, o ++ [(0, t, v)]) := by
        refine ⟨I2, W2, ?_⟩
        show N.ords.map _ = _
        rw [I.ords, show ((readied S t, o ++ [(0, t, v)]) : Rd25.W).2 = o ++ [(0, t, v)] from rfl, List.map_append]
        rfl
      exact inv_tell n false v l (N.give 0 t v) (readied S t) (o ++ [(0, t, v)]) J hv2 hw hd2
    | true =>
      have e8 : N.st n = 8 := s1
      have ev : N.val n = v := s3
      have eN : N.tellEnd n t = N.give 1 t v := by rw [MS.tellEnd, if_neg (by rw [e8]; decide), ev]
      rw [eN]
      obtain ⟨_, I2, _⟩ := (I.inv.order (ordV 1 t v)).readyJoin I.wf hv
      have J : InvW (fun x => x = n) (N.give 1 t v) (readied S t, o ++ [(1, t, v)]) := by
        refine ⟨I2, W2, ?_⟩
        show N.ords.map _ = _
        rw [I.ords, show ((readied S t, o ++ [(1, t, v)]) : Rd25.W).2 = o ++ [(1, t, v)] from rfl, List.map_append]
        rfl
      exact inv_tell n true v l (N.give 1 t v) (readied S t) (o ++ [(1, t, v)]) J hv2 hw hd2
theorem inv_ends (I : InvW0 M (S, o)) (h0 : doing S n = some .going) (b : Bool) {code : Int} (hc : code = if b = true then 8 else 7) {v : List Int} (hv : v.length ≤ 64) :
    InvW0 (M.endT n code v) (Rd25.ends n b v (S, o)) ∧ (M.endT n code v).clk = M.clk := by
  have hk : n ∈ M.ks := I.inv.mem.mpr (mem_keys (doing_mem h0))
  have q : Quiet (if b = true then Does.thrown v else Does.ended v) := by
    cases b
    · exact q_ended
    · exact q_thrown
  have I1 : InvX (fun x => x = n) M S := ⟨I.inv.steps, I.inv.now, I.inv.row, I.inv.keys, I.inv.does, I.inv.vlen, I.inv.chl, I.inv.chs, fun m hm _ => I.inv.wt m hm id⟩
  have I2 : InvX (fun x => x = n) (((M.setSt n code 0).setVal n v).setWt n []) (does_ S n (if b = true then .thrown v else .ended v)) := by
    refine I1.quiet (M' := ((M.setSt n code 0).setVal n v).setWt n []) (S' := does_ S n (if b = true then .thrown v else .ended v)) I.wf h0 q_going q rfl rfl rfl rfl rfl rfl rfl I.inv.row rfl (fun m _ hm => if_neg hm) (fun m hm => ⟨if_neg hm, if_neg hm, if_neg hm⟩) ?_
    have e : (if n = n then v else M.val n) = v := if_pos rfl
    refine ⟨?_, ?_, ?_, ?_⟩
    · show (if n = n then code else _) = _
      rw [if_pos rfl, hc]
      cases b <;> rfl
    · show (if n = n then (0 : Int) else _) = _
      rw [if_pos rfl]
      cases b <;> rfl
    · show valOk (if n = n then v else M.val n) _
      rw [e]
      cases b <;> rfl
    · show (if n = n then v else M.val n).length ≤ 64
      rw [e]
      exact hv
  have W2 : WF (does_ S n (if b = true then .thrown v else .ended v)) := by
    refine I.wf.does h0 going_ne (fun u e => ?_) (fun c v' e => ?_) (fun c e => ?_) <;> cases b <;> cases e
  have J : InvW (fun x => x = n) (((M.setSt n code 0).setVal n v).setWt n []) (does_ S n (if b = true then .thrown v else .ended v), o) := ⟨I2, W2, I.ords⟩
  have ev : view (joinq n) (does_ S n (if b = true then .thrown v else .ended v)).tasks = view (joinq n) S.tasks := (quiet_views I.wf h0 q_going q).2.2 n
  have h := inv_tell n b v _ _ _ _ J rfl (if_pos rfl) (by rw [doing_does I.wf.nd, if_pos rfl])
  have ew : M.wt n = (view (joinq n) (does_ S n (if b = true then .thrown v else .ended v)).tasks).map (·.1) := by rw [ev]; exact I.inv.wt n hk id
  rw [← ew] at h
  refine ⟨?_, h.2⟩
  have es : Rd25.ends n b v (S, o) = (M.wt n).foldl (tellS b v) (does_ S n (if b = true then .thrown v else .ended v), o) := by
    unfold Rd25.ends
    dsimp only
    rw [joiners_view, ← ew]
    rfl
  rw [es]
  exact h.1
theorem till_is {now z : Int} {tm : Nat} (h : now = (tm : Int)) : tillOf now z = ((min ((tm : Int) + max z 0).toNat Rd25.LATE : Nat) : Int) := by
  subst h
  unfold tillOf
  have hl : Rd25.LATE = 4611686018427387904 := rfl
  rw [hl]
  dsimp only
  have e : (if 0 > z then (0 : Int) else z) = max z 0 := by
    by_cases h : 0 > z
    · rw [if_pos h]; omega
    · rw [if_neg h]; omega
  rw [e]
  split <;> omega
theorem inv_slept (I : Inv M S) (W : WF S) (ho : M.ords = some []) (h0 : doing S n = some .going) (z : Int) :
    InvW0 (if tillOf M.now z ≤ M.now then M.give 0 n [0] else M.setSt n 6 (tillOf M.now z)) (Rd25.slept n z S) := by
  have J : InvW0 M (S, []) := ⟨I, W, ho⟩
  have et := till_is (z := z) I.now
  unfold Rd25.slept
  dsimp only
  by_cases h : min ((S.time : Int) + max z 0).toNat Rd25.LATE ≤ S.time
  · rw [if_pos h, if_pos (by rw [et, I.now]; omega)]
    exact J.hand h0 q_going going_ne [0]
  · rw [if_neg h, if_neg (by rw [et, I.now]; omega)]
    exact ⟨I.setSt W h0 q_going q_sleeping rfl et.symm (fun _ => trivial), W.does h0 going_ne (fun u e => by cases e) (fun c v e => by cases e) (fun c e => by cases e), ho⟩
structure Ran (M' : MS) (rl : List Int) (p : Rd25.P) : Prop where
  clk : M'.clk = some (rl, (p.played rl).2.2.1.length)
  w : InvW0 M' ((p.played rl).1, (p.played rl).2.1.orders)
  val : (p.played rl).2.1.value = 0
theorem Ran.of {M' : MS} {rl : List Int} {w : Rd25.W} (h : InvW0 M' w) (hc : M'.clk = some (rl, 0)) : Ran M' rl (Rd25.answerW w 0) := ⟨hc, h, rfl⟩
theorem give_clk {k : Int} {v : List Int} : (M.give k n v).clk = M.clk := rfl
theorem standChannel_clk (l : List Int) : (M.standChannel n l).clk = M.clk := by
  unfold MS.standChannel
  split
  · split <;> rfl
  · rfl
theorem standSend_clk (l v : List Int) : (M.standSend n l v).clk = M.clk := by
  unfold MS.standSend
  split
  · rfl
  · split
    · rfl
    · split
      · rfl
      · split <;> rfl
theorem standReceive_clk (l : List Int) : (M.standReceive n l).clk = M.clk := by
  unfold MS.standReceive
  split
  · rfl
  · split
    · rfl
    · unfold MS.recvAt
      split <;> rfl
theorem standEnd_clk (l : List Int) : (M.standEnd n l).clk = M.clk := by
  unfold MS.standEnd
  split
  · rfl
  · split
    · rfl
    · split
      · unfold MS.tellEnd
        split <;> rfl
      · rfl
theorem headD_getD (l : List Int) : l.headD 0 = l.getD 0 0 := by cases l <;> rfl
theorem inv_stand (I : Inv M S) (W : WF S) (ho : M.ords = some []) {rl : List Int} (hc : M.clk = some (rl, 0)) (h0 : doing S n = some .going) {z : Int} (h1 : 41 ≤ z) (h2 : z ≤ 47) (vs : List (List Int)) (hv : ∀ v ∈ vs, v.length ≤ 64) :
    Ran (M.stand n z vs) rl (Rd25.stands S n z.toNat vs) := by
  have J : InvW0 M (S, []) := ⟨I, W, ho⟩
  have hv1 : (vs.getD 1 []).length ≤ 64 := by
    rw [List.getD_eq_getElem?_getD]
    cases e : vs[1]? with
    | none => exact Nat.zero_le _
    | some v => exact hv v (List.mem_of_getElem? e)
  unfold MS.stand Rd25.stands
  dsimp only
  by_cases e1 : z = 41
  · rw [if_pos e1, if_pos (by omega)]
    refine ⟨hc, ⟨(I.setSt W h0 q_going q_spawning rfl rfl (fun _ => trivial)).order _, W.does h0 going_ne (fun u e => by cases e) (fun c v e => by cases e) (fun c e => by cases e), ?_⟩, rfl⟩
    show M.ords.map _ = _
    rw [ho]
    rfl
  rw [if_neg e1, if_neg (show ¬ z.toNat = 41 by omega)]
  by_cases e2 : z = 42
  · rw [if_pos e2, if_pos (by omega)]
    exact Ran.of (J.hand h0 q_going going_ne [0]) hc
  rw [if_neg e2, if_neg (show ¬ z.toNat = 42 by omega)]
  by_cases e3 : z = 43
  · rw [if_pos e3, if_pos (by omega)]
    exact Ran.of (inv_chan J h0 _) (by rw [standChannel_clk]; exact hc)
  rw [if_neg e3, if_neg (show ¬ z.toNat = 43 by omega)]
  by_cases e4 : z = 44
  · rw [if_pos e4, if_pos (by omega)]
    exact Ran.of (inv_send J h0 _ _ hv1) (by rw [standSend_clk]; exact hc)
  rw [if_neg e4, if_neg (show ¬ z.toNat = 44 by omega)]
  by_cases e5 : z = 45
  · rw [if_pos e5, if_pos (by omega)]
    exact Ran.of (inv_recv J h0 _) (by rw [standReceive_clk]; exact hc)
  rw [if_neg e5, if_neg (show ¬ z.toNat = 45 by omega)]
  by_cases e6 : z = 46
  · rw [if_pos e6, if_pos (by omega)]
    exact Ran.of (inv_end J h0 _) (by rw [standEnd_clk]; exact hc)
  rw [if_neg e6, if_neg (show ¬ z.toNat = 46 by omega)]
  generalize vs.getD 0 [] = l
  unfold MS.standSleep
  split
  · rename_i y
    have er : M.reply = rl.headD 0 := by rw [MS.reply, hc]; exact (headD_getD rl).symm
    have I2 : Inv M.heard (Rd25.toldTime S (rl.headD 0)) := by
      have := (I.ask).hear M.reply
      rw [er] at this
      unfold MS.heard
      rw [er]
      exact this
    have W2 := W.told (rl.headD 0)
    have h02 : doing (Rd25.toldTime S (rl.headD 0)) n = some .going := by
      rw [show doing (Rd25.toldTime S (rl.headD 0)) n = doing S n by unfold Rd25.toldTime; split <;> rfl]
      exact h0
    have J2 := inv_slept I2 W2 (show M.heard.ords = some [] from ho) h02 y
    have hck : (if tillOf M.heard.now y ≤ M.heard.now then M.heard.give 0 n [0] else M.heard.setSt n 6 (tillOf M.heard.now y)).clk = some (rl, 1) := by
      have e : M.heard.clk = some (rl, 1) := by show M.clk.map _ = _; rw [hc]; rfl
      split <;> exact e
    exact ⟨hck, J2, rfl⟩
  · rename_i hne
    have e : Rd25.wholeOf l = none := by
      unfold Rd25.wholeOf
      split
      · exact absurd rfl (hne _)
      · rfl
    rw [e]
    exact Ran.of (J.wrong h0) hc
end
end TT
end
section
set_option Elab.async false
set_option linter.all false
set_option maxRecDepth 100000
set_option maxHeartbeats 2000000
namespace TT
open TS
open Rd25 (State Does doing does_ stateOf readied)
structure CallEnd (M' : MS) (out : List Int) (rl : List Int) (S : State) (c : Rd25.Call) : Prop where
  inv : Inv M' ((Rd25.spec S c).played rl).1
  wf : WF ((Rd25.spec S c).played rl).1
  clk : M'.clk = some (rl, ((Rd25.spec S c).played rl).2.2.1.length)
  no : M'.ords = none
  out : out = ((Rd25.spec S c).played rl).2.1.value :: Rd25Neutral.told c ((Rd25.spec S c).played rl).2.1
section
variable {M : MS} {S : State} {rl : List Int} {n : Nat}
theorem CallEnd.just {c : Rd25.Call} {v : Int} (I : Inv M S) (W : WF S) (hc : M.clk = some (rl, 0)) (no : M.ords = none) (hv : v < 0) (e : Rd25.spec S c = Rd25.just S v) : CallEnd M [v] rl S c := by
  constructor
  · rw [e]; exact I
  · rw [e]; exact W
  · rw [e]; exact hc
  · exact no
  · rw [e]
    show [v] = v :: Rd25Neutral.told c { value := v }
    unfold Rd25Neutral.told
    rw [if_pos hv]
theorem told_orders {a : Rd25.Ans} {M' : MS} (h : M'.ords = some (a.orders.map encO)) : M'.told = Rd25Neutral.orders a := by
  rw [told_is h, List.length_map]
  show _ = (a.orders.length : Int) :: a.orders.flatMap encO
  rw [List.flatMap_def]
theorem inv_begin (I : Inv M S) (W : WF S) (hc : M.clk = some (rl, 0)) (no : M.ords = none) (z : Int) : CallEnd (M.beginM z).1 (M.beginM z).2 rl S (.begin_ z) := by
  unfold MS.beginM
  by_cases h : 1 ≤ z ∧ z ≤ 100000
  · rw [if_pos h]
    have e : Rd25.spec S (.begin_ z) = Rd25.just { steps := z.toNat } 0 := by
      show (if z < 1 ∨ 100000 < z then _ else _) = _
      rw [if_neg (by omega)]
    constructor
    · rw [e]
      refine ⟨by show z = ((z.toNat : Nat) : Int); omega, rfl, rfl, List.Perm.refl _, (fun n d h => nomatch h), (fun n h => nomatch h), rfl, (fun i c h => nomatch h), (fun n h => nomatch h)⟩
    · rw [e]
      exact ⟨List.nodup_nil, (fun n h => nomatch h), List.nodup_nil, (fun n h => nomatch h), (fun t u h => nomatch h), (fun t c v h => nomatch h), (fun t c h => nomatch h), (fun k h => nomatch h), Nat.zero_le _, Nat.zero_le _, Nat.zero_le _⟩
    · rw [e]; exact hc
    · exact no
    · rw [e]; rfl
  · rw [if_neg h]
    refine CallEnd.just I W hc no (by decide) ?_
    show (if z < 1 ∨ 100000 < z then _ else _) = _
    rw [if_pos (by omega)]
theorem InvX.add (I : Inv M S) (hn : n ∉ TS.keys S) (W : WF S) : Inv (M.add n) (readied S n) := by
  have hu : ∀ d1, (n, d1) ∈ S.tasks → False := fun d1 h => hn (mem_keys h)
  have hnk : n ∉ M.ks := fun h => hn (I.mem.mp h)
  have ek : TS.keys (readied S n) = TS.keys S ++ [n] := by
    show TS.keys (does_ S n .ready) = _
    rw [keys_does, filter_all fun x hx => ?_]
    rw [bne_iff_ne]
    intro e
    subst e
    exact hn hx
  refine ⟨I.steps, I.now, ?_, ?_, fun m d h => ?_, fun m hm => ?_, I.chl, fun i c h => ?_, fun m hm he => ?_⟩
  · show M.row ++ [n] = S.row ++ [n]
    rw [I.row]
  · show (M.ks ++ [n]).Perm (TS.keys (readied S n))
    rw [ek]
    exact I.keys.append_right [n]
  · rcases mem_does.mp (show (m, d) ∈ (does_ S n .ready).tasks from h) with ⟨h1, h2⟩ | ⟨rfl, rfl⟩
    · obtain ⟨q1, q2, q3⟩ := I.does m d h2
      exact ⟨(if_neg h1).trans q1, (if_neg h1).trans q2, by show valOk (if m = n then [0] else M.val m) d; rw [if_neg h1]; exact q3⟩
    · exact ⟨if_pos rfl, if_pos rfl, trivial⟩
  · show (if m = n then [0] else M.val m).length ≤ 64
    by_cases h : m = n
    · rw [if_pos h]; decide
    · rw [if_neg h]
      rcases List.mem_append.mp (show m ∈ M.ks ++ [n] from hm) with q | q
      · exact I.vlen m q
      · exact absurd (List.mem_singleton.mp q) h
  · show ∃ k, S.channels[i]? = some k ∧ _ ∧ _ ∧ c.snd = (view (sendq i) (does_ S n .ready).tasks).map _ ∧ c.rcv = (view (recvq i) (does_ S n .ready).tasks).map _
    rw [vd_none (fun d1 h => (hu d1 h).elim) rfl, vd_none (fun d1 h => (hu d1 h).elim) rfl]
    exact I.chs i c h
  · show (if m = n then [] else M.wt m) = (view (joinq m) (does_ S n .ready).tasks).map _
    rw [vd_none (fun d1 h => (hu d1 h).elim) rfl]
    by_cases h : m = n
    · subst h
      rw [if_pos rfl, view_none fun x d hd => ?_]
      · rfl
      · cases hq : joinq m d with
        | none => rfl
        | some _ =>
          have e := joinq_is hq
          subst e
          exact absurd (W.join x m hd) hn
    · rw [if_neg h]
      rcases List.mem_append.mp (show m ∈ M.ks ++ [n] from hm) with q | q
      · exact I.wt m q he
      · exact absurd (List.mem_singleton.mp q) h
theorem WF.add (W : WF S) (hn : n ∉ TS.keys S) (hl : n < 4294967296) (ht : S.tasks.length < 1000) : WF (readied S n) := by
  refine W.move (S' := readied S n) (d := .ready) (.inr ⟨hl, ht⟩) rfl ?_ (fun m hm => ?_) (fun u e => by cases e) (Nat.le_refl _) (fun c v e => by cases e) (fun c e => by cases e) W.ch W.nc W.tm
  · show (S.row ++ [n]).Nodup
    rw [List.nodup_append]
    refine ⟨W.rnd, by simp, fun a ha b hb e => ?_⟩
    rw [List.mem_singleton] at hb
    subst hb e
    exact hn (mem_keys (doing_mem (W.rdy a ha)))
  · rcases List.mem_append.mp (show m ∈ S.row ++ [n] from hm) with h | h
    · by_cases e : m = n
      · exact .inr ⟨e, rfl⟩
      · exact .inl ⟨e, h⟩
    · exact .inr ⟨List.mem_singleton.mp h, rfl⟩
theorem okTask_iff {z : Int} : Rd25.okTask z = true ↔ 0 ≤ z ∧ z ≤ 4294967295 := by
  unfold Rd25.okTask
  rw [Bool.and_eq_true, decide_eq_true_eq, decide_eq_true_eq]
  have : (2 : Int) ^ 32 = 4294967296 := by decide
  rw [this]
  omega
theorem okTask_not {z : Int} (h : ¬ (0 ≤ z ∧ z ≤ 4294967295)) : Rd25.okTask z = false := by
  cases e : Rd25.okTask z with
  | false => rfl
  | true => exact absurd (okTask_iff.mp e) h
theorem inv_add (I : Inv M S) (W : WF S) (hc : M.clk = some (rl, 0)) (no : M.ords = none) (z : Int) : CallEnd (M.addM z).1 (M.addM z).2 rl S (.add z) := by
  unfold MS.addM
  have es : Rd25.spec S (.add z) = if Rd25.okTask z = false then Rd25.just S (-8) else if (doing S z.toNat).isSome = true then Rd25.just S (-3) else if Rd25.MOST ≤ S.tasks.length then Rd25.just S (-5) else Rd25.just (readied S z.toNat) 0 := rfl
  by_cases h : 0 ≤ z ∧ z ≤ 4294967295
  · rw [if_neg (fun q => q h)]
    rw [if_neg (by rw [okTask_iff.mpr h]; decide)] at es
    by_cases hk : z.toNat ∈ M.ks
    · rw [if_pos hk]
      obtain ⟨d, hd⟩ := key_doing (I.mem.mp hk)
      rw [hd, if_pos (show (some d).isSome = true from rfl)] at es
      exact CallEnd.just I W hc no (by decide) es
    · rw [if_neg hk]
      have hk' : z.toNat ∉ keys S := fun q => hk (I.mem.mpr q)
      rw [doing_none.mpr hk', if_neg (by decide)] at es
      have el : M.ks.length = S.tasks.length := by rw [I.keys.length_eq, ← tasks_len]
      by_cases hl : 1000 ≤ M.ks.length
      · rw [if_pos hl]
        rw [if_pos (show Rd25.MOST ≤ S.tasks.length by rw [← el]; exact hl)] at es
        exact CallEnd.just I W hc no (by decide) es
      · rw [if_neg hl]
        rw [if_neg (show ¬ Rd25.MOST ≤ S.tasks.length by rw [← el]; exact hl)] at es
        constructor
        · rw [es]; exact I.add hk' W
        · rw [es]; exact W.add hk' (by omega) (by omega)
        · rw [es]; exact hc
        · exact no
        · rw [es]; rfl
  · rw [if_pos h]
    rw [if_pos (okTask_not h)] at es
    exact CallEnd.just I W hc no (by decide) es
theorem okV_is {v : List Int} (hb : ∀ x ∈ v, -9223372036854775808 ≤ x ∧ x ≤ 9223372036854775807) : Rd25.okV v = isValB v := by
  unfold Rd25.okV isValB
  have e : (v.all fun z => decide (-(2 ^ 63) ≤ z) && decide (z < 2 ^ 63)) = true := by
    rw [List.all_eq_true]
    intro x hx
    obtain ⟨h1, h2⟩ := hb x hx
    rw [Bool.and_eq_true, decide_eq_true_eq, decide_eq_true_eq]
    have : (2 : Int) ^ 63 = 9223372036854775808 := by decide
    rw [this]
    omega
  rw [e, Bool.and_true]
theorem all_okV {vs : List (List Int)} (hb : ∀ v ∈ vs, ∀ x ∈ v, -9223372036854775808 ≤ x ∧ x ≤ 9223372036854775807) : vs.all Rd25.okV = vs.all isValB := by
  induction vs with
  | nil => rfl
  | cons v vs ih =>
    rw [List.all_cons, List.all_cons, okV_is (hb v List.mem_cons_self), ih fun w hw => hb w (List.mem_cons_of_mem _ hw)]
theorem okRan_iff {why z : Int} {vs : List (List Int)} (hb : ∀ v ∈ vs, ∀ x ∈ v, -9223372036854775808 ≤ x ∧ x ≤ 9223372036854775807) : Rd25.okRan why z vs = true ↔ (vs.length : Int) = wantedR why z ∧ vs.all isValB = true := by
  unfold Rd25.okRan wantedR
  by_cases h0 : why = 0
  · rw [if_pos h0, if_pos h0]
    constructor
    · intro h
      have : vs = [] := List.isEmpty_iff.mp h
      subst this
      exact ⟨rfl, rfl⟩
    · rintro ⟨h, _⟩
      cases vs with
      | nil => rfl
      | cons a l => rw [List.length_cons] at h; omega
  rw [if_neg h0, if_neg h0]
  by_cases h1 : why = 1 ∨ why = 2
  · rw [if_pos h1, if_pos h1, Bool.and_eq_true, decide_eq_true_eq, all_okV hb]
    constructor
    · rintro ⟨a, b⟩; exact ⟨by omega, b⟩
    · rintro ⟨a, b⟩; exact ⟨by omega, b⟩
  rw [if_neg h1, if_neg h1]
  by_cases h3 : why = 3
  · rw [if_pos h3, if_pos h3]
    unfold Rd25.okStand wantedN Rd25.taken
    rw [Bool.and_eq_true, Bool.and_eq_true, Bool.and_eq_true, decide_eq_true_eq, decide_eq_true_eq, decide_eq_true_eq, all_okV hb]
    constructor
    · rintro ⟨a, b, c, d⟩
      refine ⟨?_, d⟩
      by_cases e1 : z = 41 ∨ z = 42
      · rw [if_pos (by omega)] at c
        rw [if_pos e1, c]
        rfl
      · rw [if_neg (by omega)] at c
        rw [if_neg e1]
        by_cases e2 : z = 44
        · rw [if_pos (by omega)] at c
          rw [if_pos e2, c]
          rfl
        · rw [if_neg (by omega)] at c
          rw [if_neg e2, if_pos (by omega), c]
          rfl
    · rintro ⟨a, d⟩
      by_cases e1 : z = 41 ∨ z = 42
      · rw [if_pos e1] at a
        exact ⟨by omega, by omega, by rw [if_pos (by omega)]; omega, d⟩
      · rw [if_neg e1] at a
        by_cases e2 : z = 44
        · rw [if_pos e2] at a
          exact ⟨by omega, by omega, by rw [if_neg (by omega), if_pos (by omega)]; omega, d⟩
        · rw [if_neg e2] at a
          by_cases e3 : 43 ≤ z ∧ z ≤ 47
          · rw [if_pos e3] at a
            exact ⟨by omega, by omega, by rw [if_neg (by omega), if_neg (by omega)]; omega, d⟩
          · rw [if_neg e3] at a
            omega
  · rw [if_neg h3, if_neg h3]
    constructor
    · intro h; cases h
    · rintro ⟨a, _⟩; omega
theorem st_going (I : Inv M S) (hn : n ∈ M.ks) : M.st n = 1 ↔ doing S n = some .going := by
  obtain ⟨d, hd⟩ := key_doing (I.mem.mp hn)
  have h := (I.does n d (doing_mem hd)).1
  rw [hd, h]
  constructor
  · intro e
    cases d <;> first | rfl | (exfalso; revert e; simp [stateOf])
  · intro e
    cases e
    rfl
theorem Ran.end_ {M' : MS} {p : Rd25.P} {z why at_ : Int} {vs : List (List Int)} (h : Ran M' rl p) (e : Rd25.spec S (.ran z why at_ vs) = p) : CallEnd M'.close (0 :: M'.told) rl S (.ran z why at_ vs) := by
  obtain ⟨h1, h2, h3⟩ := h
  subst e
  refine ⟨h2.inv.close, h2.wf, h1, rfl, ?_⟩
  rw [h3]
  unfold Rd25Neutral.told
  rw [h3, if_neg (by decide)]
  show 0 :: M'.told = 0 :: Rd25Neutral.orders _
  rw [told_orders h2.ords]
theorem inv_ran (I : Inv M S) (W : WF S) (hc : M.clk = some (rl, 0)) (no : M.ords = none) (z why at_ : Int) (vs : List (List Int)) (hb : ∀ v ∈ vs, ∀ x ∈ v, -9223372036854775808 ≤ x ∧ x ≤ 9223372036854775807) :
    CallEnd (M.ranM z why at_ vs).1 (M.ranM z why at_ vs).2 rl S (.ran z why at_ vs) := by
  have es : Rd25.spec S (.ran z why at_ vs) = if (Rd25.okTask z && Rd25.okRan why at_ vs) = false ∨ doing S z.toNat ≠ some .going then Rd25.just S (-8) else
      if why = 0 then Rd25.just (readied S z.toNat) 0 else if why = 3 then Rd25.stands S z.toNat at_.toNat vs else Rd25.answerW (Rd25.ends z.toNat (decide (why = 2)) (vs.getD 0 []) (S, [])) 0 := rfl
  unfold MS.ranM
  cases en : M.taskNo z with
  | none =>
    refine CallEnd.just I W hc no (by decide) (es.trans (if_pos ?_))
    unfold MS.taskNo at en
    split at en
    · cases en
    · rename_i h
      by_cases h0 : 0 ≤ z
      · refine .inr fun q => h ⟨h0, I.mem.mpr (mem_keys (doing_mem q))⟩
      · refine .inl ?_
        rw [okTask_not fun q => h0 q.1]
        rfl
  | some n =>
    unfold MS.taskNo at en
    split at en
    · rename_i h
      have e : z.toNat = n := Option.some.inj en
      dsimp only
      have hn : n ∈ M.ks := by rw [← e]; exact h.2
      have hlt := W.lt n (I.mem.mp hn)
      have ok : Rd25.okTask z = true := okTask_iff.mpr ⟨h.1, by omega⟩
      rw [e, ok, Bool.true_and] at es
      by_cases hg : M.st n = 1 ∧ (vs.length : Int) = wantedR why at_ ∧ vs.all isValB = true
      · rw [if_pos hg]
        have h0 := (st_going I hn).mp hg.1
        have hok := (okRan_iff hb).mpr hg.2
        rw [if_neg (fun q => q.elim (fun q => by rw [hok] at q; cases q) (fun q => q h0))] at es
        have hv : ∀ v ∈ vs, v.length ≤ 64 := fun v hv => by
          have q := List.all_eq_true.mp hg.2.2 v hv
          simp only [isValB, Bool.and_eq_true, decide_eq_true_eq] at q
          exact q.2
        have hv0 : (vs.getD 0 []).length ≤ 64 := by
          rw [List.getD_eq_getElem?_getD]
          cases e : vs[0]? with
          | none => exact Nat.zero_le _
          | some v => exact hv v (List.mem_of_getElem? e)
        have I0 : Inv M.open S := I.open
        have J0 : InvW0 M.open (S, []) := ⟨I0, W, rfl⟩
        have hc0 : M.open.clk = some (rl, 0) := hc
        unfold MS.ranGo
        by_cases y0 : why = 0
        · rw [if_pos y0] at es ⊢
          refine Ran.end_ (p := Rd25.just (readied S n) 0) ⟨hc0, ⟨I0.ready W h0 q_going, W.ready h0 going_ne, rfl⟩, rfl⟩ es
        rw [if_neg y0] at es ⊢
        by_cases y1 : why = 1
        · rw [if_pos y1]
          rw [if_neg (by omega), show decide (why = 2) = false from decide_eq_false (by omega)] at es
          obtain ⟨J, hk⟩ := inv_ends J0 h0 false (code := 7) rfl hv0
          exact Ran.end_ (Ran.of J (hk.trans hc0)) es
        rw [if_neg y1]
        by_cases y2 : why = 2
        · rw [if_pos y2]
          rw [if_neg (by omega), show decide (why = 2) = true from decide_eq_true y2] at es
          obtain ⟨J, hk⟩ := inv_ends J0 h0 true (code := 8) rfl hv0
          exact Ran.end_ (Ran.of J (hk.trans hc0)) es
        rw [if_neg y2]
        have y3 : why = 3 := by
          by_cases y : why = 3
          · exact y
          · have := hg.2.1
            rw [wantedR, if_neg y0, if_neg (by omega), if_neg y] at this
            omega
        rw [if_pos y3] at es
        have hw : 41 ≤ at_ ∧ at_ ≤ 47 := by
          have q := hok
          unfold Rd25.okRan at q
          rw [if_neg y0, if_neg (by omega), if_pos y3] at q
          unfold Rd25.okStand at q
          rw [Bool.and_eq_true, Bool.and_eq_true, decide_eq_true_eq, decide_eq_true_eq] at q
          exact ⟨q.1, q.2.1⟩
        exact Ran.end_ (inv_stand I0 W rfl hc0 h0 hw.1 hw.2 vs hv) es
      · rw [if_neg hg]
        refine CallEnd.just I W hc no (by decide) (es.trans (if_pos ?_))
        by_cases q : M.st n = 1
        · refine .inl ?_
          cases hok : Rd25.okRan why at_ vs with
          | false => rfl
          | true => exact absurd ⟨q, (okRan_iff hb).mp hok⟩ hg
        · exact .inr fun q' => q ((st_going I hn).mpr q')
    · cases en
end
end TT
end
section
set_option Elab.async false
set_option linter.all false
set_option maxRecDepth 100000
set_option maxHeartbeats 2000000
namespace TT
open TS
open Rd25 (State Does doing does_ stateOf readied)
def ltp (x y : Nat × Nat) : Prop := x.1 < y.1 ∨ (x.1 = y.1 ∧ x.2 < y.2)
theorem least_nil {l : List (Nat × Nat)} (h : Rd25.least l = none) : l = [] := by
  cases l with
  | nil => rfl
  | cons x r =>
    unfold Rd25.least at h
    split at h
    · cases h
    · split at h <;> cases h
theorem least_min : ∀ (l : List (Nat × Nat)) (x : Nat × Nat), Rd25.least l = some x → x ∈ l ∧ ∀ y ∈ l, ¬ ltp y x
  | [], x, h => by cases h
  | a :: r, x, h => by
    unfold Rd25.least at h
    split at h
    · rename_i e
      have er := least_nil e
      subst er
      have e2 : a = x := Option.some.inj h
      subst e2
      refine ⟨List.mem_cons_self, fun y hy => ?_⟩
      rw [List.mem_singleton.mp hy]
      unfold ltp
      omega
    · rename_i y e
      obtain ⟨h1, h2⟩ := least_min r y e
      split at h
      · rename_i hlt
        have e2 : a = x := Option.some.inj h
        subst e2
        refine ⟨List.mem_cons_self, fun z hz => ?_⟩
        rcases List.mem_cons.mp hz with rfl | hz
        · unfold ltp; omega
        · have := h2 z hz
          unfold ltp at this ⊢
          omega
      · rename_i hlt
        have e2 : y = x := Option.some.inj h
        subst e2
        refine ⟨List.mem_cons_of_mem _ h1, fun z hz => ?_⟩
        rcases List.mem_cons.mp hz with rfl | hz
        · exact hlt
        · exact h2 z hz
theorem ltp_eq {x y : Nat × Nat} (h1 : ¬ ltp x y) (h2 : ¬ ltp y x) : x = y := by
  obtain ⟨a, b⟩ := x
  obtain ⟨c, d⟩ := y
  unfold ltp at h1 h2
  dsimp only at h1 h2
  have e1 : a = c := by omega
  have e2 : b = d := by omega
  rw [e1, e2]
section
variable {ex : Nat → Prop} {M N : MS} {S : State} {o : List Rd25.Order} {rl : List Int} {n : Nat}
theorem sleepq_is {d : Does} {t : Nat} (h : sleepq d = some t) : d = .sleeping t := by
  cases d <;> simp only [sleepq] at h <;> first | cases h | skip
  rfl
theorem mem_sleepers {t : Nat} : (t, n) ∈ Rd25.sleepers S ↔ (n, Does.sleeping t) ∈ S.tasks := by
  rw [sleepers_view, List.mem_map]
  constructor
  · rintro ⟨⟨m, t'⟩, h, e⟩
    obtain ⟨d, h1, h2⟩ := mem_view.mp h
    have e1 := congrArg Prod.fst e
    have e2 := congrArg Prod.snd e
    dsimp only at e1 e2
    subst e1 e2
    rw [← sleepq_is h2]
    exact h1
  · intro h
    exact ⟨(n, t), mem_view.mpr ⟨_, h, rfl⟩, rfl⟩
structure Asleep (N : MS) (S : State) (l : List Nat) : Prop where
  iff : ∀ n, n ∈ l ↔ ∃ t, (n, Does.sleeping t) ∈ S.tasks
  nd : l.Nodup
  ord : l.Pairwise fun x y => ¬ slLt N y x
theorem tg_sleep (I : InvX ex N S) {t : Nat} (h : (n, Does.sleeping t) ∈ S.tasks) : N.tg n = (t : Int) := (I.does n _ h).2.1
theorem Sleep.asleep {l : List Nat} (s : Sleep N l) (I : Inv N S) (W : WF S) : Asleep N S l := by
  have ndk : N.ks.Nodup := I.keys.nodup_iff.mpr W.nd
  refine ⟨fun n => ?_, s.perm.nodup_iff.mpr (ndk.filter _), s.ord⟩
  rw [s.perm.mem_iff, List.mem_filter, decide_eq_true_eq]
  constructor
  · rintro ⟨h1, h2⟩
    obtain ⟨d, hd⟩ := key_doing (I.mem.mp h1)
    have h := (I.does n d (doing_mem hd)).1
    rw [h2] at h
    cases d with
    | sleeping t => exact ⟨t, doing_mem hd⟩
    | _ => exact absurd h (by simp [stateOf])
  · rintro ⟨t, h⟩
    exact ⟨I.mem.mpr (mem_keys h), (I.does n _ h).1⟩
theorem fold_late : ∀ (l : List Nat) (N : MS), (∀ n ∈ l, ¬ N.tg n ≤ N.now) → l.foldl MS.wake1 N = N
  | [], N, _ => rfl
  | n :: l, N, h => by
    have e : N.wake1 n = N := by rw [MS.wake1, if_neg (h n List.mem_cons_self)]
    rw [List.foldl_cons, e]
    exact fold_late l N fun m hm => h m (List.mem_cons_of_mem _ hm)
theorem inv_woken : ∀ (l : List Nat) (N : MS) (S : State) (o : List Rd25.Order) (f : Nat), InvW0 N (S, o) → Asleep N S l → l.length < f → InvW0 (l.foldl MS.wake1 N) (Rd25.woken f (S, o)) ∧ (l.foldl MS.wake1 N).clk = N.clk
  | [], N, S, o, f, I, A, hf => by
    obtain ⟨f', rfl⟩ : ∃ f', f = f' + 1 := ⟨f - 1, by simp at hf; omega⟩
    have es : Rd25.sleepers S = [] := by
      rw [List.eq_nil_iff_forall_not_mem]
      rintro ⟨t, n⟩ h
      exact nomatch (A.iff n).mpr ⟨t, mem_sleepers.mp h⟩
    have e : Rd25.woken (f' + 1) (S, o) = (S, o) := by
      unfold Rd25.woken
      rw [show ((S, o) : Rd25.W).1 = S from rfl, es]
      rfl
    rw [e]
    exact ⟨I, rfl⟩
  | n :: l, N, S, o, f, I, A, hf => by
    obtain ⟨f', rfl⟩ : ∃ f', f = f' + 1 := ⟨f - 1, by simp at hf; omega⟩
    obtain ⟨t, ht⟩ := (A.iff n).mp List.mem_cons_self
    have et := tg_sleep I.inv ht
    have en : N.now = (S.time : Int) := I.inv.now
    have hno := List.pairwise_cons.mp A.ord
    have hnd := List.nodup_cons.mp A.nd
    have hmin : ∀ t' m, (m, Does.sleeping t') ∈ S.tasks → ¬ ltp (t', m) (t, n) := fun t' m hm => by
      have em := tg_sleep I.inv hm
      rcases List.mem_cons.mp ((A.iff m).mpr ⟨t', hm⟩) with e | e
      · subst e
        unfold ltp
        dsimp only
        omega
      · have h := hno.1 m e
        unfold slLt at h
        unfold ltp
        dsimp only
        omega
    by_cases hle : N.tg n ≤ N.now
    · have hle' : t ≤ S.time := by omega
      have e1 : N.wake1 n = N.give 0 n [0] := by rw [MS.wake1, if_pos hle]
      have el : Rd25.least ((Rd25.sleepers S).filter fun x => decide (x.1 ≤ S.time)) = some (t, n) := by
        have hin : (t, n) ∈ (Rd25.sleepers S).filter fun x => decide (x.1 ≤ S.time) := List.mem_filter.mpr ⟨mem_sleepers.mpr ht, by simpa using hle'⟩
        cases e : Rd25.least ((Rd25.sleepers S).filter fun x => decide (x.1 ≤ S.time)) with
        | none => rw [least_nil e] at hin; exact nomatch hin
        | some x =>
          obtain ⟨h1, h2⟩ := least_min _ x e
          obtain ⟨t', m⟩ := x
          have h3 := hmin t' m (mem_sleepers.mp (List.mem_filter.mp h1).1)
          rw [ltp_eq h3 (h2 _ hin)]
      have e2 : Rd25.woken (f' + 1) (S, o) = Rd25.woken f' (Rd25.hand n Rd25.NOTHING (S, o)) := by
        show (match Rd25.least ((Rd25.sleepers S).filter fun x => decide (x.1 ≤ S.time)) with
          | none => (S, o)
          | some x => Rd25.woken f' (Rd25.hand x.2 Rd25.NOTHING (S, o))) = _
        rw [el]
      rw [List.foldl_cons, e1, e2]
      have h0 := mem_doing I.wf.nd ht
      have J := I.hand h0 q_sleeping (by intro e; cases e) [0]
      have A2 : Asleep (N.give 0 n [0]) (readied S n) l := by
        refine ⟨fun m => ?_, hnd.2, ?_⟩
        · constructor
          · intro hm
            obtain ⟨t', h⟩ := (A.iff m).mp (List.mem_cons_of_mem _ hm)
            exact ⟨t', mem_does.mpr (.inl ⟨fun e => hnd.1 (e ▸ hm), h⟩)⟩
          · rintro ⟨t', h⟩
            rcases mem_does.mp (show (m, Does.sleeping t') ∈ (does_ S n .ready).tasks from h) with ⟨h1, h2⟩ | ⟨_, h2⟩
            · rcases List.mem_cons.mp ((A.iff m).mpr ⟨t', h2⟩) with q | q
              · exact absurd q h1
              · exact q
            · cases h2
        · refine hno.2.imp_of_mem fun {x y} hx hy h => ?_
          have e : ∀ m, m ∈ l → (N.give 0 n [0]).tg m = N.tg m := fun m hm => if_neg (fun e : m = n => hnd.1 (e ▸ hm))
          unfold slLt at h ⊢
          rw [e x hx, e y hy]
          exact h
      exact inv_woken l (N.give 0 n [0]) (readied S n) (o ++ [(0, n, [0])]) f' J A2 (by rw [List.length_cons] at hf; omega)
    · have hlate : ∀ m ∈ n :: l, ¬ N.tg m ≤ N.now := fun m hm => by
        rcases List.mem_cons.mp hm with e | e
        · rw [e]; exact hle
        · have h := hno.1 m e
          unfold slLt at h
          omega
      rw [fold_late _ N hlate]
      have ef : (Rd25.sleepers S).filter (fun x => decide (x.1 ≤ S.time)) = [] := by
        rw [List.filter_eq_nil_iff]
        rintro ⟨t', m⟩ hm
        have hm' := mem_sleepers.mp hm
        have h := hlate m ((A.iff m).mpr ⟨t', hm'⟩)
        rw [tg_sleep I.inv hm'] at h
        rw [decide_eq_true_eq]
        dsimp only
        omega
      have e2 : Rd25.woken (f' + 1) (S, o) = (S, o) := by
        show (match Rd25.least ((Rd25.sleepers S).filter fun x => decide (x.1 ≤ S.time)) with
          | none => (S, o)
          | some x => Rd25.woken f' (Rd25.hand x.2 Rd25.NOTHING (S, o))) = _
        rw [ef]
        rfl
      rw [e2]
      exact ⟨I, rfl⟩
def finP : Rd25.P → State × Rd25.Ans
  | .done s a => (s, a)
  | .ask s _ _ => (s, { value := 0 })
theorem nextOf_done (w : Rd25.W) : ∃ s a, Rd25.nextOf w = .done s a := by
  unfold Rd25.nextOf Rd25.answerW
  split
  · exact ⟨_, _, rfl⟩
  · split
    · exact ⟨_, _, rfl⟩
    · exact ⟨_, _, rfl⟩
theorem nextOf_played (w : Rd25.W) (l : List Int) : (Rd25.nextOf w).played l = ((finP (Rd25.nextOf w)).1, (finP (Rd25.nextOf w)).2, [], l) := by
  obtain ⟨s, a, e⟩ := nextOf_done w
  rw [e]
  rfl
theorem busy_iff (I : Inv M S) : M.ks.any (busyB M) = S.tasks.any fun x => Rd25.isGoing x.2 := by
  rw [Bool.eq_iff_iff, List.any_eq_true, List.any_eq_true]
  have code : ∀ (n : Nat) (d : Does), (n, d) ∈ S.tasks → (busyB M n = true ↔ Rd25.isGoing d = true) := fun n d h => by
    have e := (I.does n d h).1
    unfold busyB
    rw [e]
    cases d <;> simp [stateOf, Rd25.isGoing]
  constructor
  · rintro ⟨n, hn, hb⟩
    obtain ⟨d, hd⟩ := key_doing (I.mem.mp hn)
    exact ⟨(n, d), doing_mem hd, (code n d (doing_mem hd)).mp hb⟩
  · rintro ⟨⟨n, d⟩, h, hb⟩
    exact ⟨n, I.mem.mpr (mem_keys h), (code n d h).mpr hb⟩
theorem ended_iff (I : Inv M S) : M.ks.all (endedB M) = S.tasks.all fun x => Rd25.hasEnded x.2 := by
  rw [Bool.eq_iff_iff, List.all_eq_true, List.all_eq_true]
  have code : ∀ (n : Nat) (d : Does), (n, d) ∈ S.tasks → (endedB M n = true ↔ Rd25.hasEnded d = true) := fun n d h => by
    have e := (I.does n d h).1
    unfold endedB
    rw [e]
    cases d <;> simp [stateOf, Rd25.hasEnded]
  constructor
  · rintro h ⟨n, d⟩ hd
    exact (code n d hd).mp (h n (I.mem.mpr (mem_keys hd)))
  · intro h n hn
    obtain ⟨d, hd⟩ := key_doing (I.mem.mp hn)
    exact (code n d (doing_mem hd)).mpr (h (n, d) (doing_mem hd))
theorem next_core (I : Inv M S) (W : WF S) (hc : M.clk = some (rl, 0)) (hb : M.ks.any (busyB M) = false) {l1 : List Nat} (sl : Sleep M.open l1) :
    ∃ (w : Rd25.W) (k : Nat), InvW0 (M.open.wake l1) w ∧ (M.open.wake l1).clk = some (rl, k) ∧ ((Rd25.spec S .next).played rl).1 = (finP (Rd25.nextOf w)).1 ∧ ((Rd25.spec S .next).played rl).2.1 = (finP (Rd25.nextOf w)).2 ∧ ((Rd25.spec S .next).played rl).2.2.1.length = k := by
  have hb' : ¬ (S.tasks.any fun x => Rd25.isGoing x.2) = true := by rw [← busy_iff I, hb]; decide
  have A := sl.asleep I.open W
  have es : Rd25.spec S .next = if (Rd25.sleepers S).isEmpty = true then Rd25.nextOf (S, []) else .ask S .clock fun u now => Rd25.nextOf (Rd25.woken ((Rd25.toldTime u now).tasks.length + 1) (Rd25.toldTime u now, [])) := by
    show (if (S.tasks.any fun x => Rd25.isGoing x.2) = true then _ else _) = _
    rw [if_neg hb']
  cases l1 with
  | nil =>
    have e : Rd25.sleepers S = [] := by
      rw [List.eq_nil_iff_forall_not_mem]
      rintro ⟨t, n⟩ h
      exact nomatch (A.iff n).mpr ⟨t, mem_sleepers.mp h⟩
    rw [e, if_pos (show ([] : List (Nat × Nat)).isEmpty = true from rfl)] at es
    refine ⟨(S, []), 0, ⟨I.open, W, rfl⟩, hc, ?_, ?_, ?_⟩ <;> rw [es, nextOf_played] <;> rfl
  | cons u l =>
    have e : (Rd25.sleepers S).isEmpty = false := by
      obtain ⟨t, ht⟩ := (A.iff u).mp List.mem_cons_self
      cases e : Rd25.sleepers S with
      | nil => have h := mem_sleepers.mpr ht; rw [e] at h; exact nomatch h
      | cons a b => rfl
    rw [e, if_neg (by decide)] at es
    have er : M.open.reply = rl.headD 0 := by show (match M.clk with | some (rl, k) => rl.getD k 0 | none => 0) = _; rw [hc]; exact (headD_getD rl).symm
    have I2 : Inv M.open.heard (Rd25.toldTime S (rl.headD 0)) := by
      have := (I.open.ask).hear M.open.reply
      rw [er] at this
      unfold MS.heard
      rw [er]
      exact this
    have et : (Rd25.toldTime S (rl.headD 0)).tasks = S.tasks := by unfold Rd25.toldTime; split <;> rfl
    have A2 : Asleep M.open.heard (Rd25.toldTime S (rl.headD 0)) (u :: l) := ⟨by rw [et]; exact A.iff, A.nd, A.ord⟩
    have hl : (u :: l).length < (Rd25.toldTime S (rl.headD 0)).tasks.length + 1 := by
      have h := sleep_len sl
      have h2 : M.open.ks.length = S.tasks.length := by rw [I.open.keys.length_eq, ← tasks_len]
      rw [et]
      omega
    obtain ⟨J, hk⟩ := inv_woken (u :: l) M.open.heard (Rd25.toldTime S (rl.headD 0)) [] ((Rd25.toldTime S (rl.headD 0)).tasks.length + 1) ⟨I2, W.told _, rfl⟩ A2 hl
    have hk2 : M.open.heard.clk = some (rl, 1) := by show M.clk.map _ = _; rw [hc]; rfl
    refine ⟨_, 1, J, hk.trans hk2, ?_, ?_, ?_⟩
    · rw [es]
      show ((Rd25.nextOf _).played _).1 = _
      rw [nextOf_played]
    · rw [es]
      show ((Rd25.nextOf _).played _).2.1 = _
      rw [nextOf_played]
    · rw [es]
      show (Rd25.Ask.clock :: ((Rd25.nextOf _).played _).2.2.1).length = _
      rw [nextOf_played]
      rfl
theorem InvX.going (I : Inv N S) (W : WF S) {r : List Nat} (hr : S.row = n :: r) : Inv (N.going n r) (does_ { S with row := r } n .going) ∧ WF (does_ { S with row := r } n .going) := by
  have h0 : doing S n = some .ready := W.rdy n (by rw [hr]; exact List.mem_cons_self)
  have hnd := W.rnd
  rw [hr, List.nodup_cons] at hnd
  constructor
  · refine I.quiet (M' := N.going n r) (S' := does_ { S with row := r } n .going) (d := .going) W h0 q_ready q_going rfl rfl rfl rfl rfl rfl rfl rfl rfl (fun _ _ _ => rfl) (fun m hm => ⟨if_neg hm, if_neg hm, rfl⟩) ?_
    exact ⟨if_pos rfl, if_pos rfl, trivial, I.vlen n (I.mem.mpr (mem_keys (doing_mem h0)))⟩
  · refine W.move (S' := does_ { S with row := r } n .going) (d := .going) (.inl (mem_keys (doing_mem h0))) rfl hnd.2 (fun m hm => .inl ⟨fun e => ?_, ?_⟩) (fun u e => by cases e) (Nat.le_refl _) (fun c v e => by cases e) (fun c e => by cases e) W.ch W.nc W.tm
    · subst e
      exact hnd.1 hm
    · rw [hr]
      exact List.mem_cons_of_mem _ hm
theorem inv_next (I : Inv M S) (W : WF S) (hc : M.clk = some (rl, 0)) (no : M.ords = none) :
    (M.ks.any (busyB M) = true → CallEnd M.open.close [1, 0] rl S .next) ∧
    (M.ks.any (busyB M) = false → ∀ l1, Sleep M.open l1 → (M.open.wake l1).told.length ≤ (Rd25Neutral.told .next ((Rd25.spec S .next).played rl).2.1).length ∧
      (∀ n r, (M.open.wake l1).row = n :: r → CallEnd ((M.open.wake l1).going n r).close (0 :: (M.open.wake l1).told ++ [(n : Int), (M.open.wake l1).steps]) rl S .next) ∧
      ((M.open.wake l1).row = [] → ∀ l2, Sleep (M.open.wake l1) l2 →
        (∀ s l, l2 = s :: l → CallEnd (M.open.wake l1).close (2 :: (M.open.wake l1).told ++ [(M.open.wake l1).tg s]) rl S .next) ∧
        (l2 = [] → (M.open.wake l1).ks.all (endedB (M.open.wake l1)) = true → CallEnd (M.open.wake l1).close (3 :: (M.open.wake l1).told) rl S .next) ∧
        (l2 = [] → (M.open.wake l1).ks.all (endedB (M.open.wake l1)) = false → CallEnd (M.open.wake l1).close (4 :: (M.open.wake l1).told) rl S .next))) := by
  constructor
  · intro hb
    have es : Rd25.spec S .next = Rd25.just S 1 := by
      show (if (S.tasks.any fun x => Rd25.isGoing x.2) = true then _ else _) = _
      rw [if_pos (by rw [← busy_iff I, hb])]
    refine ⟨by rw [es]; exact I.open.close, by rw [es]; exact W, by rw [es]; exact hc, rfl, by rw [es]; rfl⟩
  · intro hb l1 sl
    obtain ⟨w, k, J, hk, p1, p2, p3⟩ := next_core I W hc hb sl
    generalize M.open.wake l1 = N at J hk ⊢
    obtain ⟨S2, o2⟩ := w
    have ew : Rd25.nextOf (S2, o2) = (match S2.row with
        | t :: r => Rd25.answerW (does_ { S2 with row := r } t .going, o2) 0 [(t : Int), (S2.steps : Int)]
        | [] => match Rd25.least (Rd25.sleepers S2) with
          | some x => Rd25.answerW (S2, o2) 2 [(x.1 : Int)]
          | none => Rd25.answerW (S2, o2) (if S2.tasks.all (fun x => Rd25.hasEnded x.2) = true then 3 else 4)) := rfl
    have hrow : N.row = S2.row := J.inv.row
    have ho : N.told = Rd25Neutral.orders { value := 0, orders := o2 } := told_orders (a := { value := 0, orders := o2 }) J.ords
    have end_ : ∀ (S3 : State) (v : Int) (out : List Int) (N3 : MS), 0 ≤ v → Rd25.nextOf (S2, o2) = Rd25.answerW (S3, o2) v out → Inv N3 S3 → WF S3 → N3.clk = some (rl, k) → CallEnd N3.close (v :: (N.told ++ out)) rl S .next := fun S3 v out N3 hv e I3 W3 hc3 => by
      rw [e] at p1 p2
      refine ⟨by rw [p1]; exact I3.close, by rw [p1]; exact W3, by rw [p3]; exact hc3, rfl, ?_⟩
      rw [p2]
      show v :: (N.told ++ out) = v :: Rd25Neutral.told .next { value := v, orders := o2, out := out }
      unfold Rd25Neutral.told
      dsimp only
      rw [if_neg (by omega), ho]
      rfl
    have tl : ∀ (S3 : State) (v : Int) (out : List Int), 0 ≤ v → Rd25.nextOf (S2, o2) = Rd25.answerW (S3, o2) v out → N.told.length ≤ (Rd25Neutral.told .next ((Rd25.spec S .next).played rl).2.1).length := fun S3 v out hv e => by
      rw [p2, e]
      show _ ≤ (Rd25Neutral.told .next { value := v, orders := o2, out := out }).length
      unfold Rd25Neutral.told
      dsimp only
      rw [if_neg (by omega), ho, List.length_append]
      exact Nat.le_add_right _ _
    refine ⟨?_, fun n r hr => ?_, fun hr l2 sl2 => ⟨fun s l e2 => ?_, fun e2 ha => ?_, fun e2 ha => ?_⟩⟩
    · cases er : S2.row with
      | cons t r =>
        rw [er] at ew
        exact tl _ 0 _ (by decide) ew
      | nil =>
        rw [er] at ew
        dsimp only at ew
        cases el : Rd25.least (Rd25.sleepers S2) with
        | some x =>
          rw [el] at ew
          exact tl _ 2 _ (by decide) ew
        | none =>
          rw [el] at ew
          exact tl _ _ _ (by split <;> decide) ew
    · rw [hrow] at hr
      rw [hr] at ew
      obtain ⟨I3, W3⟩ := J.inv.going J.wf hr
      have h := end_ _ 0 _ (N.going n r) (by decide) ew I3 W3 hk
      rw [show (N.steps : Int) = (S2.steps : Int) from J.inv.steps]
      exact h
    · rw [hrow] at hr
      rw [hr] at ew
      dsimp only at ew
      have A2 := sl2.asleep J.inv J.wf
      subst e2
      obtain ⟨t, ht⟩ := (A2.iff s).mp List.mem_cons_self
      have el : Rd25.least (Rd25.sleepers S2) = some (t, s) := by
        have hin := mem_sleepers.mpr ht
        cases e : Rd25.least (Rd25.sleepers S2) with
        | none => rw [least_nil e] at hin; exact nomatch hin
        | some x =>
          obtain ⟨h1, h2⟩ := least_min _ x e
          obtain ⟨t', m⟩ := x
          have hm := mem_sleepers.mp h1
          have h3 : ¬ ltp (t', m) (t, s) := by
            have em := tg_sleep J.inv hm
            have et := tg_sleep J.inv ht
            rcases List.mem_cons.mp ((A2.iff m).mpr ⟨t', hm⟩) with q | q
            · subst q
              unfold ltp
              dsimp only
              omega
            · have h := (List.pairwise_cons.mp A2.ord).1 m q
              unfold slLt at h
              unfold ltp
              dsimp only
              omega
          rw [ltp_eq h3 (h2 _ hin)]
      rw [el] at ew
      have h := end_ _ 2 _ N (by decide) ew J.inv J.wf hk
      rw [tg_sleep J.inv ht]
      exact h
    · rw [hrow] at hr
      rw [hr] at ew
      dsimp only at ew
      have A2 := sl2.asleep J.inv J.wf
      subst e2
      have el : Rd25.sleepers S2 = [] := by
        rw [List.eq_nil_iff_forall_not_mem]
        rintro ⟨t, n⟩ h
        exact nomatch (A2.iff n).mpr ⟨t, mem_sleepers.mp h⟩
      rw [el, ← ended_iff J.inv, ha] at ew
      have h := end_ S2 3 [] N (by decide) ew J.inv J.wf hk
      rw [List.append_nil] at h
      exact h
    · rw [hrow] at hr
      rw [hr] at ew
      dsimp only at ew
      have A2 := sl2.asleep J.inv J.wf
      subst e2
      have el : Rd25.sleepers S2 = [] := by
        rw [List.eq_nil_iff_forall_not_mem]
        rintro ⟨t, n⟩ h
        exact nomatch (A2.iff n).mpr ⟨t, mem_sleepers.mp h⟩
      rw [el, ← ended_iff J.inv, ha] at ew
      have h := end_ S2 4 [] N (by decide) ew J.inv J.wf hk
      rw [List.append_nil] at h
      exact h
end
end TT
end
section
set_option Elab.async false
set_option linter.all false
set_option maxRecDepth 100000
set_option maxHeartbeats 2000000
namespace TT
open TS
open Rd25 (State Does doing does_ stateOf readied)
section
variable {M : MS} {S : State} {rl : List Int} {n : Nat}
theorem CallEnd.tell {c : Rd25.Call} {an : Rd25.Ans} {out : List Int} (I : Inv M S) (W : WF S) (hc : M.clk = some (rl, 0)) (no : M.ords = none) (e : Rd25.spec S c = .done S an) (ho : out = an.value :: Rd25Neutral.told c an) : CallEnd M out rl S c := by
  constructor
  · rw [e]; exact I
  · rw [e]; exact W
  · rw [e]; exact hc
  · exact no
  · rw [e]; exact ho
theorem is_does (I : Inv M S) (hn : n ∈ M.ks) : ∃ d, doing S n = some d ∧ M.st n = (stateOf d).1 ∧ M.tg n = (stateOf d).2 := by
  obtain ⟨d, hd⟩ := key_doing (I.mem.mp hn)
  obtain ⟨h1, h2, _⟩ := I.does n d (doing_mem hd)
  exact ⟨d, hd, h1, h2⟩
theorem st_spawning (I : Inv M S) (hn : n ∈ M.ks) : M.st n = 2 ↔ doing S n = some .spawning := by
  obtain ⟨d, hd, h, _⟩ := is_does I hn
  rw [hd, h]
  constructor
  · intro e
    cases d <;> first | rfl | (exfalso; revert e; simp [stateOf])
  · intro e
    cases e
    rfl
theorem state_pos (d : Does) : ¬ (stateOf d).1 < 0 := by cases d <;> simp [stateOf]
theorem taskNo_some (I : Inv M S) (W : WF S) {z : Int} (h : M.taskNo z = some n) : n ∈ M.ks ∧ z.toNat = n ∧ Rd25.okTask z = true := by
  obtain ⟨hn, e⟩ := taskNo_mem h
  have := W.lt n (I.mem.mp hn)
  exact ⟨hn, by omega, okTask_iff.mpr ⟨by omega, by omega⟩⟩
theorem taskNo_none (I : Inv M S) {z : Int} (h : M.taskNo z = none) : Rd25.okTask z = false ∨ doing S z.toNat = none := by
  unfold MS.taskNo at h
  split at h
  · cases h
  · rename_i q
    by_cases h0 : 0 ≤ z
    · exact .inr (doing_none.mpr fun hk => q ⟨h0, I.mem.mpr hk⟩)
    · exact .inl (okTask_not fun q => h0 q.1)
theorem inv_state (I : Inv M S) (W : WF S) (hc : M.clk = some (rl, 0)) (no : M.ords = none) (z : Int) : CallEnd M (M.stateO z) rl S (.state z) := by
  have es : Rd25.spec S (.state z) = match (if Rd25.okTask z = true then doing S z.toNat else none) with
    | none => Rd25.just S (-8)
    | some d => .done S { value := (stateOf d).1, out := [(stateOf d).2] } := rfl
  unfold MS.stateO
  cases en : M.taskNo z with
  | none =>
    have e : (if Rd25.okTask z = true then doing S z.toNat else none) = none := by
      rcases taskNo_none I en with h | h
      · rw [h]; rfl
      · rw [h]; split <;> rfl
    rw [e] at es
    exact CallEnd.just I W hc no (by decide) es
  | some n =>
    obtain ⟨hn, e1, ok⟩ := taskNo_some I W en
    obtain ⟨d, hd, h1, h2⟩ := is_does I hn
    rw [ok, if_pos rfl, e1, hd] at es
    refine CallEnd.tell I W hc no es ?_
    show [M.st n, M.tg n] = (stateOf d).1 :: (if (stateOf d).1 < 0 then [] else [(stateOf d).2])
    rw [if_neg (state_pos d), h1, h2]
theorem inv_channel (I : Inv M S) (W : WF S) (hc : M.clk = some (rl, 0)) (no : M.ords = none) (z : Int) : CallEnd M (M.chanO z) rl S (.channel z) := by
  have es : Rd25.spec S (.channel z) = if z < 0 then Rd25.just S (-8) else match S.channels[z.toNat]? with
    | none => Rd25.just S (-4)
    | some k => .done S { value := (k.held.length : Nat), out := [(k.most : Int), ((Rd25.senders S z.toNat).length : Nat), ((Rd25.receivers S z.toNat).length : Nat)] } := rfl
  unfold MS.chanO
  by_cases h : z < 0
  · rw [if_pos h] at es ⊢
    exact CallEnd.just I W hc no (by decide) es
  rw [if_neg h] at es ⊢
  cases ec : M.ch[z.toNat]? with
  | none =>
    have e : S.channels[z.toNat]? = none := by
      rw [List.getElem?_eq_none_iff] at ec ⊢
      rw [← I.chl]
      exact ec
    rw [e] at es
    exact CallEnd.just I W hc no (by decide) es
  | some c =>
    obtain ⟨k, hk, h1, h2, h3, h4⟩ := I.chs _ c ec
    rw [hk] at es
    refine CallEnd.tell I W hc no es ?_
    show [(c.kept.length : Int), c.room, (c.snd.length : Int), (c.rcv.length : Int)] = (k.held.length : Int) :: (if (k.held.length : Int) < 0 then [] else [(k.most : Int), ((Rd25.senders S z.toNat).length : Int), ((Rd25.receivers S z.toNat).length : Int)])
    rw [if_neg (by omega), h1, h2, h3, h4, senders_view, receivers_view, List.length_map]
theorem inv_spawned (I : Inv M S) (W : WF S) (hc : M.clk = some (rl, 0)) (no : M.ords = none) (z u : Int) : CallEnd (M.spawnedM z u).1 (M.spawnedM z u).2 rl S (.spawned z u) := by
  have es : Rd25.spec S (.spawned z u) = if Rd25.okTask z = false ∨ (u ≠ -1 ∧ Rd25.okTask u = false) ∨ doing S z.toNat ≠ some .spawning then Rd25.just S (-8) else if u = -1 then Rd25.just (readied S z.toNat) 0
    else if (doing S u.toNat).isSome = true then Rd25.just S (-3) else if Rd25.MOST ≤ S.tasks.length then Rd25.just S (-5) else Rd25.just (readied (readied S z.toNat) u.toNat) 0 := rfl
  unfold MS.spawnedM
  cases en : M.taskNo z with
  | none =>
    refine CallEnd.just I W hc no (by decide) (es.trans (if_pos ?_))
    rcases taskNo_none I en with h | h
    · exact .inl h
    · exact .inr (.inr (by rw [h]; intro q; cases q))
  | some n =>
    obtain ⟨hn, e1, ok⟩ := taskNo_some I W en
    rw [e1, ok] at es
    dsimp only
    by_cases h1 : M.st n = 2
    · have h0 := (st_spawning I hn).mp h1
      have sne : Does.spawning ≠ .ready := by intro e; cases e
      rw [if_neg (fun q => q h1)]
      by_cases h2 : u = -1
      · rw [if_pos h2]
        rw [if_neg (fun q => q.elim (fun q => by cases q) (fun q => q.elim (fun q => q.1 h2) (fun q => q h0))), if_pos h2] at es
        constructor
        · rw [es]; exact I.ready W h0 q_spawning
        · rw [es]; exact W.ready h0 sne
        · rw [es]; exact hc
        · exact no
        · rw [es]; rfl
      rw [if_neg h2]
      unfold MS.refuse
      by_cases h3 : 0 ≤ u ∧ u ≤ 4294967295
      · rw [if_neg (show ¬ ¬ (0 ≤ u ∧ u ≤ 4294967295) from fun q => q h3)]
        rw [if_neg (fun q => q.elim (fun q => by cases q) (fun q => q.elim (fun q => by rw [okTask_iff.mpr h3] at q; exact absurd q.2 (by decide)) (fun q => q h0))), if_neg h2] at es
        by_cases hk : u.toNat ∈ M.ks
        · rw [if_pos hk, if_neg (by decide)]
          obtain ⟨d, hd⟩ := key_doing (I.mem.mp hk)
          rw [hd, if_pos (show (some d).isSome = true from rfl)] at es
          exact CallEnd.just I W hc no (by decide) es
        · rw [if_neg hk]
          have hk' : u.toNat ∉ keys S := fun q => hk (I.mem.mpr q)
          rw [doing_none.mpr hk', if_neg (by decide)] at es
          have el : M.ks.length = S.tasks.length := by rw [I.keys.length_eq, ← tasks_len]
          by_cases hl : 1000 ≤ M.ks.length
          · rw [if_pos hl, if_neg (by decide)]
            rw [if_pos (show Rd25.MOST ≤ S.tasks.length by rw [← el]; exact hl)] at es
            exact CallEnd.just I W hc no (by decide) es
          · rw [if_neg hl, if_pos rfl]
            rw [if_neg (show ¬ Rd25.MOST ≤ S.tasks.length by rw [← el]; exact hl)] at es
            have I1 := I.ready W h0 q_spawning
            have W1 := W.ready h0 sne
            have hk1 : u.toNat ∉ keys (readied S n) := fun q => by
              rcases mem_keys_does.mp (show u.toNat ∈ keys (does_ S n .ready) from q) with q | q
              · exact hk' q
              · exact hk (by rw [q]; exact hn)
            have hl1 : (readied S n).tasks.length < 1000 := by
              have e : (readied S n).tasks.length = S.tasks.length := by
                rw [tasks_len, tasks_len]
                exact (perm_does W.nd (mem_keys (doing_mem h0)) .ready).length_eq
              omega
            constructor
            · rw [es]; exact I1.add hk1 W1
            · rw [es]; exact W1.add hk1 (by omega) hl1
            · rw [es]; exact hc
            · exact no
            · rw [es]; rfl
      · rw [if_pos h3, if_neg (by decide)]
        exact CallEnd.just I W hc no (by decide) (es.trans (if_pos (.inr (.inl ⟨h2, okTask_not h3⟩))))
    · rw [if_pos h1]
      exact CallEnd.just I W hc no (by decide) (es.trans (if_pos (.inr (.inr fun q => h1 ((st_spawning I hn).mpr q)))))
theorem join_ok (I : Inv M S) (W : WF S) : JoinOk M := fun n hn h5 => by
  obtain ⟨d, hd, h1, h2⟩ := is_does I hn
  cases d with
  | joining u =>
    have e : M.tg n = (u : Int) := h2
    rw [e, Int.toNat_natCast]
    exact ⟨Int.natCast_nonneg _, I.mem.mpr (W.join n u (doing_mem hd))⟩
  | _ => exfalso; rw [h1] at h5; revert h5; simp [stateOf]
theorem awaits_is (I : Inv M S) (hn : n ∈ M.ks) : Rd25.awaits S n = if M.st n = 5 then some (M.tg n).toNat else none := by
  obtain ⟨d, hd, h1, h2⟩ := is_does I hn
  unfold Rd25.awaits
  rw [hd, h1, h2]
  cases d <;> simp [stateOf]
theorem comes_ring (I : Inv M S) (J : JoinOk M) (t : Nat) : ∀ (f u : Nat), u ∈ M.ks → Rd25.comes S t (f + 1) u = (u == t || ringM M t f u)
  | 0, u, hu => by
    have e : Rd25.comes S t (0 + 1) u = (u == t || match Rd25.awaits S u with
      | none => false
      | some v => Rd25.comes S t 0 v) := rfl
    rw [e]
    cases Rd25.awaits S u <;> rfl
  | f + 1, u, hu => by
    have e : Rd25.comes S t (f + 1 + 1) u = (u == t || match Rd25.awaits S u with
      | none => false
      | some v => Rd25.comes S t (f + 1) v) := rfl
    rw [e, awaits_is I hu, ringM]
    by_cases h5 : M.st u = 5
    · rw [if_pos h5, if_pos h5]
      dsimp only
      rw [comes_ring I J t f _ (J u hu h5).2]
      by_cases ht : (M.tg u).toNat = t
      · rw [if_pos ht, ht]
        simp
      · rw [if_neg ht]
        have : ((M.tg u).toNat == t) = false := by simpa using ht
        rw [this, Bool.false_or]
    · rw [if_neg h5, if_neg h5]
def path (M : MS) : Nat → Nat → Option Nat
  | 0, o => some o
  | k + 1, o => if M.st o = 5 then path M k (M.tg o).toNat else none
theorem path_add (M : MS) : ∀ (i j o x : Nat), path M i o = some x → path M (i + j) o = path M j x
  | 0, j, o, x, h => by
    have e : o = x := Option.some.inj h
    rw [e, Nat.zero_add]
  | i + 1, j, o, x, h => by
    rw [show i + 1 + j = (i + j) + 1 by omega]
    rw [path] at h
    rw [show path M (i + j + 1) o = if M.st o = 5 then path M (i + j) (M.tg o).toNat else none from rfl]
    by_cases h5 : M.st o = 5
    · rw [if_pos h5] at h ⊢
      exact path_add M i j _ x h
    · rw [if_neg h5] at h
      cases h
theorem path_some (M : MS) : ∀ (i j o y : Nat), path M (i + j) o = some y → ∃ x, path M i o = some x
  | 0, j, o, y, h => ⟨o, rfl⟩
  | i + 1, j, o, y, h => by
    rw [show i + 1 + j = (i + j) + 1 by omega] at h
    unfold path at h ⊢
    by_cases h5 : M.st o = 5
    · rw [if_pos h5] at h ⊢
      exact path_some M i j _ y h
    · rw [if_neg h5] at h
      cases h
theorem path_mem (J : JoinOk M) : ∀ (i o x : Nat), o ∈ M.ks → path M i o = some x → x ∈ M.ks
  | 0, o, x, ho, h => by
    have e : o = x := Option.some.inj h
    rw [← e]
    exact ho
  | i + 1, o, x, ho, h => by
    unfold path at h
    by_cases h5 : M.st o = 5
    · rw [if_pos h5] at h
      exact path_mem J i _ x (J o ho h5).2 h
    · rw [if_neg h5] at h
      cases h
theorem ring_iff (M : MS) (t : Nat) : ∀ (f o : Nat), ringM M t f o = true ↔ ∃ k, k < f ∧ path M (k + 1) o = some t
  | 0, o => ⟨(fun h => by cases h), fun ⟨k, h, _⟩ => absurd h (Nat.not_lt_zero k)⟩
  | f + 1, o => by
    unfold ringM
    by_cases h5 : M.st o = 5
    · rw [if_pos h5]
      have e : ∀ k, path M (k + 1) o = path M k (M.tg o).toNat := fun k => by rw [path, if_pos h5]
      by_cases ht : (M.tg o).toNat = t
      · rw [if_pos ht]
        exact ⟨fun _ => ⟨0, Nat.succ_pos f, by rw [e, ht]; rfl⟩, fun _ => rfl⟩
      · rw [if_neg ht, ring_iff M t f _]
        constructor
        · rintro ⟨k, h1, h2⟩
          exact ⟨k + 1, by omega, by rw [e]; exact h2⟩
        · rintro ⟨k, h1, h2⟩
          rw [e] at h2
          cases k with
          | zero => exact absurd (Option.some.inj h2) ht
          | succ k => exact ⟨k, by omega, h2⟩
    · rw [if_neg h5]
      constructor
      · intro h; cases h
      · rintro ⟨k, _, h2⟩
        rw [path, if_neg h5] at h2
        cases h2
theorem ring_short (J : JoinOk M) {t : Nat} (ht : t ∈ M.ks) : ∀ (b k : Nat), k ≤ b → path M (k + 1) t = some t → ∃ k', k' < M.ks.length ∧ path M (k' + 1) t = some t
  | b, k, hb, h => by
    by_cases hm : ∃ k0, k0 < k ∧ path M (k0 + 1) t = some t
    · obtain ⟨k0, h0, h1⟩ := hm
      cases b with
      | zero => omega
      | succ b => exact ring_short J ht b k0 (by omega) h1
    · refine ⟨k, ?_, h⟩
      have so : ∀ i, i ≤ k → ∃ x, path M i t = some x := fun i hi => path_some M i (k + 1 - i) t t (by rw [show i + (k + 1 - i) = k + 1 by omega]; exact h)
      have dist : ∀ i j x, i < j → j ≤ k → path M i t = some x → path M j t = some x → False := fun i j x hij hj h1 h2 => by
        have e1 := path_add M j (k + 1 - j) t x h2
        have e2 := path_add M i (k + 1 - j) t x h1
        rw [show j + (k + 1 - j) = k + 1 by omega, h] at e1
        refine hm ⟨i + (k - j), by omega, ?_⟩
        rw [show i + (k - j) + 1 = i + (k + 1 - j) by omega, e2, ← e1]
      have hl := nodup_len (l := (List.range (k + 1)).map fun i => (path M i t).getD 0) (m := M.ks) ?_ ?_
      · rw [List.length_map, List.length_range] at hl
        omega
      · show List.Pairwise _ _
        rw [List.pairwise_map]
        refine List.Pairwise.imp_of_mem (fun {i j} hi hj hij e => ?_) List.pairwise_lt_range
        rw [List.mem_range] at hi hj
        obtain ⟨x, hx⟩ := so i (by omega)
        obtain ⟨y, hy⟩ := so j (by omega)
        rw [hx, hy] at e
        have e' : x = y := e
        rw [← e'] at hy
        exact dist i j x hij (by omega) hx hy
      · intro x hx
        obtain ⟨i, hi, e⟩ := List.mem_map.mp hx
        rw [List.mem_range] at hi
        obtain ⟨y, hy⟩ := so i (by omega)
        rw [hy] at e
        have e' : y = x := e
        rw [← e']
        exact path_mem J i t y ht hy
theorem ring_is (I : Inv M S) (W : WF S) {t : Nat} (ht : t ∈ M.ks) : Rd25.inRing S t = ringM M t M.ks.length t := by
  have J := join_ok I W
  have el : S.tasks.length = M.ks.length := by rw [I.keys.length_eq, ← tasks_len]
  have e : Rd25.inRing S t = ringM M t (M.ks.length + 1) t := by
    unfold Rd25.inRing
    rw [awaits_is I ht, ringM, el]
    by_cases h5 : M.st t = 5
    · rw [if_pos h5, if_pos h5]
      dsimp only
      rw [comes_ring I J t _ _ (J t ht h5).2]
      by_cases hx : (M.tg t).toNat = t
      · rw [if_pos hx, hx]
        simp
      · rw [if_neg hx]
        have : ((M.tg t).toNat == t) = false := by simpa using hx
        rw [this, Bool.false_or]
    · rw [if_neg h5, if_neg h5]
  rw [e, Bool.eq_iff_iff, ring_iff, ring_iff]
  constructor
  · rintro ⟨k, _, h⟩
    exact ring_short J ht k k (Nat.le_refl k) h
  · rintro ⟨k, h1, h2⟩
    exact ⟨k, by omega, h2⟩
theorem sortedIn_perm (x : Nat × Does) : ∀ l, (Rd25.sortedIn x l).Perm (x :: l)
  | [] => List.Perm.refl _
  | y :: r => by
    unfold Rd25.sortedIn
    split
    · exact List.Perm.refl _
    · exact ((sortedIn_perm x r).cons y).trans (List.Perm.swap x y r)
theorem sorted_perm : ∀ l : List (Nat × Does), (Rd25.sorted l).Perm l
  | [] => List.Perm.refl _
  | x :: l => (sortedIn_perm x (Rd25.sorted l)).trans ((sorted_perm l).cons x)
theorem sortedIn_ord (x : Nat × Does) : ∀ l : List (Nat × Does), l.Pairwise (fun a b => a.1 ≤ b.1) → (Rd25.sortedIn x l).Pairwise (fun a b => a.1 ≤ b.1)
  | [], _ => by
    show List.Pairwise _ [x]
    simp
  | y :: r, h => by
    have h' := List.pairwise_cons.mp h
    unfold Rd25.sortedIn
    by_cases hx : x.1 ≤ y.1
    · rw [if_pos hx]
      refine List.pairwise_cons.mpr ⟨fun a ha => ?_, h⟩
      rcases List.mem_cons.mp ha with rfl | ha
      · exact hx
      · exact Nat.le_trans hx (h'.1 a ha)
    · rw [if_neg hx]
      refine List.pairwise_cons.mpr ⟨fun a ha => ?_, sortedIn_ord x r h'.2⟩
      rcases List.mem_cons.mp ((sortedIn_perm x r).mem_iff.mp ha) with rfl | ha
      · omega
      · exact h'.1 a ha
theorem sorted_ord : ∀ l : List (Nat × Does), (Rd25.sorted l).Pairwise (fun a b => a.1 ≤ b.1)
  | [] => List.Pairwise.nil
  | x :: l => sortedIn_ord x _ (sorted_ord l)
theorem ord_eq : ∀ {l m : List Nat}, l.Perm m → l.Pairwise (fun x y => x ≤ y) → m.Pairwise (fun x y => x ≤ y) → l = m
  | [], m, p, _, _ => (List.nil_perm.mp p).symm
  | x :: l, [], p, _, _ => by have := p.length_eq; cases this
  | x :: l, y :: m, p, h1, h2 => by
    have a1 := List.pairwise_cons.mp h1
    have a2 := List.pairwise_cons.mp h2
    have e : x = y := by
      have hx : x ∈ y :: m := p.mem_iff.mp List.mem_cons_self
      have hy : y ∈ x :: l := p.mem_iff.mpr List.mem_cons_self
      rcases List.mem_cons.mp hx with q | q
      · exact q
      · rcases List.mem_cons.mp hy with r | r
        · exact r.symm
        · exact Nat.le_antisymm (a1.1 y r) (a2.1 x q)
    subst e
    rw [ord_eq (List.Perm.cons_inv p) a1.2 a2.2]
theorem rows_is (I : Inv M S) (W : WF S) : ∀ L : List (Nat × Does), (∀ x ∈ L, x ∈ S.tasks) → (L.filterMap fun x => (Rd25.waitsAt x.2).map fun y => [(x.1 : Int), (y.1 : Int), (y.2 : Int), if Rd25.inRing S x.1 = true then 1 else 0]) = ((L.map (·.1)).filter (needsB M)).map M.stuckRow
  | [], _ => rfl
  | (n, d) :: L, h => by
    have ih := rows_is I W L fun x hx => h x (List.mem_cons_of_mem _ hx)
    have hm := h (n, d) List.mem_cons_self
    obtain ⟨h1, h2, _⟩ := I.does n d hm
    have hr := ring_is I W (I.mem.mpr (mem_keys hm))
    rw [List.filterMap_cons, ih, List.map_cons, List.filter_cons]
    dsimp only
    rw [hr]
    have nb : needsB M n = (decide ((stateOf d).1 = 3) || (decide ((stateOf d).1 = 4) || decide ((stateOf d).1 = 5))) := by rw [needsB, h1]
    have sr : M.stuckRow n = [(n : Int), (stateOf d).1, (stateOf d).2, if ringM M n M.ks.length n = true then 1 else 0] := by rw [MS.stuckRow, h1, h2]
    rw [nb]
    cases d <;> simp [Rd25.waitsAt, stateOf, sr]
theorem inv_stuck (I : Inv M S) (W : WF S) (hc : M.clk = some (rl, 0)) (no : M.ords = none) {l : List Nat} (s : Stuck M l) : CallEnd M (M.stuckO l) rl S .stuck := by
  have es : Rd25.spec S .stuck = .done S { value := ((Rd25.stuckRows S).length : Nat), out := (Rd25.stuckRows S).flatten } := rfl
  have er : Rd25.stuckRows S = l.map M.stuckRow := by
    have e1 : Rd25.stuckRows S = (((Rd25.sorted S.tasks).map (·.1)).filter (needsB M)).map M.stuckRow := rows_is I W _ fun x hx => (sorted_perm S.tasks).mem_iff.mp hx
    rw [e1]
    congr 1
    refine (ord_eq ?_ s.ord ?_).symm
    · refine s.perm.trans (List.Perm.filter _ ?_)
      have e : (keys S).Perm ((Rd25.sorted S.tasks).map (·.1)) := ((sorted_perm S.tasks).map (fun x : Nat × Does => x.1)).symm
      exact I.keys.trans e
    · refine List.Pairwise.filter _ ?_
      rw [List.pairwise_map]
      exact sorted_ord S.tasks
  refine CallEnd.tell I W hc no es ?_
  show M.stuckO l = ((Rd25.stuckRows S).length : Int) :: (if ((Rd25.stuckRows S).length : Int) < 0 then [] else (Rd25.stuckRows S).flatten)
  rw [if_neg (by omega), er, List.length_map, MS.stuckO, List.flatMap_def]
end
end TT
end
section
set_option Elab.async false
set_option linter.all false
set_option maxRecDepth 100000
set_option maxHeartbeats 2000000
namespace TT
open TS
open Rd25 (State Does doing does_ stateOf readied)
section
variable {M : MS} {n : Nat}
theorem tell_ans (N : MS) (u : Nat) : (N.tellEnd n u).ans = N.ans := by
  obtain ⟨k, e⟩ := tell_is N n u
  rw [e]
  rfl
theorem fold_ans : ∀ (l : List Nat) (N : MS), (l.foldl (fun N u => N.tellEnd n u) N).ans = N.ans
  | [], N => rfl
  | u :: l, N => by rw [List.foldl_cons, fold_ans l, tell_ans]
theorem endT_ans {code : Int} {v : List Int} : (M.endT n code v).ans = M.ans := by unfold MS.endT; rw [fold_ans]; rfl
theorem stand_ans {z : Int} {ls : List (List Int)} : (M.stand n z ls).ans = M.ans := by
  unfold MS.stand
  split
  · rfl
  split
  · rfl
  split
  · unfold MS.standChannel
    split
    · split <;> rfl
    · rfl
  split
  · unfold MS.standSend
    split
    · rfl
    · split
      · rfl
      · split
        · rfl
        · split <;> rfl
  split
  · unfold MS.standReceive
    split
    · rfl
    · split
      · rfl
      · unfold MS.recvAt
        split <;> rfl
  split
  · unfold MS.standEnd
    split
    · rfl
    · split
      · rfl
      · split
        · exact tell_ans (n := _) M n
        · rfl
  · unfold MS.standSleep
    split
    · split <;> rfl
    · rfl
theorem ranM_ans {z why at_ : Int} {ls : List (List Int)} : (M.ranM z why at_ ls).1.ans = M.ans := by
  unfold MS.ranM
  split
  · rfl
  · split
    · show (M.ranGo _ why at_ ls).ans = _
      unfold MS.ranGo
      split
      · rfl
      split
      · exact endT_ans
      split
      · exact endT_ans
      · exact stand_ans
    · rfl
theorem wake1_ans (N : MS) (u : Nat) : (N.wake1 u).ans = N.ans := by unfold MS.wake1; split <;> rfl
theorem foldw_ans : ∀ (l : List Nat) (N : MS), (l.foldl MS.wake1 N).ans = N.ans
  | [], N => rfl
  | u :: l, N => by rw [List.foldl_cons, foldw_ans l, wake1_ans]
theorem wake_ans (l : List Nat) : (M.wake l).ans = M.ans := by
  cases l with
  | nil => rfl
  | cons u l => exact foldw_ans (u :: l) M.heard
theorem beginM_ans {z : Int} : (M.beginM z).1.ans = M.ans := by unfold MS.beginM; split <;> rfl
theorem addM_ans {z : Int} : (M.addM z).1.ans = M.ans := by
  unfold MS.addM
  split
  · rfl
  split
  · rfl
  split <;> rfl
theorem spawnedM_ans {z u : Int} : (M.spawnedM z u).1.ans = M.ans := by
  unfold MS.spawnedM
  split
  · rfl
  split
  · rfl
  split
  · rfl
  split <;> rfl
end
def callW (M : MS) (c : Int) (nums : List Int) (vs : List (List Int)) (K : MS → List Int → Prop) : Prop :=
  (c = 0 ∧ ∃ z, nums = [z] ∧ K (M.beginM z).1 (M.beginM z).2) ∨
  (c = 1 ∧ ∃ z, nums = [z] ∧ K (M.addM z).1 (M.addM z).2) ∨
  (c = 2 ∧ (M.ks.any (busyB M) = true → K M.open.close [1, 0]) ∧
    (M.ks.any (busyB M) = false → ∀ l1, Sleep M.open l1 → (M.open.wake l1).told.length < 16000000 ∧
      (∀ n r, (M.open.wake l1).row = n :: r → K ((M.open.wake l1).going n r).close (0 :: (M.open.wake l1).told ++ [(n : Int), (M.open.wake l1).steps])) ∧
      ((M.open.wake l1).row = [] → ∀ l2, Sleep (M.open.wake l1) l2 →
        (∀ s l, l2 = s :: l → K (M.open.wake l1).close (2 :: (M.open.wake l1).told ++ [(M.open.wake l1).tg s])) ∧
        (l2 = [] → (M.open.wake l1).ks.all (endedB (M.open.wake l1)) = true → K (M.open.wake l1).close (3 :: (M.open.wake l1).told)) ∧
        (l2 = [] → (M.open.wake l1).ks.all (endedB (M.open.wake l1)) = false → K (M.open.wake l1).close (4 :: (M.open.wake l1).told))))) ∨
  (c = 3 ∧ ∃ z why at_, nums = [z, why, at_] ∧ vs.length < 100000 ∧ (M.ranM z why at_ vs).2.length < 16000000 ∧ K (M.ranM z why at_ vs).1 (M.ranM z why at_ vs).2) ∨
  (c = 4 ∧ ∃ z u, nums = [z, u] ∧ K (M.spawnedM z u).1 (M.spawnedM z u).2) ∨
  (c = 5 ∧ ∃ z, nums = [z] ∧ K M (M.stateO z)) ∨
  (c = 6 ∧ ∃ z, nums = [z] ∧ K M (M.chanO z)) ∨
  (c = 7 ∧ JoinOk M ∧ ∀ l, Stuck M l → K M (M.stuckO l))
theorem callW.mono {M : MS} {c : Int} {nums : List Int} {vs : List (List Int)} {K K' : MS → List Int → Prop} (h : ∀ M' out, K M' out → K' M' out) (w : callW M c nums vs K) : callW M c nums vs K' := by
  rcases w with ⟨e, z, e2, k⟩ | ⟨e, z, e2, k⟩ | ⟨e, k1, k2⟩ | ⟨e, z, y, x, e2, l1, l2, k⟩ | ⟨e, z, u, e2, k⟩ | ⟨e, z, e2, k⟩ | ⟨e, z, e2, k⟩ | ⟨e, j, k⟩
  · exact .inl ⟨e, z, e2, h _ _ k⟩
  · exact .inr (.inl ⟨e, z, e2, h _ _ k⟩)
  · refine .inr (.inr (.inl ⟨e, fun b => h _ _ (k1 b), fun b l1 s => ?_⟩))
    obtain ⟨q1, q2, q3⟩ := k2 b l1 s
    refine ⟨q1, fun n r e => h _ _ (q2 n r e), fun e l2 s2 => ?_⟩
    obtain ⟨p1, p2, p3⟩ := q3 e l2 s2
    exact ⟨fun s l e => h _ _ (p1 s l e), fun e b => h _ _ (p2 e b), fun e b => h _ _ (p3 e b)⟩
  · exact .inr (.inr (.inr (.inl ⟨e, z, y, x, e2, l1, l2, h _ _ k⟩)))
  · exact .inr (.inr (.inr (.inr (.inl ⟨e, z, u, e2, h _ _ k⟩))))
  · exact .inr (.inr (.inr (.inr (.inr (.inl ⟨e, z, e2, h _ _ k⟩)))))
  · exact .inr (.inr (.inr (.inr (.inr (.inr (.inl ⟨e, z, e2, h _ _ k⟩))))))
  · exact .inr (.inr (.inr (.inr (.inr (.inr (.inr ⟨e, j, fun l s => h _ _ (k l s)⟩))))))
structure Done (M' : MS) (out : List Int) (rl : List Int) (S : State) (call : List (List Int)) (ans : Option (List Int)) : Prop where
  k : ∃ k : Nat, M'.clk = some (rl, k) ∧ (Rd25Neutral.step S call).2 = (k : Int) :: out
  no : M'.ords = none
  inv : Inv M' (Rd25Neutral.step S call).1
  wf : WF (Rd25Neutral.step S call).1
  ans : M'.ans = ans
theorem CallEnd.done {M' : MS} {out rl : List Int} {S : State} {c : Rd25.Call} {call : List (List Int)} {an : Option (List Int)} (h : CallEnd M' out rl S c) (e : Rd25Neutral.callOf call = some (c, rl)) (ha : M'.ans = an) : Done M' out rl S call an := by
  have es : Rd25Neutral.step S call = (((Rd25.spec S c).played rl).1, (((Rd25.spec S c).played rl).2.2.1.length : Int) :: ((Rd25.spec S c).played rl).2.1.value :: Rd25Neutral.told c ((Rd25.spec S c).played rl).2.1) := by
    unfold Rd25Neutral.step
    rw [e]
  exact ⟨⟨_, h.clk, by rw [es, h.out]⟩, h.no, by rw [es]; exact h.inv, by rw [es]; exact h.wf, ha⟩
theorem whole64 {z : Int} (h : Rd25Neutral.whole z 64 = true) : -9223372036854775808 ≤ z ∧ z ≤ 9223372036854775807 := by
  unfold Rd25Neutral.whole NeutralIO.within at h
  rw [Bool.and_eq_true, decide_eq_true_eq, decide_eq_true_eq] at h
  have e : (2 : Int) ^ (64 - 1) = 9223372036854775808 := by decide
  rw [e] at h
  omega
theorem snoc_one {α : Type} {vs : List α} {r l : α} (h : vs ++ [r] = [l]) : vs = [] ∧ r = l := by
  cases vs with
  | nil => exact ⟨rfl, by simpa using h⟩
  | cons a vs =>
    have := congrArg List.length h
    simp at this
theorem call_ok {M : MS} {S : State} {rl : List Int} (I : Inv M S) (W : WF S) (hc : M.clk = some (rl, 0)) (no : M.ords = none) {c : Int} {nums : List Int} {vs : List (List Int)} (ha : Rd25Neutral.asked1 ((c :: nums) :: (vs ++ [rl])) = true)
    (hl : (Rd25Neutral.step S ((c :: nums) :: (vs ++ [rl]))).2.length ≤ 10000000) : callW M c nums vs (fun M' out => Done M' out rl S ((c :: nums) :: (vs ++ [rl])) M.ans) := by
  generalize hcall : (c :: nums) :: (vs ++ [rl]) = call at ha hl ⊢
  unfold Rd25Neutral.asked1 at ha
  split at ha
  · rename_i n l
    have e1 := (List.cons.inj hcall).1
    have e2 := (List.cons.inj hcall).2
    obtain ⟨rfl, rfl⟩ := snoc_one e2
    have e3 : c = 0 := (List.cons.inj e1).1
    have e4 : nums = [n] := (List.cons.inj e1).2
    exact .inl ⟨e3, n, e4, (inv_begin I W hc no n).done rfl beginM_ans⟩
  · rename_i t l
    have e1 := (List.cons.inj hcall).1
    have e2 := (List.cons.inj hcall).2
    obtain ⟨rfl, rfl⟩ := snoc_one e2
    have e3 : c = 1 := (List.cons.inj e1).1
    have e4 : nums = [t] := (List.cons.inj e1).2
    exact .inr (.inl ⟨e3, t, e4, (inv_add I W hc no t).done rfl addM_ans⟩)
  · rename_i l
    have e1 := (List.cons.inj hcall).1
    have e2 := (List.cons.inj hcall).2
    obtain ⟨rfl, rfl⟩ := snoc_one e2
    have e3 : c = 2 := (List.cons.inj e1).1
    obtain ⟨k1, k2⟩ := inv_next I W hc no
    have es : (Rd25Neutral.step S [[2], rl]).2 = (((Rd25.spec S .next).played rl).2.2.1.length : Int) :: ((Rd25.spec S .next).played rl).2.1.value :: Rd25Neutral.told .next ((Rd25.spec S .next).played rl).2.1 := rfl
    rw [es, List.length_cons, List.length_cons] at hl
    refine .inr (.inr (.inl ⟨e3, fun b => (k1 b).done rfl rfl, fun b l1 s => ?_⟩))
    obtain ⟨q1, q2, q3⟩ := k2 b l1 s
    have ea : (M.open.wake l1).ans = M.ans := wake_ans l1
    refine ⟨by omega, fun n r e => (q2 n r e).done rfl ea, fun e l2 s2 => ?_⟩
    obtain ⟨p1, p2, p3⟩ := q3 e l2 s2
    exact ⟨fun s l e => (p1 s l e).done rfl ea, fun e b => (p2 e b).done rfl ea, fun e b => (p3 e b).done rfl ea⟩
  · rename_i t w o r
    have e1 := (List.cons.inj hcall).1
    have e2 := (List.cons.inj hcall).2
    have e3 : c = 3 := (List.cons.inj e1).1
    have e4 : nums = [t, w, o] := (List.cons.inj e1).2
    rw [Bool.and_eq_true, Bool.and_eq_true, Bool.and_eq_true, Bool.and_eq_true, Bool.and_eq_true, decide_eq_true_eq, decide_eq_true_eq, List.all_eq_true] at ha
    obtain ⟨_, _, _, _, a5, a6⟩ := ha
    have hb : ∀ v ∈ vs, ∀ x ∈ v, -9223372036854775808 ≤ x ∧ x ≤ 9223372036854775807 := fun v hv x hx => by
      have h := a6 v (by rw [← e2]; exact List.mem_append_left _ hv)
      unfold Rd25Neutral.clock at h
      rw [Bool.and_eq_true, List.all_eq_true] at h
      exact whole64 (h.2 x hx)
    have eo : Rd25Neutral.callOf ([3, t, w, o] :: r) = some (.ran t w o vs, rl) := by
      rw [← e2]
      show (match (vs ++ [rl]).reverse with
        | l :: vs => some (Rd25.Call.ran t w o vs.reverse, l)
        | [] => none) = _
      rw [List.reverse_append]
      show some (Rd25.Call.ran t w o vs.reverse.reverse, rl) = _
      rw [List.reverse_reverse]
    have D := (inv_ran I W hc no t w o vs hb).done eo ranM_ans
    refine .inr (.inr (.inr (.inl ⟨e3, t, w, o, e4, ?_, ?_, D⟩)))
    · rw [← e2, List.length_append] at a5
      have : ([rl] : List (List Int)).length = 1 := rfl
      omega
    · obtain ⟨k, _, e⟩ := D.k
      rw [e, List.length_cons] at hl
      omega
  · rename_i t u l
    have e1 := (List.cons.inj hcall).1
    obtain ⟨rfl, rfl⟩ := snoc_one (List.cons.inj hcall).2
    exact .inr (.inr (.inr (.inr (.inl ⟨(List.cons.inj e1).1, t, u, (List.cons.inj e1).2, (inv_spawned I W hc no t u).done rfl spawnedM_ans⟩))))
  · rename_i t l
    have e1 := (List.cons.inj hcall).1
    obtain ⟨rfl, rfl⟩ := snoc_one (List.cons.inj hcall).2
    exact .inr (.inr (.inr (.inr (.inr (.inl ⟨(List.cons.inj e1).1, t, (List.cons.inj e1).2, (inv_state I W hc no t).done rfl rfl⟩)))))
  · rename_i t l
    have e1 := (List.cons.inj hcall).1
    obtain ⟨rfl, rfl⟩ := snoc_one (List.cons.inj hcall).2
    exact .inr (.inr (.inr (.inr (.inr (.inr (.inl ⟨(List.cons.inj e1).1, t, (List.cons.inj e1).2, (inv_channel I W hc no t).done rfl rfl⟩))))))
  · rename_i l
    have e1 := (List.cons.inj hcall).1
    obtain ⟨rfl, rfl⟩ := snoc_one (List.cons.inj hcall).2
    exact .inr (.inr (.inr (.inr (.inr (.inr (.inr ⟨(List.cons.inj e1).1, join_ok I W, fun l s => (inv_stuck I W hc no s).done rfl rfl⟩))))))
  · cases ha
end TT
end
section
set_option Elab.async false
set_option linter.all false
set_option maxRecDepth 100000
set_option maxHeartbeats 2000000
open PySem PySem.Spec PyProof.Rows L2
namespace TT
def sp_answer_call (a : Ad) : Sp := fun args H Q _ => ∃ (A : Nm) (W : Wd) (M : MS) (c : Int) (np : Addr) (nums : List Int) (vp : Addr) (ps : List Addr) (vs : List (List Int)), args = [.ref (A .held), .int c, .ref np, .ref vp, .ref (A .clock)] ∧ Pre0 a H A W M ∧ W np = some nums ∧ H vp = some (.lst (ps.map V.ref)) ∧ Toks W ps vs ∧
  callW M c nums vs (fun M' out => Ret a H A W M M' out Q)
section
variable {P : Program} {w : World} {K : PySem.W.Frag} {mg : Str → Option Value} {base : Heap} {a : Ad}
theorem ok_answer_call (T : Tx K mg a) : FnOk P w K mg base CX0 8 a.f_answer_call a.d_answer_call ["held", "call", "numbers", "values", "clock"] (sp_answer_call a) := by
  refine T.F_answer_call.ok sc_answer_call (fun vs H Q E h => ?_) (fun cdv A' outer s H vs Q E hr h => ?_)
  · obtain ⟨A, W, M, c, np, nums, vp, ps, vs, rfl, _⟩ := h
    rfl
  · obtain ⟨A, W, M, c, np, nums, vp, ps, vs, rfl, P0, wn, hvp, tk, cw⟩ := h
    have hnp := P0.R.val np nums wn
    refine ⟨_, (pss_cons (ps_if (pt_cmp (pc_eqI (pv 1) (pe_glob (v := .int (0)) rfl T.c_BEGIN ⟨_, rfl⟩))) (pss_one (ps_ret (pe_call (ok_answer_begin T) (hr.mono (by decide)) rfl T.m_answer_begin T.F_answer_begin.kp (b_answer_begin T) .nil pass0 (pa_cons (pv 0) (pa_cons (pe_ix ix_list (pv 2) pe_int (fun _ _ => rfl)) pa_nil))))) pss_nil)
      (pss_cons (ps_if (pt_cmp (pc_eqI (pv 1) (pe_glob (v := .int (1)) rfl T.c_ADD ⟨_, rfl⟩))) (pss_one (ps_ret (pe_call (ok_answer_add T) (hr.mono (by decide)) rfl T.m_answer_add T.F_answer_add.kp (b_answer_add T) .nil pass0 (pa_cons (pv 0) (pa_cons (pe_ix ix_list (pv 2) pe_int (fun _ _ => rfl)) pa_nil))))) pss_nil)
      (pss_cons (ps_if (pt_cmp (pc_eqI (pv 1) (pe_glob (v := .int (2)) rfl T.c_NEXT ⟨_, rfl⟩))) (pss_one (ps_ret (pe_call (ok_answer_next T) (hr.mono (by decide)) rfl T.m_answer_next T.F_answer_next.kp (b_answer_next T) .nil pass0 (pa_cons (pv 0) (pa_cons (pv 4) pa_nil))))) pss_nil)
      (pss_cons (ps_if (pt_cmp (pc_eqI (pv 1) (pe_glob (v := .int (3)) rfl T.c_RAN ⟨_, rfl⟩))) (pss_one (ps_ret (pe_call (ok_answer_ran T) (hr.mono (by decide)) rfl T.m_answer_ran T.F_answer_ran.kp (b_answer_ran T) .nil pass0 (pa_cons (pv 0) (pa_cons (pe_ix ix_list (pv 2) pe_int (fun _ _ => rfl)) (pa_cons (pe_ix ix_list (pv 2) pe_int (fun _ _ => rfl)) (pa_cons (pe_ix ix_list (pv 2) pe_int (fun _ _ => rfl)) (pa_cons (pv 3) (pa_cons (pv 4) pa_nil))))))))) pss_nil)
      (pss_cons (ps_if (pt_cmp (pc_eqI (pv 1) (pe_glob (v := .int (4)) rfl T.c_SPAWNED ⟨_, rfl⟩))) (pss_one (ps_ret (pe_call (ok_answer_spawned T) (hr.mono (by decide)) rfl T.m_answer_spawned T.F_answer_spawned.kp (b_answer_spawned T) .nil pass0 (pa_cons (pv 0) (pa_cons (pe_ix ix_list (pv 2) pe_int (fun _ _ => rfl)) (pa_cons (pe_ix ix_list (pv 2) pe_int (fun _ _ => rfl)) pa_nil)))))) pss_nil)
      (pss_cons (ps_if (pt_cmp (pc_eqI (pv 1) (pe_glob (v := .int (5)) rfl T.c_STATE ⟨_, rfl⟩))) (pss_one (ps_ret (pe_call (ok_answer_state T) (hr.mono (by decide)) rfl T.m_answer_state T.F_answer_state.kp (b_answer_state T) .nil pass0 (pa_cons (pv 0) (pa_cons (pe_ix ix_list (pv 2) pe_int (fun _ _ => rfl)) pa_nil))))) pss_nil)
      (pss_cons (ps_if (pt_cmp (pc_eqI (pv 1) (pe_glob (v := .int (6)) rfl T.c_CHANNEL_desk ⟨_, rfl⟩))) (pss_one (ps_ret (pe_call (ok_answer_channel T) (hr.mono (by decide)) rfl T.m_answer_channel T.F_answer_channel.kp (b_answer_channel T) .nil pass0 (pa_cons (pv 0) (pa_cons (pe_ix ix_list (pv 2) pe_int (fun _ _ => rfl)) pa_nil))))) pss_nil)
      (pss_cons (ps_if (pt_cmp (pc_eqI (pv 1) (pe_glob (v := .int (7)) rfl T.c_STUCK ⟨_, rfl⟩))) (pss_one (ps_ret (pe_call (ok_answer_stuck T) (hr.mono (by decide)) rfl T.m_answer_stuck T.F_answer_stuck.kp (b_answer_stuck T) .nil pass0 (pa_cons (pv 0) pa_nil)))) pss_nil)
      (pss_one ps_never))))))))), ?_⟩
    refine ⟨_, rfl, _, _, rfl, rfl, _, rfl, ?_⟩
    refine ite2 (fun h => ?_) (fun h => ?_)
    · have h0 : c = 0 := by simpa using h
      rcases cw with ⟨_, z, rfl, k⟩ | ⟨e, _⟩ | ⟨e, _⟩ | ⟨e, _⟩ | ⟨e, _⟩ | ⟨e, _⟩ | ⟨e, _⟩ | ⟨e, _⟩
      · exact ⟨_, rfl, _, rfl, np, _, _, _, rfl, rfl, SqL.of hnp, atI_nat (j := 0) rfl, A, W, M, z, rfl, P0, k⟩
      · rw [h0] at e; cases e
      · rw [h0] at e; cases e
      · rw [h0] at e; cases e
      · rw [h0] at e; cases e
      · rw [h0] at e; cases e
      · rw [h0] at e; cases e
      · rw [h0] at e; cases e
    have h0 : ¬ c = 0 := by simpa using h
    refine ⟨_, rfl, _, _, rfl, rfl, _, rfl, ?_⟩
    refine ite2 (fun h => ?_) (fun h => ?_)
    · have h1 : c = 1 := by simpa using h
      rcases cw with ⟨e, _⟩ | ⟨_, z, rfl, k⟩ | ⟨e, _⟩ | ⟨e, _⟩ | ⟨e, _⟩ | ⟨e, _⟩ | ⟨e, _⟩ | ⟨e, _⟩
      · rw [h1] at e; cases e
      · exact ⟨_, rfl, _, rfl, np, _, _, _, rfl, rfl, SqL.of hnp, atI_nat (j := 0) rfl, A, W, M, z, rfl, P0, k⟩
      · rw [h1] at e; cases e
      · rw [h1] at e; cases e
      · rw [h1] at e; cases e
      · rw [h1] at e; cases e
      · rw [h1] at e; cases e
      · rw [h1] at e; cases e
    have h1 : ¬ c = 1 := by simpa using h
    refine ⟨_, rfl, _, _, rfl, rfl, _, rfl, ?_⟩
    refine ite2 (fun h => ?_) (fun h => ?_)
    · have h2 : c = 2 := by simpa using h
      rcases cw with ⟨e, _⟩ | ⟨e, _⟩ | ⟨_, k1, k2⟩ | ⟨e, _⟩ | ⟨e, _⟩ | ⟨e, _⟩ | ⟨e, _⟩ | ⟨e, _⟩
      · rw [h2] at e; cases e
      · rw [h2] at e; cases e
      · exact ⟨_, rfl, _, rfl, A, W, M, rfl, P0, k1, k2⟩
      · rw [h2] at e; cases e
      · rw [h2] at e; cases e
      · rw [h2] at e; cases e
      · rw [h2] at e; cases e
      · rw [h2] at e; cases e
    have h2 : ¬ c = 2 := by simpa using h
    refine ⟨_, rfl, _, _, rfl, rfl, _, rfl, ?_⟩
    refine ite2 (fun h => ?_) (fun h => ?_)
    · have h3 : c = 3 := by simpa using h
      rcases cw with ⟨e, _⟩ | ⟨e, _⟩ | ⟨e, _⟩ | ⟨_, z, why, at_, rfl, l1, l2, k⟩ | ⟨e, _⟩ | ⟨e, _⟩ | ⟨e, _⟩ | ⟨e, _⟩
      · rw [h3] at e; cases e
      · rw [h3] at e; cases e
      · rw [h3] at e; cases e
      · exact ⟨_, rfl, _, rfl, np, _, _, _, rfl, rfl, SqL.of hnp, atI_nat (j := 0) rfl, _, rfl, np, _, _, _, rfl, rfl, SqL.of hnp, atI_nat (j := 1) rfl, _, rfl, np, _, _, _, rfl, rfl, SqL.of hnp, atI_nat (j := 2) rfl, _, rfl, _, rfl, A, W, M, z, why, at_, vp, ps, vs, rfl, P0, hvp, tk, l1, l2, k⟩
      · rw [h3] at e; cases e
      · rw [h3] at e; cases e
      · rw [h3] at e; cases e
      · rw [h3] at e; cases e
    have h3 : ¬ c = 3 := by simpa using h
    refine ⟨_, rfl, _, _, rfl, rfl, _, rfl, ?_⟩
    refine ite2 (fun h => ?_) (fun h => ?_)
    · have h4 : c = 4 := by simpa using h
      rcases cw with ⟨e, _⟩ | ⟨e, _⟩ | ⟨e, _⟩ | ⟨e, _⟩ | ⟨_, z, u, rfl, k⟩ | ⟨e, _⟩ | ⟨e, _⟩ | ⟨e, _⟩
      · rw [h4] at e; cases e
      · rw [h4] at e; cases e
      · rw [h4] at e; cases e
      · rw [h4] at e; cases e
      · exact ⟨_, rfl, _, rfl, np, _, _, _, rfl, rfl, SqL.of hnp, atI_nat (j := 0) rfl, _, rfl, np, _, _, _, rfl, rfl, SqL.of hnp, atI_nat (j := 1) rfl, A, W, M, z, u, rfl, P0, k⟩
      · rw [h4] at e; cases e
      · rw [h4] at e; cases e
      · rw [h4] at e; cases e
    have h4 : ¬ c = 4 := by simpa using h
    refine ⟨_, rfl, _, _, rfl, rfl, _, rfl, ?_⟩
    refine ite2 (fun h => ?_) (fun h => ?_)
    · have h5 : c = 5 := by simpa using h
      rcases cw with ⟨e, _⟩ | ⟨e, _⟩ | ⟨e, _⟩ | ⟨e, _⟩ | ⟨e, _⟩ | ⟨_, z, rfl, k⟩ | ⟨e, _⟩ | ⟨e, _⟩
      · rw [h5] at e; cases e
      · rw [h5] at e; cases e
      · rw [h5] at e; cases e
      · rw [h5] at e; cases e
      · rw [h5] at e; cases e
      · exact ⟨_, rfl, _, rfl, np, _, _, _, rfl, rfl, SqL.of hnp, atI_nat (j := 0) rfl, A, W, M, z, rfl, P0, k⟩
      · rw [h5] at e; cases e
      · rw [h5] at e; cases e
    have h5 : ¬ c = 5 := by simpa using h
    refine ⟨_, rfl, _, _, rfl, rfl, _, rfl, ?_⟩
    refine ite2 (fun h => ?_) (fun h => ?_)
    · have h6 : c = 6 := by simpa using h
      rcases cw with ⟨e, _⟩ | ⟨e, _⟩ | ⟨e, _⟩ | ⟨e, _⟩ | ⟨e, _⟩ | ⟨e, _⟩ | ⟨_, z, rfl, k⟩ | ⟨e, _⟩
      · rw [h6] at e; cases e
      · rw [h6] at e; cases e
      · rw [h6] at e; cases e
      · rw [h6] at e; cases e
      · rw [h6] at e; cases e
      · rw [h6] at e; cases e
      · exact ⟨_, rfl, _, rfl, np, _, _, _, rfl, rfl, SqL.of hnp, atI_nat (j := 0) rfl, A, W, M, z, rfl, P0, k⟩
      · rw [h6] at e; cases e
    have h6 : ¬ c = 6 := by simpa using h
    refine ⟨_, rfl, _, _, rfl, rfl, _, rfl, ?_⟩
    refine ite2 (fun h => ?_) (fun h => ?_)
    · have h7 : c = 7 := by simpa using h
      rcases cw with ⟨e, _⟩ | ⟨e, _⟩ | ⟨e, _⟩ | ⟨e, _⟩ | ⟨e, _⟩ | ⟨e, _⟩ | ⟨e, _⟩ | ⟨_, j, k⟩
      · rw [h7] at e; cases e
      · rw [h7] at e; cases e
      · rw [h7] at e; cases e
      · rw [h7] at e; cases e
      · rw [h7] at e; cases e
      · rw [h7] at e; cases e
      · rw [h7] at e; cases e
      · exact ⟨_, rfl, A, W, M, rfl, P0, j, k⟩
    have h7 : ¬ c = 7 := by simpa using h
    rcases cw with ⟨e, _⟩ | ⟨e, _⟩ | ⟨e, _⟩ | ⟨e, _⟩ | ⟨e, _⟩ | ⟨e, _⟩ | ⟨e, _⟩ | ⟨e, _⟩
    · exact absurd e h0
    · exact absurd e h1
    · exact absurd e h2
    · exact absurd e h3
    · exact absurd e h4
    · exact absurd e h5
    · exact absurd e h6
    · exact absurd e h7
end
section
variable {a : Ad} {H H' : Hp} {A : Nm} {W : Wd} {M : MS}
theorem Rep.notW (R : Rep a H A W M) {x : Addr} {o : HO} (hx : H x = some o) (hl : ∀ xs, o ≠ .lst xs) : W x = none := by
  cases e : W x with
  | none => rfl
  | some l =>
    rw [R.val x l e] at hx
    exact absurd (Option.some.inj hx).symm (hl _)
theorem Rep.kept_ (R : Rep a H A W M) {x : Addr} {o : HO} (hx : H x = some o) (hl : ∀ xs, o ≠ .lst xs) (fx : ∀ r, live M r → A r ≠ x) (k : Kept x H H') : Rep a H' A W M :=
  ⟨fun r l => let ⟨o, e, c⟩ := R.at_ r l; ⟨o, k _ _ e (fx r l), c⟩, R.inj, fun p l e => k _ _ (R.val p l e) (fun z => by rw [z, R.notW hx hl] at e; cases e), R.sep⟩
theorem map_int_inj {l l' : List Int} (h : l.map V.int = l'.map V.int) : l = l' := by
  induction l generalizing l' with
  | nil => cases l' with
    | nil => rfl
    | cons _ _ => cases h
  | cons x l ih => cases l' with
    | nil => cases h
    | cons y l' =>
      rw [List.map_cons, List.map_cons] at h
      injection h with h1 h2
      injection h1 with h1
      rw [h1, ih h2]
theorem Rep.note (R : Rep a H A W M) {p : Addr} {l : List Int} (hp : H p = some (.lst (l.map V.int))) (fp : ∀ r, live M r → A r ≠ p) : Rep a H A (wput W p l) M ∧ WLe W (wput W p l) := by
  have wl : WLe W (wput W p l) := fun q v e => by
    unfold wput
    by_cases h : q = p
    · subst h
      rw [if_pos rfl]
      have e2 := R.val q v e
      rw [hp] at e2
      have e3 : l.map V.int = v.map V.int := by
        have := Option.some.inj e2
        injection this
      rw [map_int_inj e3]
    · rw [if_neg h]; exact e
  refine ⟨⟨fun r lv => ?_, R.inj, fun q v e => ?_, fun r lv => ?_⟩, wl⟩
  · obtain ⟨o, e, c⟩ := R.at_ r lv
    exact ⟨o, e, c.mono wl⟩
  · unfold wput at e
    by_cases h : q = p
    · rw [if_pos h] at e
      cases e
      rw [h]
      exact hp
    · rw [if_neg h] at e
      exact R.val q v e
  · unfold wput
    rw [if_neg (fp r lv)]
    exact R.sep r lv
theorem Rep.notes {ps : List Addr} {ls : List (List Int)} (h : Paired (fun p (l : List Int) => H p = some (.lst (l.map V.int)) ∧ ∀ r, live M r → A r ≠ p) ps ls) : ∀ {W : Wd}, Rep a H A W M → ∃ W', Rep a H A W' M ∧ WLe W W' ∧ Toks W' ps ls := by
  induction h with
  | nil => intro W R; exact ⟨W, R, WLe.refl W, .nil⟩
  | @cons p l ps ls e _ ih =>
    intro W R
    obtain ⟨R1, wl1⟩ := R.note e.1 e.2
    obtain ⟨W2, R2, wl2, t⟩ := ih R1
    exact ⟨W2, R2, wl1.trans wl2, .cons (wl2 _ _ wput_at) t⟩
def nmClk (A : Nm) (p : Addr) : Nm := fun r => if r = .clock then p else A r
def MS.tick (M : MS) (rl : List Int) : MS := { M with clk := some (rl, 0) }
def MS.untick (M : MS) : MS := { M with clk := none }
theorem Rep.openClock (R : Rep a H A W M) (ck : M.clk = none) (s1 : Same H H') {x dx pc : Addr} {rl : List Int} (nx : H x = none) (hx : H' x = some (.ins a.C_Clock dx (clockF pc 0))) (wp : W pc = some rl) : Rep a H' (nmClk A x) W (M.tick rl) := by
  have ew : nmClk A x .clock = x := by unfold nmClk; rw [if_pos rfl]
  have eo : ∀ {r : Role}, r ≠ .clock → nmClk A x r = A r := fun h => by unfold nmClk; rw [if_neg h]
  have rse : ∀ l : List Nat, rs (nmClk A x) l = rs A l := fun l => rs_congr fun k _ => eo (by intro e; cases e)
  have R1 := R.same s1
  have lm : ∀ {r : Role}, live (M.tick rl) r → r ≠ .clock → live M r := fun {r} l h => by
    cases r with
    | clock => exact absurd rfl h
    | _ => exact l
  refine R1.grow (fun r => r = .clock) (fun r l h => ⟨lm l h, eo h⟩) (fun r l h => ?_) (fun r r' h h' _ => h.trans h'.symm) (fun r l => ?_) (fun q v e => R1.val q v e)
  · subst h
    rw [ew]
    exact ⟨fun r0 l0 => R.neN l0 nx, R.noW nx⟩
  · by_cases h1 : r = .clock
    · subst h1
      exact ⟨_, by rw [ew]; exact hx, rl, 0, rfl, dx, pc, rfl, wp⟩
    obtain ⟨o, e, c⟩ := R1.at_ r (lm l h1)
    refine ⟨o, by rw [eo h1]; exact e, ?_⟩
    cases r with
    | row => show o = HO.lst (rs _ M.row); rw [rse]; exact c
    | tasks => show o = HO.dK (tkv _ M.ks); rw [tkv_congr fun k _ => eo (by intro e; cases e)]; exact c
    | wait k => show o = HO.lst (rs _ (M.wt k)); rw [rse]; exact c
    | snd j =>
      obtain ⟨c1, q1, q2⟩ := c
      exact ⟨c1, q1, by rw [rse]; exact q2⟩
    | rcv j =>
      obtain ⟨c1, q1, q2⟩ := c
      exact ⟨c1, q1, by rw [rse]; exact q2⟩
    | clock => exact absurd rfl h1
    | _ => exact c
theorem live_untick {r : Role} (l : live M.untick r) : live M r := by
  cases r with
  | clock => cases l
  | _ => exact l
theorem Rep.untick (R : Rep a H A W M) : Rep a H A W M.untick := by
  refine ⟨fun r l => ?_, fun r r' l l' => R.inj r r' (live_untick l) (live_untick l'), R.val, fun r l => R.sep r (live_untick l)⟩
  obtain ⟨o, e, c⟩ := R.at_ r (live_untick l)
  refine ⟨o, e, ?_⟩
  cases r with
  | clock => cases l
  | _ => exact c
theorem Rep.setAns (R : Rep a H A W M) (hl : M.ans.isSome = true) (l : List Int) : Rep a (upd H (A .ans) (.lst (l.map V.int))) A W { M with ans := some l } := by
  refine R.put (r0 := .ans) hl (fun r lv => ?_) ⟨l, rfl, rfl⟩ fun r hr lv o c' => ?_
  · cases r with
    | ans => exact hl
    | _ => exact lv
  · cases r <;> first | exact c' | exact absurd rfl hr
end
end TT
end
section
set_option Elab.async false
set_option linter.all false
set_option maxRecDepth 100000
set_option maxHeartbeats 4000000
open PySem PySem.Spec PyProof.Rows L2
namespace TT
def sp_answers (K : PySem.W.Frag) : Sp := fun vs H Q _ => ∃ (p : Addr) (ns : List Int), vs = [.ref p] ∧ SqL K H p (ns.map V.int) ∧ PyRd25.answers_asked ns = true ∧
  ∀ H' q, H' q = some (.lst ((PyRd25.answers ns).map V.int)) → Q (.ref q) H'
def M0 : MS := { steps := 1, now := 0, ks := [], st := fun _ => 0, tg := fun _ => 0, val := fun _ => [], wt := fun _ => [], row := [], ch := [], clk := none, ords := none, ans := some [] }
def nm0 (x t c r q : Addr) : Nm
  | .held => x
  | .tasks => t
  | .chs => c
  | .row => r
  | .ans => q
  | _ => 0
theorem Rep.init {a : Ad} {H : Hp} {x dx t c r q : Addr} (hx : H x = some (.ins a.C_Held dx (heldF 1 t c r 0))) (ht : H t = some (.dK [])) (hc : H c = some (.lst [])) (hr : H r = some (.lst [])) (hq : H q = some (.lst [])) (cr : c ≠ r) (cq : c ≠ q) (rq : r ≠ q) :
    Rep a H (nm0 x t c r q) (fun _ => none) M0 := by
  have xt : x ≠ t := ne_of hx ht (by intro e; cases e)
  have xc : x ≠ c := ne_of hx hc (by intro e; cases e)
  have xr : x ≠ r := ne_of hx hr (by intro e; cases e)
  have xq : x ≠ q := ne_of hx hq (by intro e; cases e)
  have tc : t ≠ c := ne_of ht hc (by intro e; cases e)
  have tr : t ≠ r := ne_of ht hr (by intro e; cases e)
  have tq : t ≠ q := ne_of ht hq (by intro e; cases e)
  have no : ∀ {ρ : Role}, live M0 ρ → ρ = .held ∨ ρ = .tasks ∨ ρ = .chs ∨ ρ = .row ∨ ρ = .ans := fun {ρ} l => by
    cases ρ with
    | held => exact .inl rfl
    | tasks => exact .inr (.inl rfl)
    | chs => exact .inr (.inr (.inl rfl))
    | row => exact .inr (.inr (.inr (.inl rfl)))
    | ans => exact .inr (.inr (.inr (.inr rfl)))
    | clock => cases l
    | orders => cases l
    | task k => exact absurd l (by show ¬ k ∈ []; simp)
    | wait k => exact absurd l (by show ¬ k ∈ []; simp)
    | chan k => exact absurd l (Nat.not_lt_zero k)
    | kept k => exact absurd l (Nat.not_lt_zero k)
    | snd k => exact absurd l (Nat.not_lt_zero k)
    | rcv k => exact absurd l (Nat.not_lt_zero k)
  refine ⟨fun ρ l => ?_, fun ρ ρ' l l' e => ?_, (fun p l e => by cases e), fun _ _ => rfl⟩
  · rcases no l with rfl | rfl | rfl | rfl | rfl
    · exact ⟨_, hx, dx, rfl⟩
    · exact ⟨_, ht, rfl⟩
    · exact ⟨_, hc, rfl⟩
    · exact ⟨_, hr, rfl⟩
    · exact ⟨_, hq, [], rfl, rfl⟩
  · rcases no l with rfl | rfl | rfl | rfl | rfl <;> rcases no l' with rfl | rfl | rfl | rfl | rfl <;> first
      | rfl
      | exact absurd e xt | exact absurd e xc | exact absurd e xr | exact absurd e xq | exact absurd e tc | exact absurd e tr | exact absurd e tq | exact absurd e cr | exact absurd e cq | exact absurd e rq
      | exact absurd e.symm xt | exact absurd e.symm xc | exact absurd e.symm xr | exact absurd e.symm xq | exact absurd e.symm tc | exact absurd e.symm tr | exact absurd e.symm tq | exact absurd e.symm cr | exact absurd e.symm cq | exact absurd e.symm rq
theorem inv0 : Inv M0 Rd25Neutral.start := ⟨rfl, rfl, rfl, List.Perm.refl _, (fun n d h => nomatch h), (fun n h => nomatch h), rfl, (fun i c h => nomatch h), (fun n h => nomatch h)⟩
theorem wf0 : WF Rd25Neutral.start := ⟨List.nodup_nil, (fun n h => nomatch h), List.nodup_nil, (fun n h => nomatch h), (fun t u h => nomatch h), (fun t c v h => nomatch h), (fun t c h => nomatch h), (fun k h => nomatch h), Nat.zero_le _, Nat.zero_le _, Nat.zero_le _⟩
theorem asked_rows {c : Int} {nums : List Int} {xs : List (List Int)} (h : Rd25Neutral.asked1 ((c :: nums) :: xs) = true) : ∃ vs rl, xs = vs ++ [rl] ∧ xs.length ≤ 101 := by
  have one : ∀ l : List Int, ∃ (vs : List (List Int)) (rl : List Int), [l] = vs ++ [rl] ∧ ([l] : List (List Int)).length ≤ 101 := fun l => ⟨[], l, rfl, by show 1 ≤ 101; decide⟩
  unfold Rd25Neutral.asked1 at h
  split at h
  · rename_i e; rw [(List.cons.inj e).2]; exact one _
  · rename_i e; rw [(List.cons.inj e).2]; exact one _
  · rename_i e; rw [(List.cons.inj e).2]; exact one _
  · rename_i r e
    rw [(List.cons.inj e).2]
    rw [Bool.and_eq_true, Bool.and_eq_true, Bool.and_eq_true, Bool.and_eq_true, Bool.and_eq_true, decide_eq_true_eq, decide_eq_true_eq] at h
    obtain ⟨_, _, _, a4, a5, _⟩ := h
    refine ⟨r.dropLast, r.getLast (by intro z; rw [z] at a4; exact absurd a4 (by decide)), (List.dropLast_concat_getLast _).symm, a5⟩
  · rename_i e; rw [(List.cons.inj e).2]; exact one _
  · rename_i e; rw [(List.cons.inj e).2]; exact one _
  · rename_i e; rw [(List.cons.inj e).2]; exact one _
  · rename_i e; rw [(List.cons.inj e).2]; exact one _
  · cases h
theorem paired_snoc_inv {α β : Type} {F : α → β → Prop} {m : List β} {y : β} : ∀ {l : List α}, Paired F l (m ++ [y]) → ∃ l' x, l = l' ++ [x] ∧ Paired F l' m ∧ F x y := by
  induction m with
  | nil =>
    intro l h
    cases h with
    | cons e t => cases t; exact ⟨[], _, rfl, .nil, e⟩
  | cons b m ih =>
    intro l h
    cases h with
    | @cons a' _ as _ e t =>
      obtain ⟨l', x, e1, p, f⟩ := ih t
      exact ⟨a' :: l', x, by rw [e1]; rfl, .cons e p, f⟩
theorem cut_last (ps : List Addr) (pc : Addr) : cutV ((ps ++ [pc]).map V.ref) none (some (-1)) = ps.map V.ref := by
  unfold cutV
  have hl : ((ps ++ [pc]).map V.ref).length = ps.length + 1 := by rw [List.length_map, List.length_append]; rfl
  have e : HT.sIx ((ps ++ [pc]).map V.ref).length ((ps ++ [pc]).map V.ref).length (some (-1)) = ps.length := by
    rw [hl]
    show (if (-1 : Int) < 0 then ((-1 : Int) + ((ps.length + 1 : Nat) : Int)).toNat else min (-1 : Int).toNat (ps.length + 1)) = _
    rw [if_pos (by decide)]
    omega
  rw [e, HT.sIx_none, List.drop_zero, Nat.sub_zero, List.map_append]
  have : ps.length = (ps.map V.ref).length := by rw [List.length_map]
  rw [this, List.take_left]
theorem InvX.plain {M : MS} {S : Rd25.State} (I : Inv M S) (ck : Option (List Int × Nat)) (an : Option (List Int)) : Inv { M with clk := ck, ans := an } S := ⟨I.steps, I.now, I.row, I.keys, I.does, I.vlen, I.chl, I.chs, I.wt⟩
structure LI (a : Ad) (K : PySem.W.Frag) (H0 H : Hp) (A : Nm) (W : Wd) (M : MS) (S : Rd25.State) (h x p q : Addr) (ns : List Int) (i : Nat) (rest : List (List (List Int))) (done : List Int) : Prop where
  R : Rep a H A W M
  ck : M.clk = none
  no : M.ords = none
  an : M.ans = some done
  I : Inv M S
  wf : WF S
  rd : Reads a K H x p ns i
  dr : ns.drop i = PyWide.put rest
  ok : ∀ c ∈ rest, PyWide.okCall c ∧ Rd25Neutral.asked1 c = true
  tot : done ++ PyFlat.told (PyFlat.played Rd25Neutral.step S rest) = PyRd25.answers ns
  same : Same H0 H
  f0 : ∀ r, live M r → H0 (A r) = none
  fx : ∀ r, live M r → A r ≠ x
  x0 : H0 x = none
  hA : A .held = h
  qA : A .ans = q
section
variable {P : Program} {w : World} {K : PySem.W.Frag} {mg : Str → Option Value} {base : Heap} {a : Ad}
theorem ok_answers (T : Tx K mg a) : FnOk P w K mg base CX0 9 a.f_answers a.d_answers ["calls"] (sp_answers K) := by
  refine T.F_answers.ok sc_answers (fun vs H Q E h => ?_) (fun cdv A' outer s H0 vs Q E hr h => ?_)
  · obtain ⟨p, ns, rfl, _⟩ := h
    rfl
  · obtain ⟨p, ns, rfl, hS, hask, k⟩ := h
    obtain ⟨cs, hcs⟩ : ∃ cs, PyRd25.calls ns = some cs := by
      unfold PyRd25.answers_asked at hask
      cases e : PyRd25.calls ns with
      | none => rw [e] at hask; cases hask
      | some cs => exact ⟨cs, rfl⟩
    unfold PyRd25.answers_asked at hask
    rw [hcs] at hask
    dsimp only at hask
    rw [Bool.and_eq_true, Bool.and_eq_true] at hask
    obtain ⟨⟨_, hask1⟩, hshort⟩ := hask
    have hshort : (PyRd25.answers ns).length ≤ 10000000 := of_decide_eq_true hshort
    unfold Rd25Neutral.asked at hask1
    rw [Bool.and_eq_true, List.all_eq_true] at hask1
    obtain ⟨hput, hokc⟩ := PyWide.put_calls _ _ _ hcs
    have hans : PyRd25.answers ns = PyFlat.told (PyFlat.played Rd25Neutral.step Rd25Neutral.start cs) := by unfold PyRd25.answers; rw [hcs]
    refine ⟨_, (pss_cons (ps_set (i := 1) sc_answers.nd rfl (Or.inl rfl) (pe_make0 T.k_Held (ok_Held_init T) (hr.mono (by decide)) rfl T.m_Held (b_Held_init T) .nil pass0))
      (pss_cons (ps_set (i := 2) sc_answers.nd rfl (Or.inl rfl) (pe_make T.k_Reader (ok_Reader_init T) (hr.mono (by decide)) rfl T.m_Reader (b_Reader_init T) .nil pass0 (pa_cons (pv 0) pa_nil)))
      (pss_cons (ps_set (i := 3) sc_answers.nd rfl (Or.inl rfl) (pe_lst pa_nil))
      (pss_cons (ps_while PassesOwn.never (pt_truth (pe_meth0 (pv 2) T.l_Reader T.M_Reader_has_more (ok_Reader_has_more T) (hr.mono (by decide)) (b_Reader_has_more T) .nil pass0) (fun _ => rfl)) (pss_cons (ps_set (i := 4) sc_answers.nd rfl (Or.inl rfl) (pe_meth0 (pv 2) T.l_Reader T.M_Reader_take_number (ok_Reader_take_number T) (hr.mono (by decide)) (b_Reader_take_number T) .nil pass0))
      (pss_cons (ps_set (i := 5) sc_answers.nd rfl (Or.inl rfl) (pe_meth0 (pv 2) T.l_Reader T.M_Reader_take_list (ok_Reader_take_list T) (hr.mono (by decide)) (b_Reader_take_list T) .nil pass0))
      (pss_cons (ps_set (i := 6) sc_answers.nd rfl (Or.inl rfl) (pe_meth0 (pv 2) T.l_Reader T.M_Reader_take_lists (ok_Reader_take_lists T) (hr.mono (by decide)) (b_Reader_take_lists T) .nil pass0))
      (pss_cons (ps_set (i := 7) sc_answers.nd rfl (Or.inl rfl) (pe_make T.k_Clock (ok_Clock_init T) (hr.mono (by decide)) rfl T.m_Clock (b_Clock_init T) .nil pass0 (pa_cons (pe_ix ix_list (pv 6) (pe_un un_neg pe_int) (fun _ _ => rfl)) pa_nil)))
      (pss_cons (ps_set (i := 8) sc_answers.nd rfl (Or.inl rfl) (pe_call (ok_answer_call T) (hr.mono (by decide)) rfl T.m_answer_call T.F_answer_call.kp (b_answer_call T) .nil pass0 (pa_cons (pv 1) (pa_cons (pv 4) (pa_cons (pv 5) (pa_cons (pe_slice sl_list (pv 6) po_none (po_some (pe_un un_neg pe_int))) (pa_cons (pv 7) pa_nil)))))))
      (pss_cons (ps_expr (pe_bm PySem.F.plainAttrs_list PySem.F.slot_list_append PySem.F.type_list_append mt_append (pv 3) (pa_cons (pe_op op_add pe_int (pe_callB (call_len_seq) (by rfl) T.n_len PySem.boot_len (pa_cons (pv 8) pa_nil))) pa_nil)))
      (pss_cons (ps_expr (pe_bm PySem.F.plainAttrs_list PySem.F.slot_list_append PySem.F.type_list_append mt_append (pv 3) (pa_cons (pe_fld (pv 7) rfl) pa_nil)))
      (pss_one (ps_expr (pe_bm PySem.F.plainAttrs_list PySem.F.slot_list_extend PySem.F.type_list_extend mt_extend (pv 3) (pa_cons (pv 8) pa_nil))))))))))))
      (pss_one (ps_ret (pv 3))))))), ?_⟩
    intro h dh nh ndh neh
    refine ⟨h, dh, rfl, upd_same, fun H1 t c r hh1 nt nc nr tc tr cr ht hc hr1 kp1 => ⟨rfl, ?_⟩⟩
    have back1 : ∀ {b : Addr}, (upd (upd H0 dh (.own h)) h (.ins a.C_Held dh [])) b = none → H0 b = none := fun {b} e => by
      cases e' : H0 b with
      | none => rfl
      | some o => rw [upd_ne (ne_of_none e' nh), upd_ne (ne_of_none e' ndh), e'] at e; cases e
    have s01 : Same H0 H1 := Same.made nh ndh kp1
    refine ⟨_, rfl, ?_⟩
    intro x dx nx ndx nex
    refine ⟨x, dx, p, rfl, upd_same, fun H2 hx2 kx2 => ⟨rfl, ?_⟩⟩
    have s12 : Same H1 H2 := Same.made nx ndx kx2
    have x0 : H0 x = none := s01.free nx
    refine ⟨Nat.zero_le _, fun q nq => ?_⟩
    have s23 : Same H2 (upd H2 q (.lst [])) := same_new nq
    have s03 := (s01.trans s12).trans s23
    have R0 : Rep a (upd H2 q (.lst [])) (nm0 h t c r q) (fun _ => none) M0 := Rep.init (s23 _ _ (s12 _ _ hh1)) (s23 _ _ (s12 _ _ ht)) (s23 _ _ (s12 _ _ hc)) (s23 _ _ (s12 _ _ hr1)) upd_same cr (ne_of_none (s12 _ _ hc) nq) (ne_of_none (s12 _ _ hr1) nq)
    have rd0 : Reads a K (upd H2 q (.lst [])) x p ns 0 := ⟨⟨dx, s23 _ _ hx2⟩, s03.seq hS⟩
    have live0 : ∀ ρ, live M0 ρ → H0 (nm0 h t c r q ρ) = none ∧ nm0 h t c r q ρ ≠ x := fun ρ l => by
      have tx : ∀ {b : Addr} {o : HO}, H1 b = some o → b ≠ x := fun e => ne_of_none e nx
      cases ρ with
      | held => exact ⟨nh, tx hh1⟩
      | tasks => exact ⟨back1 nt, tx ht⟩
      | chs => exact ⟨back1 nc, tx hc⟩
      | row => exact ⟨back1 nr, tx hr1⟩
      | ans => exact ⟨(s01.trans s12).free nq, fun e => by rw [show nm0 h t c r q .ans = q from rfl] at e; rw [e, hx2] at nq; cases nq⟩
      | clock => cases l
      | orders => cases l
      | task k => exact absurd l (by show ¬ k ∈ []; simp)
      | wait k => exact absurd l (by show ¬ k ∈ []; simp)
      | chan k => exact absurd l (Nat.not_lt_zero k)
      | kept k => exact absurd l (Nat.not_lt_zero k)
      | snd k => exact absurd l (Nat.not_lt_zero k)
      | rcv k => exact absurd l (Nat.not_lt_zero k)
    have L0 : LI a K H0 (upd H2 q (.lst [])) (nm0 h t c r q) (fun _ => none) M0 Rd25Neutral.start h x p q ns 0 cs [] :=
      ⟨R0, rfl, rfl, rfl, inv0, wf0, rd0, by rw [List.drop_zero]; exact hput, fun c hc => ⟨hokc c hc, hask1.1 c hc⟩, by rw [hans]; rfl, s03, fun ρ l => (live0 ρ l).1, fun ρ l => (live0 ρ l).2, x0, rfl, rfl⟩
    refine ⟨fun m σ H => ∃ (v4 v5 v6 v7 v8 : Option V) (A : Nm) (W : Wd) (M : MS) (S : Rd25.State) (i : Nat) (rest : List (List (List Int))) (done : List Int), σ = [some (.ref p), some (.ref h), some (.ref x), some (.ref q), v4, v5, v6, v7, v8] ∧ m = rest.length ∧ LI a K H0 H A W M S h x p q ns i rest done,
      ⟨_, none, none, none, none, none, _, _, _, _, _, _, _, rfl, rfl, L0⟩, ?_⟩
    rintro m σ H ⟨v4, v5, v6, v7, v8, A, W, M, S, i, rest, done, rfl, rfl, L⟩
    obtain ⟨dxi, hxi⟩ := L.rd.obj
    refine ⟨_, rfl, _, dxi, _, rfl, hxi, rfl, x, p, ns, i, rfl, L.rd, _, rfl, ?_⟩
    cases rest with
    | nil =>
      have hi : ns.length ≤ i := by
        have e := L.dr
        exact List.drop_eq_nil_iff.mp e
      rw [decide_eq_false (by omega)]
      refine iteF ?_
      refine ⟨_, rfl, ?_⟩
      have e := L.tot
      rw [show PyFlat.told (PyFlat.played Rd25Neutral.step S []) = [] from rfl, List.append_nil] at e
      refine k _ _ ?_
      rw [← e, ← L.qA]
      exact L.R.ans L.an
    | cons call rest =>
      obtain ⟨⟨z, nums, xs, rfl⟩, hask1⟩ := L.ok call List.mem_cons_self
      obtain ⟨vs, rl, rfl, hxl⟩ := asked_rows hask1
      have hdr : ns.drop i = z :: (PyFlat.putRow nums ++ (((vs ++ [rl]).length : Int) :: (PyFlat.putRows (vs ++ [rl]) ++ PyWide.put rest))) := L.dr.trans (PyWide.put1_append z nums (vs ++ [rl]) (PyWide.put rest))
      obtain ⟨hi, _, hd1⟩ := drop_next hdr
      rw [decide_eq_true hi]
      refine iteT ?_
      refine ⟨fun σ' H' => ∃ (v4 v5 v6 v7 v8 : Option V) (A : Nm) (W : Wd) (M : MS) (S : Rd25.State) (i : Nat) (done : List Int), σ' = [some (.ref p), some (.ref h), some (.ref x), some (.ref q), v4, v5, v6, v7, v8] ∧ LI a K H0 H' A W M S h x p q ns i rest done, ?_, ?_⟩
      · rintro σ' H' ⟨u4, u5, u6, u7, u8, A2, W2, M2, S2, i2, d2, e, L2⟩
        exact ⟨rest.length, by rw [List.length_cons]; omega, u4, u5, u6, u7, u8, A2, W2, M2, S2, i2, rest, d2, e, rfl, L2⟩
      refine ⟨_, rfl, _, dxi, _, rfl, hxi, rfl, x, p, ns, i, z, _, rfl, L.rd, hdr, fun H1 Rd1 k1 => ?_⟩
      have R1 := L.R.kept_ hxi (fun _ e => by cases e) L.fx k1
      obtain ⟨dx1, hx1⟩ := Rd1.obj
      refine ⟨_, rfl, _, dx1, _, rfl, hx1, rfl, x, p, ns, i + 1, nums, _, rfl, Rd1, hd1, fun H2' qn Rd2 k2 nqn hqn => ?_⟩
      have R2 := R1.kept_ hx1 (fun _ e => by cases e) L.fx k2
      obtain ⟨R2n, wl2⟩ := R2.note hqn fun ρ l => R1.neN l nqn
      have wn : wput W qn nums qn = some nums := wput_at
      obtain ⟨dx2, hx2'⟩ := Rd2.obj
      have hd2 : ns.drop (i + 1 + 1 + nums.length) = ((vs ++ [rl]).length : Int) :: (PyFlat.putRows (vs ++ [rl]) ++ PyWide.put rest) := by
        obtain ⟨q1, _, q3⟩ := drop_next (show ns.drop (i + 1) = (nums.length : Int) :: (nums ++ (((vs ++ [rl]).length : Int) :: (PyFlat.putRows (vs ++ [rl]) ++ PyWide.put rest))) from hd1)
        exact (drop_len q3 (by omega)).2.2
      refine ⟨_, rfl, _, dx2, _, rfl, hx2', rfl, x, p, ns, _, vs ++ [rl], PyWide.put rest, rfl, Rd2, hd2, by omega, fun H3 ql ps j Rd3 hd3 k3 nql hql pr => ?_⟩
      have R3 := R2n.kept_ hx2' (fun _ e => by cases e) L.fx k3
      obtain ⟨W3, R3n, wl3, tk⟩ := Rep.notes (Paired.mapP pr fun p l z => ⟨z.2, fun ρ lv => R2n.neN lv z.1⟩) R3
      obtain ⟨ps', pc, rfl, tk', wpc⟩ := paired_snoc_inv tk
      obtain ⟨dx3, hx3⟩ := Rd3.obj
      have sH3 : Same H0 H3 := fun b o e => by
        have bx : b ≠ x := ne_of_none e L.x0
        exact k3 b o (k2 b o (k1 b o (L.same b o e) bx) bx) bx
      refine ⟨_, rfl, _, rfl, ql, _, _, V.ref pc, rfl, rfl, SqL.of hql, by rw [List.map_append]; exact atI_last _ _, ?_⟩
      intro x2 dxc nx2 ndx2 ne2
      refine ⟨x2, dxc, pc, rfl, upd_same, fun H4 hx4 kp4 => ⟨rfl, ?_⟩⟩
      have s34 : Same H3 H4 := Same.made nx2 ndx2 kp4
      have R4 := R3n.openClock L.ck s34 nx2 hx4 wpc
      have eh : nmClk A x2 .held = h := by unfold nmClk; rw [if_neg (by intro e; cases e)]; exact L.hA
      have ec : nmClk A x2 .clock = x2 := by unfold nmClk; rw [if_pos rfl]
      have ea : nmClk A x2 .ans = q := by unfold nmClk; rw [if_neg (by intro e; cases e)]; exact L.qA
      refine ⟨_, rfl, _, rfl, _, rfl, _, rfl, _, rfl, _, rfl, ql, _, rfl, SqL.of (s34 _ _ hql), fun vp nvp => ?_⟩
      rw [cut_last]
      have s45 : Same H4 (upd H4 vp (.lst (ps'.map V.ref))) := same_new nvp
      have R5 := R4.same s45
      have It : Inv (M.tick rl) S := L.I.plain _ _
      have Gt : Good (M.tick rl) := It.good L.wf fun os e => by rw [show (M.tick rl).ords = none from L.no] at e; cases e
      have htot := L.tot
      have hpl : PyFlat.told (PyFlat.played Rd25Neutral.step S (((z :: nums) :: (vs ++ [rl])) :: rest)) = (((Rd25Neutral.step S ((z :: nums) :: (vs ++ [rl]))).2.length : Int) :: (Rd25Neutral.step S ((z :: nums) :: (vs ++ [rl]))).2) ++ PyFlat.told (PyFlat.played Rd25Neutral.step (Rd25Neutral.step S ((z :: nums) :: (vs ++ [rl]))).1 rest) := by
        unfold PyFlat.told
        rw [show PyFlat.played Rd25Neutral.step S (((z :: nums) :: (vs ++ [rl])) :: rest) = (Rd25Neutral.step S ((z :: nums) :: (vs ++ [rl]))).2 :: PyFlat.played Rd25Neutral.step (Rd25Neutral.step S ((z :: nums) :: (vs ++ [rl]))).1 rest from rfl, List.flatMap_cons]
      have hlen := congrArg List.length htot
      rw [hpl, List.length_append, List.length_append, List.length_cons] at hlen
      have cw := call_ok It L.wf rfl (show (M.tick rl).ords = none from L.no) hask1 (by omega)
      have foot : ∀ ρ, live (M.tick rl) ρ → H0 (nmClk A x2 ρ) = none ∧ nmClk A x2 ρ ≠ x := fun ρ l => by
        unfold nmClk
        by_cases e : ρ = .clock
        · rw [if_pos e]
          exact ⟨sH3.free nx2, fun z => by rw [z, hx3] at nx2; cases nx2⟩
        · rw [if_neg e]
          have lm : live M ρ := by
            cases ρ with
            | clock => exact absurd rfl e
            | _ => exact l
          exact ⟨L.f0 ρ lm, L.fx ρ lm⟩
      refine ⟨_, rfl, nmClk A x2, W3, M.tick rl, z, qn, nums, vp, ps', vs, by rw [eh, ec]; rfl, ⟨R5, Gt, L.no, rfl⟩, wl3 _ _ wn, upd_same, tk', callW.mono (fun M' out D H6 A6 W6 pt C n5 h6 => ?_) cw⟩
      obtain ⟨kk, hkk, hstep⟩ := D.k
      have e6h : A6 .held = h := C.held.trans eh
      have e6c : A6 .clock = x2 := C.clock.trans ec
      have an1 : (M.tick rl).ans = some done := L.an
      have e6a : A6 .ans = q := (C.ans (by rw [an1]; rfl)).trans ea
      have an6 : M'.ans = some done := D.ans.trans an1
      have hq6 : H6 q = some (.lst (done.map V.int)) := by rw [← e6a]; exact C.rep.ans an6
      have hx5 : (upd H4 vp (.lst (ps'.map V.ref))) x = some (.ins a.C_Reader dx3 (readerF p j)) := s45 _ _ (s34 _ _ hx3)
      have hx6 : H6 x = some (.ins a.C_Reader dx3 (readerF p j)) := C.keep x _ hx5 fun ρ l => (foot ρ l).2
      have s06 : Same H0 H6 := fun b o e => C.keep b o (s45 _ _ (s34 _ _ (sH3 b o e))) fun ρ l z => by
        rw [← z, (foot ρ l).1] at e
        cases e
      have ptq : pt ≠ q := fun e => by
        have h5 := R5.ans an1
        rw [ea, ← e, n5] at h5
        cases h5
      have qx : q ≠ x := fun e => by rw [← e, hq6] at hx6; cases hx6
      have hlo : (Rd25Neutral.step S ((z :: nums) :: (vs ++ [rl]))).2.length = out.length + 1 := by rw [hstep, List.length_cons]
      refine ⟨_, rfl, .inl ⟨rfl, _, SqL.of hq6⟩, _, rfl, pt, _, rfl, .inl (SqL.of h6), _, _, rfl, rfl, _, _, _, rfl, rfl, hq6, big (m := 16000000) (by rw [List.length_map]; omega), ?_⟩
      have a7 : Rep a (upd H6 q (.lst (done.map V.int ++ [V.int (1 + ((out.map V.int).length : Nat))]))) A6 W6 { M' with ans := some (done ++ [1 + ((out.map V.int).length : Int)]) } := by
        have h := C.rep.setAns (by rw [an6]; rfl) (done ++ [1 + ((out.map V.int).length : Int)])
        rw [e6a, List.map_append] at h
        exact h
      obtain ⟨dc7, pc7, hc7, _⟩ := a7.clock hkk
      rw [e6c] at hc7
      refine ⟨_, rfl, .inl ⟨rfl, _, SqL.of upd_same⟩, _, rfl, _, _, dc7, _, _, rfl, hc7, T.l_Clock, T.a_Clock_asked, kl_asked, _, _, _, rfl, rfl, upd_same, big (m := 16000000) (by rw [List.length_append, List.length_map]; show _ + 1 < _; omega), ?_⟩
      rw [upd_upd]
      refine ⟨_, rfl, .inl ⟨rfl, _, SqL.of upd_same⟩, _, rfl, q, pt, _, _, rfl, rfl, upd_same, (by rw [upd_ne ptq]; exact h6), ?_, ?_⟩
      · rw [List.length_append, List.length_append, List.length_map, List.length_map, sizeLine_eq]
        show _ + 1 + 1 + _ ≤ _
        omega
      rw [upd_upd]
      have eD : ((done.map V.int ++ [V.int (1 + ((out.map V.int).length : Nat))]) ++ [V.int kk]) ++ out.map V.int = (done ++ (((out.length + 1 : Nat) : Int) :: (kk : Int) :: out)).map V.int := by
        rw [List.map_append, List.map_cons, List.map_cons, List.length_map, List.append_assoc, List.append_assoc]
        rw [show (1 : Int) + (out.length : Int) = ((out.length + 1 : Nat) : Int) by omega]
        rfl
      rw [eD]
      have R9 : Rep a (upd H6 q (.lst ((done ++ (((out.length + 1 : Nat) : Int) :: (kk : Int) :: out)).map V.int))) A6 W6 { M' with clk := none, ans := some (done ++ (((out.length + 1 : Nat) : Int) :: (kk : Int) :: out)) } := by
        have h := (C.rep.setAns (by rw [an6]; rfl) (done ++ (((out.length + 1 : Nat) : Int) :: (kk : Int) :: out))).untick
        rw [e6a] at h
        exact h
      have s69 : Same H0 (upd H6 q (.lst ((done ++ (((out.length + 1 : Nat) : Int) :: (kk : Int) :: out)).map V.int))) := fun b o e => by
        have hb : b ≠ q := fun z => by
          have h0 := (foot .ans (by show (M.tick rl).ans.isSome = true; rw [an1]; rfl)).1
          rw [ea, ← z, e] at h0
          cases h0
        rw [upd_ne hb]
        exact s06 b o e
      have lv9 : ∀ ρ, live ({ M' with clk := none, ans := some (done ++ (((out.length + 1 : Nat) : Int) :: (kk : Int) :: out)) } : MS) ρ → live M' ρ := fun ρ l => by
        cases ρ with
        | clock => cases l
        | ans => show M'.ans.isSome = true; rw [an6]; rfl
        | _ => exact l
      refine ⟨_, _, _, _, _, A6, W6, _, (Rd25Neutral.step S ((z :: nums) :: (vs ++ [rl]))).1, j, _, rfl, ⟨R9, rfl, D.no, rfl, D.inv.plain _ _, D.wf, ⟨⟨dx3, by rw [upd_ne qx.symm]; exact hx6⟩, s69.seq hS⟩, hd3, fun c hc => L.ok c (List.mem_cons_of_mem _ hc), ?_, s69, fun ρ l => ?_, fun ρ l => ?_, L.x0, e6h, e6a⟩⟩
      · rw [← htot, hpl, hlo, hstep, List.append_assoc]
      · rcases C.fresh ρ (lv9 ρ l) with ⟨r', l', e'⟩ | e'
        · rw [← e']; exact (foot r' l').1
        · exact ((sH3.trans s34).trans s45).free e'
      · rcases C.fresh ρ (lv9 ρ l) with ⟨r', l', e'⟩ | e'
        · rw [← e']; exact (foot r' l').2
        · intro z
          rw [z, hx5] at e'
          cases e'
end
end TT
end
theorem PySem.W.Fast.tw10869306245406484864 : True := trivial
theorem PySem.W.Fast.tw1098644762181627477 : True := trivial
theorem PySem.W.Fast.tw11470488180288079234 : True := trivial
theorem PySem.W.Fast.tw12794221167178190720 : True := trivial
theorem PySem.W.Fast.tw13023902118315146133 : True := trivial
theorem PySem.W.Fast.tw14185061122515076839 : True := trivial
theorem PySem.W.Fast.tw14407454612565525382 : True := trivial
theorem PySem.W.Fast.tw15000623781184383705 : True := trivial
theorem PySem.W.Fast.tw16013699324650858245 : True := trivial
theorem PySem.W.Fast.tw16983933508229447776 : True := trivial
theorem PySem.W.Fast.tw17045325754538207397 : True := trivial
theorem PySem.W.Fast.tw17351829836120954128 : True := trivial
theorem PySem.W.Fast.tw17458640798023443980 : True := trivial
theorem PySem.W.Fast.tw17543437730752255237 : True := trivial
theorem PySem.W.Fast.tw2185754258958166470 : True := trivial
theorem PySem.W.Fast.tw2212718808468544350 : True := trivial
theorem PySem.W.Fast.tw2361104135453354140 : True := trivial
theorem PySem.W.Fast.tw238297351977861252 : True := trivial
theorem PySem.W.Fast.tw2652296156306945144 : True := trivial
theorem PySem.W.Fast.tw3291476620855205800 : True := trivial
theorem PySem.W.Fast.tw4696225758096494146 : True := trivial
theorem PySem.W.Fast.tw4763888443486924376 : True := trivial
theorem PySem.W.Fast.tw4904347255426845578 : True := trivial
theorem PySem.W.Fast.tw5087620893078975350 : True := trivial
theorem PySem.W.Fast.tw5642008784355328718 : True := trivial
theorem PySem.W.Fast.tw6175721682092331593 : True := trivial
theorem PySem.W.Fast.tw7217577564211915725 : True := trivial
theorem PySem.W.Fast.tw7245855419681164039 : True := trivial
theorem PySem.W.Fast.tw7515082125501203660 : True := trivial
section
set_option maxHeartbeats 4000000
open PySem PySem.Spec PyProof.Rows L2
namespace TT
section
variable {K : PySem.W.Frag} {mg : Str → Option Value} {h : Heap}
theorem mkF {x : Str} {st : Stmt} {f : Addr} {oc kV dc pm cd ct : Value} {od an : Option Addr} {sl : Array (Option Value)} (X : K.In h) (G : h.Ns mainGlobals mg) (n : PySem.W.nsIn K mainGlobals x = some (some (.ref f)))
    (l : K.lookup f = some ⟨oc, od, .func (PySem.W.fnOf x x (defArgs st) (defBody st) (defScope st) .none kV dc pm an cd ct), sl⟩) (c : PySem.W.codeIn K cd x = true) (k : PySem.W.keepIn K (.ref f) = true) :
    ∃ (f : Addr) (d : FuncData), Fun K x x st f d ∧ mg x = some (.ref f) := ⟨_, _, fun_mk l c k, PySem.W.mg_of X G n⟩
theorem mkI {x : Str} {i : Int} {t : Tok} (X : K.In h) (G : h.Ns mainGlobals mg) (n : PySem.W.nsIn K mainGlobals x = some (some (.int i t))) : ∃ t : Tok, mg x = some (.int i t) := ⟨_, PySem.W.mg_of X G n⟩
theorem mk_Task {C : Addr} {f0 : Addr} {oc0 kV0 dc0 pm0 cd0 ct0 : Value} {od0 an0 : Option Addr} {sl0 : Array (Option Value)} {f1 : Addr} {oc1 kV1 dc1 pm1 cd1 ct1 : Value} {od1 an1 : Option Addr} {sl1 : Array (Option Value)} {f2 : Addr} {oc2 kV2 dc2 pm2 cd2 ct2 : Value} {od2 an2 : Option Addr} {sl2 : Array (Option Value)} {f3 : Addr} {oc3 kV3 dc3 pm3 cd3 ct3 : Value} {od3 an3 : Option Addr} {sl3 : Array (Option Value)} (X : K.In h) (G : h.Ns mainGlobals mg)
    (n : PySem.W.nsIn K mainGlobals "Task" = some (some (.ref C))) (pg : PySem.W.plainGet K C Str.empty = true) (hd : PySem.W.hasDictIn K C = true) (po : PySem.W.plainOver K C = true) (sa : PySem.W.findIn K (.ref C) "__setattr__" = some (some (.builtin "object.__setattr__"))) (mk : PySem.W.makesIn K C = true) (kc : PySem.W.keepIn K (.ref C) = true) (a0 : PySem.W.findIn K (.ref C) "__init__" = some (some (.ref f0))) (i0 : PySem.W.isFn K (.ref f0) = true) (l0 : K.lookup f0 = some ⟨oc0, od0, .func (PySem.W.fnOf "__init__" "Task.__init__" (defArgs s_Task_init) (defBody s_Task_init) (defScope s_Task_init) .none kV0 dc0 pm0 an0 cd0 ct0), sl0⟩) (c0 : PySem.W.codeIn K cd0 "Task.__init__" = true) (k0 : PySem.W.keepIn K (.ref f0) = true) (a1 : PySem.W.findIn K (.ref C) "wait" = some (some (.ref f1))) (i1 : PySem.W.isFn K (.ref f1) = true) (l1 : K.lookup f1 = some ⟨oc1, od1, .func (PySem.W.fnOf "wait" "Task.wait" (defArgs s_Task_wait) (defBody s_Task_wait) (defScope s_Task_wait) .none kV1 dc1 pm1 an1 cd1 ct1), sl1⟩) (c1 : PySem.W.codeIn K cd1 "Task.wait" = true) (k1 : PySem.W.keepIn K (.ref f1) = true) (a2 : PySem.W.findIn K (.ref C) "has_ended" = some (some (.ref f2))) (i2 : PySem.W.isFn K (.ref f2) = true) (l2 : K.lookup f2 = some ⟨oc2, od2, .func (PySem.W.fnOf "has_ended" "Task.has_ended" (defArgs s_Task_has_ended) (defBody s_Task_has_ended) (defScope s_Task_has_ended) .none kV2 dc2 pm2 an2 cd2 ct2), sl2⟩) (c2 : PySem.W.codeIn K cd2 "Task.has_ended" = true) (k2 : PySem.W.keepIn K (.ref f2) = true) (a3 : PySem.W.findIn K (.ref C) "needs_another" = some (some (.ref f3))) (i3 : PySem.W.isFn K (.ref f3) = true) (l3 : K.lookup f3 = some ⟨oc3, od3, .func (PySem.W.fnOf "needs_another" "Task.needs_another" (defArgs s_Task_needs_another) (defBody s_Task_needs_another) (defScope s_Task_needs_another) .none kV3 dc3 pm3 an3 cd3 ct3), sl3⟩) (c3 : PySem.W.codeIn K cd3 "Task.needs_another" = true) (k3 : PySem.W.keepIn K (.ref f3) = true) (z0 : PySem.W.findIn K (.ref C) "number" = some none) (z1 : PySem.W.findIn K (.ref C) "state" = some none) (z2 : PySem.W.findIn K (.ref C) "target" = some none) (z3 : PySem.W.findIn K (.ref C) "value" = some none) (z4 : PySem.W.findIn K (.ref C) "waiters" = some none) :
    ∃ (C : Addr) (f_Task_init : Addr) (d_Task_init : FuncData) (f_Task_wait : Addr) (d_Task_wait : FuncData) (f_Task_has_ended : Addr) (d_Task_has_ended : FuncData) (f_Task_needs_another : Addr) (d_Task_needs_another : FuncData), mg "Task" = some (.ref C) ∧ Cls K C ∧ Mk K C f_Task_init ∧ Fun K "__init__" "Task.__init__" s_Task_init f_Task_init d_Task_init ∧ Fun K "wait" "Task.wait" s_Task_wait f_Task_wait d_Task_wait ∧ Meth K C "wait" f_Task_wait ∧ Fun K "has_ended" "Task.has_ended" s_Task_has_ended f_Task_has_ended d_Task_has_ended ∧ Meth K C "has_ended" f_Task_has_ended ∧ Fun K "needs_another" "Task.needs_another" s_Task_needs_another f_Task_needs_another d_Task_needs_another ∧ Meth K C "needs_another" f_Task_needs_another ∧ NoAttr K C "number" ∧ NoAttr K C "state" ∧ NoAttr K C "target" ∧ NoAttr K C "value" ∧ NoAttr K C "waiters" := ⟨_, _, _, _, _, _, _, _, _, PySem.W.mg_of X G n, ⟨pg, hd, po, sa⟩, ⟨mk, a0, i0, kc⟩, fun_mk l0 c0 k0, fun_mk l1 c1 k1, ⟨a1, i1, k1⟩, fun_mk l2 c2 k2, ⟨a2, i2, k2⟩, fun_mk l3 c3 k3, ⟨a3, i3, k3⟩, z0, z1, z2, z3, z4⟩
theorem mk_Channel {C : Addr} {f0 : Addr} {oc0 kV0 dc0 pm0 cd0 ct0 : Value} {od0 an0 : Option Addr} {sl0 : Array (Option Value)} (X : K.In h) (G : h.Ns mainGlobals mg)
    (n : PySem.W.nsIn K mainGlobals "Channel" = some (some (.ref C))) (pg : PySem.W.plainGet K C Str.empty = true) (hd : PySem.W.hasDictIn K C = true) (po : PySem.W.plainOver K C = true) (sa : PySem.W.findIn K (.ref C) "__setattr__" = some (some (.builtin "object.__setattr__"))) (mk : PySem.W.makesIn K C = true) (kc : PySem.W.keepIn K (.ref C) = true) (a0 : PySem.W.findIn K (.ref C) "__init__" = some (some (.ref f0))) (i0 : PySem.W.isFn K (.ref f0) = true) (l0 : K.lookup f0 = some ⟨oc0, od0, .func (PySem.W.fnOf "__init__" "Channel.__init__" (defArgs s_Channel_init) (defBody s_Channel_init) (defScope s_Channel_init) .none kV0 dc0 pm0 an0 cd0 ct0), sl0⟩) (c0 : PySem.W.codeIn K cd0 "Channel.__init__" = true) (k0 : PySem.W.keepIn K (.ref f0) = true) (z0 : PySem.W.findIn K (.ref C) "room" = some none) (z1 : PySem.W.findIn K (.ref C) "kept" = some none) (z2 : PySem.W.findIn K (.ref C) "senders" = some none) (z3 : PySem.W.findIn K (.ref C) "receivers" = some none) :
    ∃ (C : Addr) (f_Channel_init : Addr) (d_Channel_init : FuncData), mg "Channel" = some (.ref C) ∧ Cls K C ∧ Mk K C f_Channel_init ∧ Fun K "__init__" "Channel.__init__" s_Channel_init f_Channel_init d_Channel_init ∧ NoAttr K C "room" ∧ NoAttr K C "kept" ∧ NoAttr K C "senders" ∧ NoAttr K C "receivers" := ⟨_, _, _, PySem.W.mg_of X G n, ⟨pg, hd, po, sa⟩, ⟨mk, a0, i0, kc⟩, fun_mk l0 c0 k0, z0, z1, z2, z3⟩
theorem mk_Held {C : Addr} {f0 : Addr} {oc0 kV0 dc0 pm0 cd0 ct0 : Value} {od0 an0 : Option Addr} {sl0 : Array (Option Value)} {f1 : Addr} {oc1 kV1 dc1 pm1 cd1 ct1 : Value} {od1 an1 : Option Addr} {sl1 : Array (Option Value)} {f2 : Addr} {oc2 kV2 dc2 pm2 cd2 ct2 : Value} {od2 an2 : Option Addr} {sl2 : Array (Option Value)} {f3 : Addr} {oc3 kV3 dc3 pm3 cd3 ct3 : Value} {od3 an3 : Option Addr} {sl3 : Array (Option Value)} {f4 : Addr} {oc4 kV4 dc4 pm4 cd4 ct4 : Value} {od4 an4 : Option Addr} {sl4 : Array (Option Value)} {f5 : Addr} {oc5 kV5 dc5 pm5 cd5 ct5 : Value} {od5 an5 : Option Addr} {sl5 : Array (Option Value)} {f6 : Addr} {oc6 kV6 dc6 pm6 cd6 ct6 : Value} {od6 an6 : Option Addr} {sl6 : Array (Option Value)} {f7 : Addr} {oc7 kV7 dc7 pm7 cd7 ct7 : Value} {od7 an7 : Option Addr} {sl7 : Array (Option Value)} {f8 : Addr} {oc8 kV8 dc8 pm8 cd8 ct8 : Value} {od8 an8 : Option Addr} {sl8 : Array (Option Value)} {f9 : Addr} {oc9 kV9 dc9 pm9 cd9 ct9 : Value} {od9 an9 : Option Addr} {sl9 : Array (Option Value)} {f10 : Addr} {oc10 kV10 dc10 pm10 cd10 ct10 : Value} {od10 an10 : Option Addr} {sl10 : Array (Option Value)} {f11 : Addr} {oc11 kV11 dc11 pm11 cd11 ct11 : Value} {od11 an11 : Option Addr} {sl11 : Array (Option Value)} {f12 : Addr} {oc12 kV12 dc12 pm12 cd12 ct12 : Value} {od12 an12 : Option Addr} {sl12 : Array (Option Value)} (X : K.In h) (G : h.Ns mainGlobals mg)
    (n : PySem.W.nsIn K mainGlobals "Held" = some (some (.ref C))) (pg : PySem.W.plainGet K C Str.empty = true) (hd : PySem.W.hasDictIn K C = true) (po : PySem.W.plainOver K C = true) (sa : PySem.W.findIn K (.ref C) "__setattr__" = some (some (.builtin "object.__setattr__"))) (mk : PySem.W.makesIn K C = true) (kc : PySem.W.keepIn K (.ref C) = true) (a0 : PySem.W.findIn K (.ref C) "__init__" = some (some (.ref f0))) (i0 : PySem.W.isFn K (.ref f0) = true) (l0 : K.lookup f0 = some ⟨oc0, od0, .func (PySem.W.fnOf "__init__" "Held.__init__" (defArgs s_Held_init) (defBody s_Held_init) (defScope s_Held_init) .none kV0 dc0 pm0 an0 cd0 ct0), sl0⟩) (c0 : PySem.W.codeIn K cd0 "Held.__init__" = true) (k0 : PySem.W.keepIn K (.ref f0) = true) (a1 : PySem.W.findIn K (.ref C) "begin_anew" = some (some (.ref f1))) (i1 : PySem.W.isFn K (.ref f1) = true) (l1 : K.lookup f1 = some ⟨oc1, od1, .func (PySem.W.fnOf "begin_anew" "Held.begin_anew" (defArgs s_Held_begin_anew) (defBody s_Held_begin_anew) (defScope s_Held_begin_anew) .none kV1 dc1 pm1 an1 cd1 ct1), sl1⟩) (c1 : PySem.W.codeIn K cd1 "Held.begin_anew" = true) (k1 : PySem.W.keepIn K (.ref f1) = true) (a2 : PySem.W.findIn K (.ref C) "is_full" = some (some (.ref f2))) (i2 : PySem.W.isFn K (.ref f2) = true) (l2 : K.lookup f2 = some ⟨oc2, od2, .func (PySem.W.fnOf "is_full" "Held.is_full" (defArgs s_Held_is_full) (defBody s_Held_is_full) (defScope s_Held_is_full) .none kV2 dc2 pm2 an2 cd2 ct2), sl2⟩) (c2 : PySem.W.codeIn K cd2 "Held.is_full" = true) (k2 : PySem.W.keepIn K (.ref f2) = true) (a3 : PySem.W.findIn K (.ref C) "has_all_channels" = some (some (.ref f3))) (i3 : PySem.W.isFn K (.ref f3) = true) (l3 : K.lookup f3 = some ⟨oc3, od3, .func (PySem.W.fnOf "has_all_channels" "Held.has_all_channels" (defArgs s_Held_has_all_channels) (defBody s_Held_has_all_channels) (defScope s_Held_has_all_channels) .none kV3 dc3 pm3 an3 cd3 ct3), sl3⟩) (c3 : PySem.W.codeIn K cd3 "Held.has_all_channels" = true) (k3 : PySem.W.keepIn K (.ref f3) = true) (a4 : PySem.W.findIn K (.ref C) "add_task" = some (some (.ref f4))) (i4 : PySem.W.isFn K (.ref f4) = true) (l4 : K.lookup f4 = some ⟨oc4, od4, .func (PySem.W.fnOf "add_task" "Held.add_task" (defArgs s_Held_add_task) (defBody s_Held_add_task) (defScope s_Held_add_task) .none kV4 dc4 pm4 an4 cd4 ct4), sl4⟩) (c4 : PySem.W.codeIn K cd4 "Held.add_task" = true) (k4 : PySem.W.keepIn K (.ref f4) = true) (a5 : PySem.W.findIn K (.ref C) "make_ready" = some (some (.ref f5))) (i5 : PySem.W.isFn K (.ref f5) = true) (l5 : K.lookup f5 = some ⟨oc5, od5, .func (PySem.W.fnOf "make_ready" "Held.make_ready" (defArgs s_Held_make_ready) (defBody s_Held_make_ready) (defScope s_Held_make_ready) .none kV5 dc5 pm5 an5 cd5 ct5), sl5⟩) (c5 : PySem.W.codeIn K cd5 "Held.make_ready" = true) (k5 : PySem.W.keepIn K (.ref f5) = true) (a6 : PySem.W.findIn K (.ref C) "hear" = some (some (.ref f6))) (i6 : PySem.W.isFn K (.ref f6) = true) (l6 : K.lookup f6 = some ⟨oc6, od6, .func (PySem.W.fnOf "hear" "Held.hear" (defArgs s_Held_hear) (defBody s_Held_hear) (defScope s_Held_hear) .none kV6 dc6 pm6 an6 cd6 ct6), sl6⟩) (c6 : PySem.W.codeIn K cd6 "Held.hear" = true) (k6 : PySem.W.keepIn K (.ref f6) = true) (a7 : PySem.W.findIn K (.ref C) "is_busy" = some (some (.ref f7))) (i7 : PySem.W.isFn K (.ref f7) = true) (l7 : K.lookup f7 = some ⟨oc7, od7, .func (PySem.W.fnOf "is_busy" "Held.is_busy" (defArgs s_Held_is_busy) (defBody s_Held_is_busy) (defScope s_Held_is_busy) .none kV7 dc7 pm7 an7 cd7 ct7), sl7⟩) (c7 : PySem.W.codeIn K cd7 "Held.is_busy" = true) (k7 : PySem.W.keepIn K (.ref f7) = true) (a8 : PySem.W.findIn K (.ref C) "all_have_ended" = some (some (.ref f8))) (i8 : PySem.W.isFn K (.ref f8) = true) (l8 : K.lookup f8 = some ⟨oc8, od8, .func (PySem.W.fnOf "all_have_ended" "Held.all_have_ended" (defArgs s_Held_all_have_ended) (defBody s_Held_all_have_ended) (defScope s_Held_all_have_ended) .none kV8 dc8 pm8 an8 cd8 ct8), sl8⟩) (c8 : PySem.W.codeIn K cd8 "Held.all_have_ended" = true) (k8 : PySem.W.keepIn K (.ref f8) = true) (a9 : PySem.W.findIn K (.ref C) "sleepers" = some (some (.ref f9))) (i9 : PySem.W.isFn K (.ref f9) = true) (l9 : K.lookup f9 = some ⟨oc9, od9, .func (PySem.W.fnOf "sleepers" "Held.sleepers" (defArgs s_Held_sleepers) (defBody s_Held_sleepers) (defScope s_Held_sleepers) .none kV9 dc9 pm9 an9 cd9 ct9), sl9⟩) (c9 : PySem.W.codeIn K cd9 "Held.sleepers" = true) (k9 : PySem.W.keepIn K (.ref f9) = true) (a10 : PySem.W.findIn K (.ref C) "stuck_tasks" = some (some (.ref f10))) (i10 : PySem.W.isFn K (.ref f10) = true) (l10 : K.lookup f10 = some ⟨oc10, od10, .func (PySem.W.fnOf "stuck_tasks" "Held.stuck_tasks" (defArgs s_Held_stuck_tasks) (defBody s_Held_stuck_tasks) (defScope s_Held_stuck_tasks) .none kV10 dc10 pm10 an10 cd10 ct10), sl10⟩) (c10 : PySem.W.codeIn K cd10 "Held.stuck_tasks" = true) (k10 : PySem.W.keepIn K (.ref f10) = true) (a11 : PySem.W.findIn K (.ref C) "channel_of" = some (some (.ref f11))) (i11 : PySem.W.isFn K (.ref f11) = true) (l11 : K.lookup f11 = some ⟨oc11, od11, .func (PySem.W.fnOf "channel_of" "Held.channel_of" (defArgs s_Held_channel_of) (defBody s_Held_channel_of) (defScope s_Held_channel_of) .none kV11 dc11 pm11 an11 cd11 ct11), sl11⟩) (c11 : PySem.W.codeIn K cd11 "Held.channel_of" = true) (k11 : PySem.W.keepIn K (.ref f11) = true) (a12 : PySem.W.findIn K (.ref C) "task_of" = some (some (.ref f12))) (i12 : PySem.W.isFn K (.ref f12) = true) (l12 : K.lookup f12 = some ⟨oc12, od12, .func (PySem.W.fnOf "task_of" "Held.task_of" (defArgs s_Held_task_of) (defBody s_Held_task_of) (defScope s_Held_task_of) .none kV12 dc12 pm12 an12 cd12 ct12), sl12⟩) (c12 : PySem.W.codeIn K cd12 "Held.task_of" = true) (k12 : PySem.W.keepIn K (.ref f12) = true) (z0 : PySem.W.findIn K (.ref C) "steps" = some none) (z1 : PySem.W.findIn K (.ref C) "tasks" = some none) (z2 : PySem.W.findIn K (.ref C) "channels" = some none) (z3 : PySem.W.findIn K (.ref C) "row" = some none) (z4 : PySem.W.findIn K (.ref C) "now" = some none) :
    ∃ (C : Addr) (f_Held_init : Addr) (d_Held_init : FuncData) (f_Held_begin_anew : Addr) (d_Held_begin_anew : FuncData) (f_Held_is_full : Addr) (d_Held_is_full : FuncData) (f_Held_has_all_channels : Addr) (d_Held_has_all_channels : FuncData) (f_Held_add_task : Addr) (d_Held_add_task : FuncData) (f_Held_make_ready : Addr) (d_Held_make_ready : FuncData) (f_Held_hear : Addr) (d_Held_hear : FuncData) (f_Held_is_busy : Addr) (d_Held_is_busy : FuncData) (f_Held_all_have_ended : Addr) (d_Held_all_have_ended : FuncData) (f_Held_sleepers : Addr) (d_Held_sleepers : FuncData) (f_Held_stuck_tasks : Addr) (d_Held_stuck_tasks : FuncData) (f_Held_channel_of : Addr) (d_Held_channel_of : FuncData) (f_Held_task_of : Addr) (d_Held_task_of : FuncData), mg "Held" = some (.ref C) ∧ Cls K C ∧ Mk K C f_Held_init ∧ Fun K "__init__" "Held.__init__" s_Held_init f_Held_init d_Held_init ∧ Fun K "begin_anew" "Held.begin_anew" s_Held_begin_anew f_Held_begin_anew d_Held_begin_anew ∧ Meth K C "begin_anew" f_Held_begin_anew ∧ Fun K "is_full" "Held.is_full" s_Held_is_full f_Held_is_full d_Held_is_full ∧ Meth K C "is_full" f_Held_is_full ∧ Fun K "has_all_channels" "Held.has_all_channels" s_Held_has_all_channels f_Held_has_all_channels d_Held_has_all_channels ∧ Meth K C "has_all_channels" f_Held_has_all_channels ∧ Fun K "add_task" "Held.add_task" s_Held_add_task f_Held_add_task d_Held_add_task ∧ Meth K C "add_task" f_Held_add_task ∧ Fun K "make_ready" "Held.make_ready" s_Held_make_ready f_Held_make_ready d_Held_make_ready ∧ Meth K C "make_ready" f_Held_make_ready ∧ Fun K "hear" "Held.hear" s_Held_hear f_Held_hear d_Held_hear ∧ Meth K C "hear" f_Held_hear ∧ Fun K "is_busy" "Held.is_busy" s_Held_is_busy f_Held_is_busy d_Held_is_busy ∧ Meth K C "is_busy" f_Held_is_busy ∧ Fun K "all_have_ended" "Held.all_have_ended" s_Held_all_have_ended f_Held_all_have_ended d_Held_all_have_ended ∧ Meth K C "all_have_ended" f_Held_all_have_ended ∧ Fun K "sleepers" "Held.sleepers" s_Held_sleepers f_Held_sleepers d_Held_sleepers ∧ Meth K C "sleepers" f_Held_sleepers ∧ Fun K "stuck_tasks" "Held.stuck_tasks" s_Held_stuck_tasks f_Held_stuck_tasks d_Held_stuck_tasks ∧ Meth K C "stuck_tasks" f_Held_stuck_tasks ∧ Fun K "channel_of" "Held.channel_of" s_Held_channel_of f_Held_channel_of d_Held_channel_of ∧ Meth K C "channel_of" f_Held_channel_of ∧ Fun K "task_of" "Held.task_of" s_Held_task_of f_Held_task_of d_Held_task_of ∧ Meth K C "task_of" f_Held_task_of ∧ NoAttr K C "steps" ∧ NoAttr K C "tasks" ∧ NoAttr K C "channels" ∧ NoAttr K C "row" ∧ NoAttr K C "now" := ⟨_, _, _, _, _, _, _, _, _, _, _, _, _, _, _, _, _, _, _, _, _, _, _, _, _, _, _, PySem.W.mg_of X G n, ⟨pg, hd, po, sa⟩, ⟨mk, a0, i0, kc⟩, fun_mk l0 c0 k0, fun_mk l1 c1 k1, ⟨a1, i1, k1⟩, fun_mk l2 c2 k2, ⟨a2, i2, k2⟩, fun_mk l3 c3 k3, ⟨a3, i3, k3⟩, fun_mk l4 c4 k4, ⟨a4, i4, k4⟩, fun_mk l5 c5 k5, ⟨a5, i5, k5⟩, fun_mk l6 c6 k6, ⟨a6, i6, k6⟩, fun_mk l7 c7 k7, ⟨a7, i7, k7⟩, fun_mk l8 c8 k8, ⟨a8, i8, k8⟩, fun_mk l9 c9 k9, ⟨a9, i9, k9⟩, fun_mk l10 c10 k10, ⟨a10, i10, k10⟩, fun_mk l11 c11 k11, ⟨a11, i11, k11⟩, fun_mk l12 c12 k12, ⟨a12, i12, k12⟩, z0, z1, z2, z3, z4⟩
theorem mk_Clock {C : Addr} {f0 : Addr} {oc0 kV0 dc0 pm0 cd0 ct0 : Value} {od0 an0 : Option Addr} {sl0 : Array (Option Value)} {f1 : Addr} {oc1 kV1 dc1 pm1 cd1 ct1 : Value} {od1 an1 : Option Addr} {sl1 : Array (Option Value)} (X : K.In h) (G : h.Ns mainGlobals mg)
    (n : PySem.W.nsIn K mainGlobals "Clock" = some (some (.ref C))) (pg : PySem.W.plainGet K C Str.empty = true) (hd : PySem.W.hasDictIn K C = true) (po : PySem.W.plainOver K C = true) (sa : PySem.W.findIn K (.ref C) "__setattr__" = some (some (.builtin "object.__setattr__"))) (mk : PySem.W.makesIn K C = true) (kc : PySem.W.keepIn K (.ref C) = true) (a0 : PySem.W.findIn K (.ref C) "__init__" = some (some (.ref f0))) (i0 : PySem.W.isFn K (.ref f0) = true) (l0 : K.lookup f0 = some ⟨oc0, od0, .func (PySem.W.fnOf "__init__" "Clock.__init__" (defArgs s_Clock_init) (defBody s_Clock_init) (defScope s_Clock_init) .none kV0 dc0 pm0 an0 cd0 ct0), sl0⟩) (c0 : PySem.W.codeIn K cd0 "Clock.__init__" = true) (k0 : PySem.W.keepIn K (.ref f0) = true) (a1 : PySem.W.findIn K (.ref C) "ask" = some (some (.ref f1))) (i1 : PySem.W.isFn K (.ref f1) = true) (l1 : K.lookup f1 = some ⟨oc1, od1, .func (PySem.W.fnOf "ask" "Clock.ask" (defArgs s_Clock_ask) (defBody s_Clock_ask) (defScope s_Clock_ask) .none kV1 dc1 pm1 an1 cd1 ct1), sl1⟩) (c1 : PySem.W.codeIn K cd1 "Clock.ask" = true) (k1 : PySem.W.keepIn K (.ref f1) = true) (z0 : PySem.W.findIn K (.ref C) "replies" = some none) (z1 : PySem.W.findIn K (.ref C) "asked" = some none) :
    ∃ (C : Addr) (f_Clock_init : Addr) (d_Clock_init : FuncData) (f_Clock_ask : Addr) (d_Clock_ask : FuncData), mg "Clock" = some (.ref C) ∧ Cls K C ∧ Mk K C f_Clock_init ∧ Fun K "__init__" "Clock.__init__" s_Clock_init f_Clock_init d_Clock_init ∧ Fun K "ask" "Clock.ask" s_Clock_ask f_Clock_ask d_Clock_ask ∧ Meth K C "ask" f_Clock_ask ∧ NoAttr K C "replies" ∧ NoAttr K C "asked" := ⟨_, _, _, _, _, PySem.W.mg_of X G n, ⟨pg, hd, po, sa⟩, ⟨mk, a0, i0, kc⟩, fun_mk l0 c0 k0, fun_mk l1 c1 k1, ⟨a1, i1, k1⟩, z0, z1⟩
theorem mk_Reader {C : Addr} {f0 : Addr} {oc0 kV0 dc0 pm0 cd0 ct0 : Value} {od0 an0 : Option Addr} {sl0 : Array (Option Value)} {f1 : Addr} {oc1 kV1 dc1 pm1 cd1 ct1 : Value} {od1 an1 : Option Addr} {sl1 : Array (Option Value)} {f2 : Addr} {oc2 kV2 dc2 pm2 cd2 ct2 : Value} {od2 an2 : Option Addr} {sl2 : Array (Option Value)} {f3 : Addr} {oc3 kV3 dc3 pm3 cd3 ct3 : Value} {od3 an3 : Option Addr} {sl3 : Array (Option Value)} {f4 : Addr} {oc4 kV4 dc4 pm4 cd4 ct4 : Value} {od4 an4 : Option Addr} {sl4 : Array (Option Value)} (X : K.In h) (G : h.Ns mainGlobals mg)
    (n : PySem.W.nsIn K mainGlobals "Reader" = some (some (.ref C))) (pg : PySem.W.plainGet K C Str.empty = true) (hd : PySem.W.hasDictIn K C = true) (po : PySem.W.plainOver K C = true) (sa : PySem.W.findIn K (.ref C) "__setattr__" = some (some (.builtin "object.__setattr__"))) (mk : PySem.W.makesIn K C = true) (kc : PySem.W.keepIn K (.ref C) = true) (a0 : PySem.W.findIn K (.ref C) "__init__" = some (some (.ref f0))) (i0 : PySem.W.isFn K (.ref f0) = true) (l0 : K.lookup f0 = some ⟨oc0, od0, .func (PySem.W.fnOf "__init__" "Reader.__init__" (defArgs s_Reader_init) (defBody s_Reader_init) (defScope s_Reader_init) .none kV0 dc0 pm0 an0 cd0 ct0), sl0⟩) (c0 : PySem.W.codeIn K cd0 "Reader.__init__" = true) (k0 : PySem.W.keepIn K (.ref f0) = true) (a1 : PySem.W.findIn K (.ref C) "has_more" = some (some (.ref f1))) (i1 : PySem.W.isFn K (.ref f1) = true) (l1 : K.lookup f1 = some ⟨oc1, od1, .func (PySem.W.fnOf "has_more" "Reader.has_more" (defArgs s_Reader_has_more) (defBody s_Reader_has_more) (defScope s_Reader_has_more) .none kV1 dc1 pm1 an1 cd1 ct1), sl1⟩) (c1 : PySem.W.codeIn K cd1 "Reader.has_more" = true) (k1 : PySem.W.keepIn K (.ref f1) = true) (a2 : PySem.W.findIn K (.ref C) "take_number" = some (some (.ref f2))) (i2 : PySem.W.isFn K (.ref f2) = true) (l2 : K.lookup f2 = some ⟨oc2, od2, .func (PySem.W.fnOf "take_number" "Reader.take_number" (defArgs s_Reader_take_number) (defBody s_Reader_take_number) (defScope s_Reader_take_number) .none kV2 dc2 pm2 an2 cd2 ct2), sl2⟩) (c2 : PySem.W.codeIn K cd2 "Reader.take_number" = true) (k2 : PySem.W.keepIn K (.ref f2) = true) (a3 : PySem.W.findIn K (.ref C) "take_list" = some (some (.ref f3))) (i3 : PySem.W.isFn K (.ref f3) = true) (l3 : K.lookup f3 = some ⟨oc3, od3, .func (PySem.W.fnOf "take_list" "Reader.take_list" (defArgs s_Reader_take_list) (defBody s_Reader_take_list) (defScope s_Reader_take_list) .none kV3 dc3 pm3 an3 cd3 ct3), sl3⟩) (c3 : PySem.W.codeIn K cd3 "Reader.take_list" = true) (k3 : PySem.W.keepIn K (.ref f3) = true) (a4 : PySem.W.findIn K (.ref C) "take_lists" = some (some (.ref f4))) (i4 : PySem.W.isFn K (.ref f4) = true) (l4 : K.lookup f4 = some ⟨oc4, od4, .func (PySem.W.fnOf "take_lists" "Reader.take_lists" (defArgs s_Reader_take_lists) (defBody s_Reader_take_lists) (defScope s_Reader_take_lists) .none kV4 dc4 pm4 an4 cd4 ct4), sl4⟩) (c4 : PySem.W.codeIn K cd4 "Reader.take_lists" = true) (k4 : PySem.W.keepIn K (.ref f4) = true) (z0 : PySem.W.findIn K (.ref C) "numbers" = some none) (z1 : PySem.W.findIn K (.ref C) "place" = some none) :
    ∃ (C : Addr) (f_Reader_init : Addr) (d_Reader_init : FuncData) (f_Reader_has_more : Addr) (d_Reader_has_more : FuncData) (f_Reader_take_number : Addr) (d_Reader_take_number : FuncData) (f_Reader_take_list : Addr) (d_Reader_take_list : FuncData) (f_Reader_take_lists : Addr) (d_Reader_take_lists : FuncData), mg "Reader" = some (.ref C) ∧ Cls K C ∧ Mk K C f_Reader_init ∧ Fun K "__init__" "Reader.__init__" s_Reader_init f_Reader_init d_Reader_init ∧ Fun K "has_more" "Reader.has_more" s_Reader_has_more f_Reader_has_more d_Reader_has_more ∧ Meth K C "has_more" f_Reader_has_more ∧ Fun K "take_number" "Reader.take_number" s_Reader_take_number f_Reader_take_number d_Reader_take_number ∧ Meth K C "take_number" f_Reader_take_number ∧ Fun K "take_list" "Reader.take_list" s_Reader_take_list f_Reader_take_list d_Reader_take_list ∧ Meth K C "take_list" f_Reader_take_list ∧ Fun K "take_lists" "Reader.take_lists" s_Reader_take_lists f_Reader_take_lists d_Reader_take_lists ∧ Meth K C "take_lists" f_Reader_take_lists ∧ NoAttr K C "numbers" ∧ NoAttr K C "place" := ⟨_, _, _, _, _, _, _, _, _, _, _, PySem.W.mg_of X G n, ⟨pg, hd, po, sa⟩, ⟨mk, a0, i0, kc⟩, fun_mk l0 c0 k0, fun_mk l1 c1 k1, ⟨a1, i1, k1⟩, fun_mk l2 c2 k2, ⟨a2, i2, k2⟩, fun_mk l3 c3 k3, ⟨a3, i3, k3⟩, fun_mk l4 c4 k4, ⟨a4, i4, k4⟩, z0, z1⟩
theorem tx_mk (h_is_value : ∃ (f : Addr) (d : FuncData), Fun K "is_value" "is_value" s_is_value f d ∧ mg "is_value" = some (.ref f))
    (h_is_of_kind : ∃ (f : Addr) (d : FuncData), Fun K "is_of_kind" "is_of_kind" s_is_of_kind f d ∧ mg "is_of_kind" = some (.ref f))
    (h_is_whole : ∃ (f : Addr) (d : FuncData), Fun K "is_whole" "is_whole" s_is_whole f d ∧ mg "is_whole" = some (.ref f))
    (h_nothing : ∃ (f : Addr) (d : FuncData), Fun K "nothing" "nothing" s_nothing f d ∧ mg "nothing" = some (.ref f))
    (h_whole : ∃ (f : Addr) (d : FuncData), Fun K "whole" "whole" s_whole f d ∧ mg "whole" = some (.ref f))
    (h_channel_value : ∃ (f : Addr) (d : FuncData), Fun K "channel_value" "channel_value" s_channel_value f d ∧ mg "channel_value" = some (.ref f))
    (h_order_value : ∃ (f : Addr) (d : FuncData), Fun K "order_value" "order_value" s_order_value f d ∧ mg "order_value" = some (.ref f))
    (h_hand : ∃ (f : Addr) (d : FuncData), Fun K "hand" "hand" s_hand f d ∧ mg "hand" = some (.ref f))
    (h_toss : ∃ (f : Addr) (d : FuncData), Fun K "toss" "toss" s_toss f d ∧ mg "toss" = some (.ref f))
    (h_order_spawn : ∃ (f : Addr) (d : FuncData), Fun K "order_spawn" "order_spawn" s_order_spawn f d ∧ mg "order_spawn" = some (.ref f))
    (h_tell_orders : ∃ (f : Addr) (d : FuncData), Fun K "tell_orders" "tell_orders" s_tell_orders f d ∧ mg "tell_orders" = some (.ref f))
    (h_is_in_ring : ∃ (f : Addr) (d : FuncData), Fun K "is_in_ring" "is_in_ring" s_is_in_ring f d ∧ mg "is_in_ring" = some (.ref f))
    (h_values_wanted : ∃ (f : Addr) (d : FuncData), Fun K "values_wanted" "values_wanted" s_values_wanted f d ∧ mg "values_wanted" = some (.ref f))
    (h_toss_wrong : ∃ (f : Addr) (d : FuncData), Fun K "toss_wrong" "toss_wrong" s_toss_wrong f d ∧ mg "toss_wrong" = some (.ref f))
    (h_stand_at_spawn : ∃ (f : Addr) (d : FuncData), Fun K "stand_at_spawn" "stand_at_spawn" s_stand_at_spawn f d ∧ mg "stand_at_spawn" = some (.ref f))
    (h_stand_at_channel : ∃ (f : Addr) (d : FuncData), Fun K "stand_at_channel" "stand_at_channel" s_stand_at_channel f d ∧ mg "stand_at_channel" = some (.ref f))
    (h_stand_at_send : ∃ (f : Addr) (d : FuncData), Fun K "stand_at_send" "stand_at_send" s_stand_at_send f d ∧ mg "stand_at_send" = some (.ref f))
    (h_stand_at_receive : ∃ (f : Addr) (d : FuncData), Fun K "stand_at_receive" "stand_at_receive" s_stand_at_receive f d ∧ mg "stand_at_receive" = some (.ref f))
    (h_tell_end : ∃ (f : Addr) (d : FuncData), Fun K "tell_end" "tell_end" s_tell_end f d ∧ mg "tell_end" = some (.ref f))
    (h_stand_at_end : ∃ (f : Addr) (d : FuncData), Fun K "stand_at_end" "stand_at_end" s_stand_at_end f d ∧ mg "stand_at_end" = some (.ref f))
    (h_stand_at_sleep : ∃ (f : Addr) (d : FuncData), Fun K "stand_at_sleep" "stand_at_sleep" s_stand_at_sleep f d ∧ mg "stand_at_sleep" = some (.ref f))
    (h_stand : ∃ (f : Addr) (d : FuncData), Fun K "stand" "stand" s_stand f d ∧ mg "stand" = some (.ref f))
    (h_answer_begin : ∃ (f : Addr) (d : FuncData), Fun K "answer_begin" "answer_begin" s_answer_begin f d ∧ mg "answer_begin" = some (.ref f))
    (h_refusal_of_new : ∃ (f : Addr) (d : FuncData), Fun K "refusal_of_new" "refusal_of_new" s_refusal_of_new f d ∧ mg "refusal_of_new" = some (.ref f))
    (h_answer_add : ∃ (f : Addr) (d : FuncData), Fun K "answer_add" "answer_add" s_answer_add f d ∧ mg "answer_add" = some (.ref f))
    (h_wake_sleepers : ∃ (f : Addr) (d : FuncData), Fun K "wake_sleepers" "wake_sleepers" s_wake_sleepers f d ∧ mg "wake_sleepers" = some (.ref f))
    (h_answer_next : ∃ (f : Addr) (d : FuncData), Fun K "answer_next" "answer_next" s_answer_next f d ∧ mg "answer_next" = some (.ref f))
    (h_values_of_ran : ∃ (f : Addr) (d : FuncData), Fun K "values_of_ran" "values_of_ran" s_values_of_ran f d ∧ mg "values_of_ran" = some (.ref f))
    (h_end_task : ∃ (f : Addr) (d : FuncData), Fun K "end_task" "end_task" s_end_task f d ∧ mg "end_task" = some (.ref f))
    (h_answer_ran : ∃ (f : Addr) (d : FuncData), Fun K "answer_ran" "answer_ran" s_answer_ran f d ∧ mg "answer_ran" = some (.ref f))
    (h_answer_spawned : ∃ (f : Addr) (d : FuncData), Fun K "answer_spawned" "answer_spawned" s_answer_spawned f d ∧ mg "answer_spawned" = some (.ref f))
    (h_answer_state : ∃ (f : Addr) (d : FuncData), Fun K "answer_state" "answer_state" s_answer_state f d ∧ mg "answer_state" = some (.ref f))
    (h_answer_channel : ∃ (f : Addr) (d : FuncData), Fun K "answer_channel" "answer_channel" s_answer_channel f d ∧ mg "answer_channel" = some (.ref f))
    (h_answer_stuck : ∃ (f : Addr) (d : FuncData), Fun K "answer_stuck" "answer_stuck" s_answer_stuck f d ∧ mg "answer_stuck" = some (.ref f))
    (h_answer_call : ∃ (f : Addr) (d : FuncData), Fun K "answer_call" "answer_call" s_answer_call f d ∧ mg "answer_call" = some (.ref f))
    (h_answers : ∃ (f : Addr) (d : FuncData), Fun K "answers" "answers" s_answers f d ∧ mg "answers" = some (.ref f))
    (h_Task : ∃ (C : Addr) (f_Task_init : Addr) (d_Task_init : FuncData) (f_Task_wait : Addr) (d_Task_wait : FuncData) (f_Task_has_ended : Addr) (d_Task_has_ended : FuncData) (f_Task_needs_another : Addr) (d_Task_needs_another : FuncData), mg "Task" = some (.ref C) ∧ Cls K C ∧ Mk K C f_Task_init ∧ Fun K "__init__" "Task.__init__" s_Task_init f_Task_init d_Task_init ∧ Fun K "wait" "Task.wait" s_Task_wait f_Task_wait d_Task_wait ∧ Meth K C "wait" f_Task_wait ∧ Fun K "has_ended" "Task.has_ended" s_Task_has_ended f_Task_has_ended d_Task_has_ended ∧ Meth K C "has_ended" f_Task_has_ended ∧ Fun K "needs_another" "Task.needs_another" s_Task_needs_another f_Task_needs_another d_Task_needs_another ∧ Meth K C "needs_another" f_Task_needs_another ∧ NoAttr K C "number" ∧ NoAttr K C "state" ∧ NoAttr K C "target" ∧ NoAttr K C "value" ∧ NoAttr K C "waiters")
    (h_Channel : ∃ (C : Addr) (f_Channel_init : Addr) (d_Channel_init : FuncData), mg "Channel" = some (.ref C) ∧ Cls K C ∧ Mk K C f_Channel_init ∧ Fun K "__init__" "Channel.__init__" s_Channel_init f_Channel_init d_Channel_init ∧ NoAttr K C "room" ∧ NoAttr K C "kept" ∧ NoAttr K C "senders" ∧ NoAttr K C "receivers")
    (h_Held : ∃ (C : Addr) (f_Held_init : Addr) (d_Held_init : FuncData) (f_Held_begin_anew : Addr) (d_Held_begin_anew : FuncData) (f_Held_is_full : Addr) (d_Held_is_full : FuncData) (f_Held_has_all_channels : Addr) (d_Held_has_all_channels : FuncData) (f_Held_add_task : Addr) (d_Held_add_task : FuncData) (f_Held_make_ready : Addr) (d_Held_make_ready : FuncData) (f_Held_hear : Addr) (d_Held_hear : FuncData) (f_Held_is_busy : Addr) (d_Held_is_busy : FuncData) (f_Held_all_have_ended : Addr) (d_Held_all_have_ended : FuncData) (f_Held_sleepers : Addr) (d_Held_sleepers : FuncData) (f_Held_stuck_tasks : Addr) (d_Held_stuck_tasks : FuncData) (f_Held_channel_of : Addr) (d_Held_channel_of : FuncData) (f_Held_task_of : Addr) (d_Held_task_of : FuncData), mg "Held" = some (.ref C) ∧ Cls K C ∧ Mk K C f_Held_init ∧ Fun K "__init__" "Held.__init__" s_Held_init f_Held_init d_Held_init ∧ Fun K "begin_anew" "Held.begin_anew" s_Held_begin_anew f_Held_begin_anew d_Held_begin_anew ∧ Meth K C "begin_anew" f_Held_begin_anew ∧ Fun K "is_full" "Held.is_full" s_Held_is_full f_Held_is_full d_Held_is_full ∧ Meth K C "is_full" f_Held_is_full ∧ Fun K "has_all_channels" "Held.has_all_channels" s_Held_has_all_channels f_Held_has_all_channels d_Held_has_all_channels ∧ Meth K C "has_all_channels" f_Held_has_all_channels ∧ Fun K "add_task" "Held.add_task" s_Held_add_task f_Held_add_task d_Held_add_task ∧ Meth K C "add_task" f_Held_add_task ∧ Fun K "make_ready" "Held.make_ready" s_Held_make_ready f_Held_make_ready d_Held_make_ready ∧ Meth K C "make_ready" f_Held_make_ready ∧ Fun K "hear" "Held.hear" s_Held_hear f_Held_hear d_Held_hear ∧ Meth K C "hear" f_Held_hear ∧ Fun K "is_busy" "Held.is_busy" s_Held_is_busy f_Held_is_busy d_Held_is_busy ∧ Meth K C "is_busy" f_Held_is_busy ∧ Fun K "all_have_ended" "Held.all_have_ended" s_Held_all_have_ended f_Held_all_have_ended d_Held_all_have_ended ∧ Meth K C "all_have_ended" f_Held_all_have_ended ∧ Fun K "sleepers" "Held.sleepers" s_Held_sleepers f_Held_sleepers d_Held_sleepers ∧ Meth K C "sleepers" f_Held_sleepers ∧ Fun K "stuck_tasks" "Held.stuck_tasks" s_Held_stuck_tasks f_Held_stuck_tasks d_Held_stuck_tasks ∧ Meth K C "stuck_tasks" f_Held_stuck_tasks ∧ Fun K "channel_of" "Held.channel_of" s_Held_channel_of f_Held_channel_of d_Held_channel_of ∧ Meth K C "channel_of" f_Held_channel_of ∧ Fun K "task_of" "Held.task_of" s_Held_task_of f_Held_task_of d_Held_task_of ∧ Meth K C "task_of" f_Held_task_of ∧ NoAttr K C "steps" ∧ NoAttr K C "tasks" ∧ NoAttr K C "channels" ∧ NoAttr K C "row" ∧ NoAttr K C "now")
    (h_Clock : ∃ (C : Addr) (f_Clock_init : Addr) (d_Clock_init : FuncData) (f_Clock_ask : Addr) (d_Clock_ask : FuncData), mg "Clock" = some (.ref C) ∧ Cls K C ∧ Mk K C f_Clock_init ∧ Fun K "__init__" "Clock.__init__" s_Clock_init f_Clock_init d_Clock_init ∧ Fun K "ask" "Clock.ask" s_Clock_ask f_Clock_ask d_Clock_ask ∧ Meth K C "ask" f_Clock_ask ∧ NoAttr K C "replies" ∧ NoAttr K C "asked")
    (h_Reader : ∃ (C : Addr) (f_Reader_init : Addr) (d_Reader_init : FuncData) (f_Reader_has_more : Addr) (d_Reader_has_more : FuncData) (f_Reader_take_number : Addr) (d_Reader_take_number : FuncData) (f_Reader_take_list : Addr) (d_Reader_take_list : FuncData) (f_Reader_take_lists : Addr) (d_Reader_take_lists : FuncData), mg "Reader" = some (.ref C) ∧ Cls K C ∧ Mk K C f_Reader_init ∧ Fun K "__init__" "Reader.__init__" s_Reader_init f_Reader_init d_Reader_init ∧ Fun K "has_more" "Reader.has_more" s_Reader_has_more f_Reader_has_more d_Reader_has_more ∧ Meth K C "has_more" f_Reader_has_more ∧ Fun K "take_number" "Reader.take_number" s_Reader_take_number f_Reader_take_number d_Reader_take_number ∧ Meth K C "take_number" f_Reader_take_number ∧ Fun K "take_list" "Reader.take_list" s_Reader_take_list f_Reader_take_list d_Reader_take_list ∧ Meth K C "take_list" f_Reader_take_list ∧ Fun K "take_lists" "Reader.take_lists" s_Reader_take_lists f_Reader_take_lists d_Reader_take_lists ∧ Meth K C "take_lists" f_Reader_take_lists ∧ NoAttr K C "numbers" ∧ NoAttr K C "place")
    (h_MOST_NUMBERS : ∃ t : Tok, mg "MOST_NUMBERS" = some (.int (64) t))
    (h_LAST_TIME : ∃ t : Tok, mg "LAST_TIME" = some (.int (4611686018427387904) t))
    (h_NOTHING : ∃ t : Tok, mg "NOTHING" = some (.int (0) t))
    (h_WHOLE : ∃ t : Tok, mg "WHOLE" = some (.int (2) t))
    (h_TASK : ∃ t : Tok, mg "TASK" = some (.int (8) t))
    (h_CHANNEL_forms : ∃ t : Tok, mg "CHANNEL_forms" = some (.int (9) t))
    (h_MOST_TASKS : ∃ t : Tok, mg "MOST_TASKS" = some (.int (1000) t))
    (h_MOST_CHANNELS : ∃ t : Tok, mg "MOST_CHANNELS" = some (.int (1000) t))
    (h_READY : ∃ t : Tok, mg "READY" = some (.int (0) t))
    (h_GOING : ∃ t : Tok, mg "GOING" = some (.int (1) t))
    (h_SPAWNING : ∃ t : Tok, mg "SPAWNING" = some (.int (2) t))
    (h_SENDING : ∃ t : Tok, mg "SENDING" = some (.int (3) t))
    (h_RECEIVING : ∃ t : Tok, mg "RECEIVING" = some (.int (4) t))
    (h_AWAITING_END : ∃ t : Tok, mg "AWAITING_END" = some (.int (5) t))
    (h_AWAITING_TIME : ∃ t : Tok, mg "AWAITING_TIME" = some (.int (6) t))
    (h_ENDED : ∃ t : Tok, mg "ENDED" = some (.int (7) t))
    (h_THROWN : ∃ t : Tok, mg "THROWN" = some (.int (8) t))
    (h_HAND : ∃ t : Tok, mg "HAND" = some (.int (0) t))
    (h_TOSS : ∃ t : Tok, mg "TOSS" = some (.int (1) t))
    (h_SPAWN : ∃ t : Tok, mg "SPAWN" = some (.int (2) t))
    (h_AT_SPAWN : ∃ t : Tok, mg "AT_SPAWN" = some (.int (41) t))
    (h_AT_PAUSE : ∃ t : Tok, mg "AT_PAUSE" = some (.int (42) t))
    (h_AT_CHANNEL : ∃ t : Tok, mg "AT_CHANNEL" = some (.int (43) t))
    (h_AT_SEND : ∃ t : Tok, mg "AT_SEND" = some (.int (44) t))
    (h_AT_RECEIVE : ∃ t : Tok, mg "AT_RECEIVE" = some (.int (45) t))
    (h_AT_END : ∃ t : Tok, mg "AT_END" = some (.int (46) t))
    (h_AT_SLEEP : ∃ t : Tok, mg "AT_SLEEP" = some (.int (47) t))
    (h_MOST_ROOM : ∃ t : Tok, mg "MOST_ROOM" = some (.int (65536) t))
    (h_WRONG_VALUE : ∃ t : Tok, mg "WRONG_VALUE" = some (.int (-1) t))
    (h_OWN_END : ∃ t : Tok, mg "OWN_END" = some (.int (-2) t))
    (h_NEVER : ∃ t : Tok, mg "NEVER" = some (.int (-1) t))
    (h_MOST_STEPS : ∃ t : Tok, mg "MOST_STEPS" = some (.int (100000) t))
    (h_HIGHEST_TASK : ∃ t : Tok, mg "HIGHEST_TASK" = some (.int (4294967295) t))
    (h_DONE : ∃ t : Tok, mg "DONE" = some (.int (0) t))
    (h_NOT_AS_TOLD : ∃ t : Tok, mg "NOT_AS_TOLD" = some (.int (-8) t))
    (h_KNOWN : ∃ t : Tok, mg "KNOWN" = some (.int (-3) t))
    (h_NO_CHANNEL : ∃ t : Tok, mg "NO_CHANNEL" = some (.int (-4) t))
    (h_TOO_MANY : ∃ t : Tok, mg "TOO_MANY" = some (.int (-5) t))
    (h_GOES : ∃ t : Tok, mg "GOES" = some (.int (0) t))
    (h_IS_BUSY : ∃ t : Tok, mg "IS_BUSY" = some (.int (1) t))
    (h_TIME_IS_AWAITED : ∃ t : Tok, mg "TIME_IS_AWAITED" = some (.int (2) t))
    (h_ALL_ENDED : ∃ t : Tok, mg "ALL_ENDED" = some (.int (3) t))
    (h_NONE_CAN_GO : ∃ t : Tok, mg "NONE_CAN_GO" = some (.int (4) t))
    (h_TURN_OVER : ∃ t : Tok, mg "TURN_OVER" = some (.int (0) t))
    (h_BY_ITSELF : ∃ t : Tok, mg "BY_ITSELF" = some (.int (1) t))
    (h_BY_THROW : ∃ t : Tok, mg "BY_THROW" = some (.int (2) t))
    (h_STANDS : ∃ t : Tok, mg "STANDS" = some (.int (3) t))
    (h_NO_THREAD : ∃ t : Tok, mg "NO_THREAD" = some (.int (-1) t))
    (h_BEGIN : ∃ t : Tok, mg "BEGIN" = some (.int (0) t))
    (h_ADD : ∃ t : Tok, mg "ADD" = some (.int (1) t))
    (h_NEXT : ∃ t : Tok, mg "NEXT" = some (.int (2) t))
    (h_RAN : ∃ t : Tok, mg "RAN" = some (.int (3) t))
    (h_SPAWNED : ∃ t : Tok, mg "SPAWNED" = some (.int (4) t))
    (h_STATE : ∃ t : Tok, mg "STATE" = some (.int (5) t))
    (h_CHANNEL_desk : ∃ t : Tok, mg "CHANNEL_desk" = some (.int (6) t))
    (h_STUCK : ∃ t : Tok, mg "STUCK" = some (.int (7) t))
    (h_n_all : mg "all" = none)
    (h_n_any : mg "any" = none)
    (h_n_len : mg "len" = none)
    (h_n_max : mg "max" = none)
    (h_n_min : mg "min" = none)
    (h_n_range : mg "range" = none)
    (h_n_sorted : mg "sorted" = none) : ∃ a : Ad, Tx K mg a := by
  obtain ⟨f_is_value, d_is_value, F_is_value, m_is_value⟩ := h_is_value
  obtain ⟨f_is_of_kind, d_is_of_kind, F_is_of_kind, m_is_of_kind⟩ := h_is_of_kind
  obtain ⟨f_is_whole, d_is_whole, F_is_whole, m_is_whole⟩ := h_is_whole
  obtain ⟨f_nothing, d_nothing, F_nothing, m_nothing⟩ := h_nothing
  obtain ⟨f_whole, d_whole, F_whole, m_whole⟩ := h_whole
  obtain ⟨f_channel_value, d_channel_value, F_channel_value, m_channel_value⟩ := h_channel_value
  obtain ⟨f_order_value, d_order_value, F_order_value, m_order_value⟩ := h_order_value
  obtain ⟨f_hand, d_hand, F_hand, m_hand⟩ := h_hand
  obtain ⟨f_toss, d_toss, F_toss, m_toss⟩ := h_toss
  obtain ⟨f_order_spawn, d_order_spawn, F_order_spawn, m_order_spawn⟩ := h_order_spawn
  obtain ⟨f_tell_orders, d_tell_orders, F_tell_orders, m_tell_orders⟩ := h_tell_orders
  obtain ⟨f_is_in_ring, d_is_in_ring, F_is_in_ring, m_is_in_ring⟩ := h_is_in_ring
  obtain ⟨f_values_wanted, d_values_wanted, F_values_wanted, m_values_wanted⟩ := h_values_wanted
  obtain ⟨f_toss_wrong, d_toss_wrong, F_toss_wrong, m_toss_wrong⟩ := h_toss_wrong
  obtain ⟨f_stand_at_spawn, d_stand_at_spawn, F_stand_at_spawn, m_stand_at_spawn⟩ := h_stand_at_spawn
  obtain ⟨f_stand_at_channel, d_stand_at_channel, F_stand_at_channel, m_stand_at_channel⟩ := h_stand_at_channel
  obtain ⟨f_stand_at_send, d_stand_at_send, F_stand_at_send, m_stand_at_send⟩ := h_stand_at_send
  obtain ⟨f_stand_at_receive, d_stand_at_receive, F_stand_at_receive, m_stand_at_receive⟩ := h_stand_at_receive
  obtain ⟨f_tell_end, d_tell_end, F_tell_end, m_tell_end⟩ := h_tell_end
  obtain ⟨f_stand_at_end, d_stand_at_end, F_stand_at_end, m_stand_at_end⟩ := h_stand_at_end
  obtain ⟨f_stand_at_sleep, d_stand_at_sleep, F_stand_at_sleep, m_stand_at_sleep⟩ := h_stand_at_sleep
  obtain ⟨f_stand, d_stand, F_stand, m_stand⟩ := h_stand
  obtain ⟨f_answer_begin, d_answer_begin, F_answer_begin, m_answer_begin⟩ := h_answer_begin
  obtain ⟨f_refusal_of_new, d_refusal_of_new, F_refusal_of_new, m_refusal_of_new⟩ := h_refusal_of_new
  obtain ⟨f_answer_add, d_answer_add, F_answer_add, m_answer_add⟩ := h_answer_add
  obtain ⟨f_wake_sleepers, d_wake_sleepers, F_wake_sleepers, m_wake_sleepers⟩ := h_wake_sleepers
  obtain ⟨f_answer_next, d_answer_next, F_answer_next, m_answer_next⟩ := h_answer_next
  obtain ⟨f_values_of_ran, d_values_of_ran, F_values_of_ran, m_values_of_ran⟩ := h_values_of_ran
  obtain ⟨f_end_task, d_end_task, F_end_task, m_end_task⟩ := h_end_task
  obtain ⟨f_answer_ran, d_answer_ran, F_answer_ran, m_answer_ran⟩ := h_answer_ran
  obtain ⟨f_answer_spawned, d_answer_spawned, F_answer_spawned, m_answer_spawned⟩ := h_answer_spawned
  obtain ⟨f_answer_state, d_answer_state, F_answer_state, m_answer_state⟩ := h_answer_state
  obtain ⟨f_answer_channel, d_answer_channel, F_answer_channel, m_answer_channel⟩ := h_answer_channel
  obtain ⟨f_answer_stuck, d_answer_stuck, F_answer_stuck, m_answer_stuck⟩ := h_answer_stuck
  obtain ⟨f_answer_call, d_answer_call, F_answer_call, m_answer_call⟩ := h_answer_call
  obtain ⟨f_answers, d_answers, F_answers, m_answers⟩ := h_answers
  obtain ⟨C_Task, f_Task_init, d_Task_init, f_Task_wait, d_Task_wait, f_Task_has_ended, d_Task_has_ended, f_Task_needs_another, d_Task_needs_another, m_Task, l_Task, k_Task, F_Task_init, F_Task_wait, M_Task_wait, F_Task_has_ended, M_Task_has_ended, F_Task_needs_another, M_Task_needs_another, a_Task_number, a_Task_state, a_Task_target, a_Task_value, a_Task_waiters⟩ := h_Task
  obtain ⟨C_Channel, f_Channel_init, d_Channel_init, m_Channel, l_Channel, k_Channel, F_Channel_init, a_Channel_room, a_Channel_kept, a_Channel_senders, a_Channel_receivers⟩ := h_Channel
  obtain ⟨C_Held, f_Held_init, d_Held_init, f_Held_begin_anew, d_Held_begin_anew, f_Held_is_full, d_Held_is_full, f_Held_has_all_channels, d_Held_has_all_channels, f_Held_add_task, d_Held_add_task, f_Held_make_ready, d_Held_make_ready, f_Held_hear, d_Held_hear, f_Held_is_busy, d_Held_is_busy, f_Held_all_have_ended, d_Held_all_have_ended, f_Held_sleepers, d_Held_sleepers, f_Held_stuck_tasks, d_Held_stuck_tasks, f_Held_channel_of, d_Held_channel_of, f_Held_task_of, d_Held_task_of, m_Held, l_Held, k_Held, F_Held_init, F_Held_begin_anew, M_Held_begin_anew, F_Held_is_full, M_Held_is_full, F_Held_has_all_channels, M_Held_has_all_channels, F_Held_add_task, M_Held_add_task, F_Held_make_ready, M_Held_make_ready, F_Held_hear, M_Held_hear, F_Held_is_busy, M_Held_is_busy, F_Held_all_have_ended, M_Held_all_have_ended, F_Held_sleepers, M_Held_sleepers, F_Held_stuck_tasks, M_Held_stuck_tasks, F_Held_channel_of, M_Held_channel_of, F_Held_task_of, M_Held_task_of, a_Held_steps, a_Held_tasks, a_Held_channels, a_Held_row, a_Held_now⟩ := h_Held
  obtain ⟨C_Clock, f_Clock_init, d_Clock_init, f_Clock_ask, d_Clock_ask, m_Clock, l_Clock, k_Clock, F_Clock_init, F_Clock_ask, M_Clock_ask, a_Clock_replies, a_Clock_asked⟩ := h_Clock
  obtain ⟨C_Reader, f_Reader_init, d_Reader_init, f_Reader_has_more, d_Reader_has_more, f_Reader_take_number, d_Reader_take_number, f_Reader_take_list, d_Reader_take_list, f_Reader_take_lists, d_Reader_take_lists, m_Reader, l_Reader, k_Reader, F_Reader_init, F_Reader_has_more, M_Reader_has_more, F_Reader_take_number, M_Reader_take_number, F_Reader_take_list, M_Reader_take_list, F_Reader_take_lists, M_Reader_take_lists, a_Reader_numbers, a_Reader_place⟩ := h_Reader
  obtain ⟨t_MOST_NUMBERS, c_MOST_NUMBERS⟩ := h_MOST_NUMBERS
  obtain ⟨t_LAST_TIME, c_LAST_TIME⟩ := h_LAST_TIME
  obtain ⟨t_NOTHING, c_NOTHING⟩ := h_NOTHING
  obtain ⟨t_WHOLE, c_WHOLE⟩ := h_WHOLE
  obtain ⟨t_TASK, c_TASK⟩ := h_TASK
  obtain ⟨t_CHANNEL_forms, c_CHANNEL_forms⟩ := h_CHANNEL_forms
  obtain ⟨t_MOST_TASKS, c_MOST_TASKS⟩ := h_MOST_TASKS
  obtain ⟨t_MOST_CHANNELS, c_MOST_CHANNELS⟩ := h_MOST_CHANNELS
  obtain ⟨t_READY, c_READY⟩ := h_READY
  obtain ⟨t_GOING, c_GOING⟩ := h_GOING
  obtain ⟨t_SPAWNING, c_SPAWNING⟩ := h_SPAWNING
  obtain ⟨t_SENDING, c_SENDING⟩ := h_SENDING
  obtain ⟨t_RECEIVING, c_RECEIVING⟩ := h_RECEIVING
  obtain ⟨t_AWAITING_END, c_AWAITING_END⟩ := h_AWAITING_END
  obtain ⟨t_AWAITING_TIME, c_AWAITING_TIME⟩ := h_AWAITING_TIME
  obtain ⟨t_ENDED, c_ENDED⟩ := h_ENDED
  obtain ⟨t_THROWN, c_THROWN⟩ := h_THROWN
  obtain ⟨t_HAND, c_HAND⟩ := h_HAND
  obtain ⟨t_TOSS, c_TOSS⟩ := h_TOSS
  obtain ⟨t_SPAWN, c_SPAWN⟩ := h_SPAWN
  obtain ⟨t_AT_SPAWN, c_AT_SPAWN⟩ := h_AT_SPAWN
  obtain ⟨t_AT_PAUSE, c_AT_PAUSE⟩ := h_AT_PAUSE
  obtain ⟨t_AT_CHANNEL, c_AT_CHANNEL⟩ := h_AT_CHANNEL
  obtain ⟨t_AT_SEND, c_AT_SEND⟩ := h_AT_SEND
  obtain ⟨t_AT_RECEIVE, c_AT_RECEIVE⟩ := h_AT_RECEIVE
  obtain ⟨t_AT_END, c_AT_END⟩ := h_AT_END
  obtain ⟨t_AT_SLEEP, c_AT_SLEEP⟩ := h_AT_SLEEP
  obtain ⟨t_MOST_ROOM, c_MOST_ROOM⟩ := h_MOST_ROOM
  obtain ⟨t_WRONG_VALUE, c_WRONG_VALUE⟩ := h_WRONG_VALUE
  obtain ⟨t_OWN_END, c_OWN_END⟩ := h_OWN_END
  obtain ⟨t_NEVER, c_NEVER⟩ := h_NEVER
  obtain ⟨t_MOST_STEPS, c_MOST_STEPS⟩ := h_MOST_STEPS
  obtain ⟨t_HIGHEST_TASK, c_HIGHEST_TASK⟩ := h_HIGHEST_TASK
  obtain ⟨t_DONE, c_DONE⟩ := h_DONE
  obtain ⟨t_NOT_AS_TOLD, c_NOT_AS_TOLD⟩ := h_NOT_AS_TOLD
  obtain ⟨t_KNOWN, c_KNOWN⟩ := h_KNOWN
  obtain ⟨t_NO_CHANNEL, c_NO_CHANNEL⟩ := h_NO_CHANNEL
  obtain ⟨t_TOO_MANY, c_TOO_MANY⟩ := h_TOO_MANY
  obtain ⟨t_GOES, c_GOES⟩ := h_GOES
  obtain ⟨t_IS_BUSY, c_IS_BUSY⟩ := h_IS_BUSY
  obtain ⟨t_TIME_IS_AWAITED, c_TIME_IS_AWAITED⟩ := h_TIME_IS_AWAITED
  obtain ⟨t_ALL_ENDED, c_ALL_ENDED⟩ := h_ALL_ENDED
  obtain ⟨t_NONE_CAN_GO, c_NONE_CAN_GO⟩ := h_NONE_CAN_GO
  obtain ⟨t_TURN_OVER, c_TURN_OVER⟩ := h_TURN_OVER
  obtain ⟨t_BY_ITSELF, c_BY_ITSELF⟩ := h_BY_ITSELF
  obtain ⟨t_BY_THROW, c_BY_THROW⟩ := h_BY_THROW
  obtain ⟨t_STANDS, c_STANDS⟩ := h_STANDS
  obtain ⟨t_NO_THREAD, c_NO_THREAD⟩ := h_NO_THREAD
  obtain ⟨t_BEGIN, c_BEGIN⟩ := h_BEGIN
  obtain ⟨t_ADD, c_ADD⟩ := h_ADD
  obtain ⟨t_NEXT, c_NEXT⟩ := h_NEXT
  obtain ⟨t_RAN, c_RAN⟩ := h_RAN
  obtain ⟨t_SPAWNED, c_SPAWNED⟩ := h_SPAWNED
  obtain ⟨t_STATE, c_STATE⟩ := h_STATE
  obtain ⟨t_CHANNEL_desk, c_CHANNEL_desk⟩ := h_CHANNEL_desk
  obtain ⟨t_STUCK, c_STUCK⟩ := h_STUCK
  exact ⟨⟨f_is_value, d_is_value, f_is_of_kind, d_is_of_kind, f_is_whole, d_is_whole, f_nothing, d_nothing, f_whole, d_whole, f_channel_value, d_channel_value, f_Task_init, d_Task_init, f_Task_wait, d_Task_wait, f_Task_has_ended, d_Task_has_ended, f_Task_needs_another, d_Task_needs_another, f_Channel_init, d_Channel_init, f_Held_init, d_Held_init, f_Held_begin_anew, d_Held_begin_anew, f_Held_is_full, d_Held_is_full, f_Held_has_all_channels, d_Held_has_all_channels, f_Held_add_task, d_Held_add_task, f_Held_make_ready, d_Held_make_ready, f_Held_hear, d_Held_hear, f_Held_is_busy, d_Held_is_busy, f_Held_all_have_ended, d_Held_all_have_ended, f_Held_sleepers, d_Held_sleepers, f_Held_stuck_tasks, d_Held_stuck_tasks, f_Held_channel_of, d_Held_channel_of, f_Held_task_of, d_Held_task_of, f_order_value, d_order_value, f_hand, d_hand, f_toss, d_toss, f_order_spawn, d_order_spawn, f_tell_orders, d_tell_orders, f_is_in_ring, d_is_in_ring, f_values_wanted, d_values_wanted, f_toss_wrong, d_toss_wrong, f_stand_at_spawn, d_stand_at_spawn, f_stand_at_channel, d_stand_at_channel, f_stand_at_send, d_stand_at_send, f_stand_at_receive, d_stand_at_receive, f_tell_end, d_tell_end, f_stand_at_end, d_stand_at_end, f_stand_at_sleep, d_stand_at_sleep, f_stand, d_stand, f_answer_begin, d_answer_begin, f_refusal_of_new, d_refusal_of_new, f_answer_add, d_answer_add, f_wake_sleepers, d_wake_sleepers, f_answer_next, d_answer_next, f_values_of_ran, d_values_of_ran, f_end_task, d_end_task, f_answer_ran, d_answer_ran, f_answer_spawned, d_answer_spawned, f_answer_state, d_answer_state, f_answer_channel, d_answer_channel, f_answer_stuck, d_answer_stuck, f_Clock_init, d_Clock_init, f_Clock_ask, d_Clock_ask, f_Reader_init, d_Reader_init, f_Reader_has_more, d_Reader_has_more, f_Reader_take_number, d_Reader_take_number, f_Reader_take_list, d_Reader_take_list, f_Reader_take_lists, d_Reader_take_lists, f_answer_call, d_answer_call, f_answers, d_answers, C_Task, C_Channel, C_Held, C_Clock, C_Reader, t_MOST_NUMBERS, t_LAST_TIME, t_NOTHING, t_WHOLE, t_TASK, t_CHANNEL_forms, t_MOST_TASKS, t_MOST_CHANNELS, t_READY, t_GOING, t_SPAWNING, t_SENDING, t_RECEIVING, t_AWAITING_END, t_AWAITING_TIME, t_ENDED, t_THROWN, t_HAND, t_TOSS, t_SPAWN, t_AT_SPAWN, t_AT_PAUSE, t_AT_CHANNEL, t_AT_SEND, t_AT_RECEIVE, t_AT_END, t_AT_SLEEP, t_MOST_ROOM, t_WRONG_VALUE, t_OWN_END, t_NEVER, t_MOST_STEPS, t_HIGHEST_TASK, t_DONE, t_NOT_AS_TOLD, t_KNOWN, t_NO_CHANNEL, t_TOO_MANY, t_GOES, t_IS_BUSY, t_TIME_IS_AWAITED, t_ALL_ENDED, t_NONE_CAN_GO, t_TURN_OVER, t_BY_ITSELF, t_BY_THROW, t_STANDS, t_NO_THREAD, t_BEGIN, t_ADD, t_NEXT, t_RAN, t_SPAWNED, t_STATE, t_CHANNEL_desk, t_STUCK⟩, ⟨F_is_value, m_is_value, F_is_of_kind, m_is_of_kind, F_is_whole, m_is_whole, F_nothing, m_nothing, F_whole, m_whole, F_channel_value, m_channel_value, F_Task_init, F_Task_wait, M_Task_wait, F_Task_has_ended, M_Task_has_ended, F_Task_needs_another, M_Task_needs_another, F_Channel_init, F_Held_init, F_Held_begin_anew, M_Held_begin_anew, F_Held_is_full, M_Held_is_full, F_Held_has_all_channels, M_Held_has_all_channels, F_Held_add_task, M_Held_add_task, F_Held_make_ready, M_Held_make_ready, F_Held_hear, M_Held_hear, F_Held_is_busy, M_Held_is_busy, F_Held_all_have_ended, M_Held_all_have_ended, F_Held_sleepers, M_Held_sleepers, F_Held_stuck_tasks, M_Held_stuck_tasks, F_Held_channel_of, M_Held_channel_of, F_Held_task_of, M_Held_task_of, F_order_value, m_order_value, F_hand, m_hand, F_toss, m_toss, F_order_spawn, m_order_spawn, F_tell_orders, m_tell_orders, F_is_in_ring, m_is_in_ring, F_values_wanted, m_values_wanted, F_toss_wrong, m_toss_wrong, F_stand_at_spawn, m_stand_at_spawn, F_stand_at_channel, m_stand_at_channel, F_stand_at_send, m_stand_at_send, F_stand_at_receive, m_stand_at_receive, F_tell_end, m_tell_end, F_stand_at_end, m_stand_at_end, F_stand_at_sleep, m_stand_at_sleep, F_stand, m_stand, F_answer_begin, m_answer_begin, F_refusal_of_new, m_refusal_of_new, F_answer_add, m_answer_add, F_wake_sleepers, m_wake_sleepers, F_answer_next, m_answer_next, F_values_of_ran, m_values_of_ran, F_end_task, m_end_task, F_answer_ran, m_answer_ran, F_answer_spawned, m_answer_spawned, F_answer_state, m_answer_state, F_answer_channel, m_answer_channel, F_answer_stuck, m_answer_stuck, F_Clock_init, F_Clock_ask, M_Clock_ask, F_Reader_init, F_Reader_has_more, M_Reader_has_more, F_Reader_take_number, M_Reader_take_number, F_Reader_take_list, M_Reader_take_list, F_Reader_take_lists, M_Reader_take_lists, F_answer_call, m_answer_call, F_answers, m_answers, m_Task, l_Task, k_Task, a_Task_number, a_Task_state, a_Task_target, a_Task_value, a_Task_waiters, m_Channel, l_Channel, k_Channel, a_Channel_room, a_Channel_kept, a_Channel_senders, a_Channel_receivers, m_Held, l_Held, k_Held, a_Held_steps, a_Held_tasks, a_Held_channels, a_Held_row, a_Held_now, m_Clock, l_Clock, k_Clock, a_Clock_replies, a_Clock_asked, m_Reader, l_Reader, k_Reader, a_Reader_numbers, a_Reader_place, c_MOST_NUMBERS, c_LAST_TIME, c_NOTHING, c_WHOLE, c_TASK, c_CHANNEL_forms, c_MOST_TASKS, c_MOST_CHANNELS, c_READY, c_GOING, c_SPAWNING, c_SENDING, c_RECEIVING, c_AWAITING_END, c_AWAITING_TIME, c_ENDED, c_THROWN, c_HAND, c_TOSS, c_SPAWN, c_AT_SPAWN, c_AT_PAUSE, c_AT_CHANNEL, c_AT_SEND, c_AT_RECEIVE, c_AT_END, c_AT_SLEEP, c_MOST_ROOM, c_WRONG_VALUE, c_OWN_END, c_NEVER, c_MOST_STEPS, c_HIGHEST_TASK, c_DONE, c_NOT_AS_TOLD, c_KNOWN, c_NO_CHANNEL, c_TOO_MANY, c_GOES, c_IS_BUSY, c_TIME_IS_AWAITED, c_ALL_ENDED, c_NONE_CAN_GO, c_TURN_OVER, c_BY_ITSELF, c_BY_THROW, c_STANDS, c_NO_THREAD, c_BEGIN, c_ADD, c_NEXT, c_RAN, c_SPAWNED, c_STATE, c_CHANNEL_desk, c_STUCK, h_n_all, h_n_any, h_n_len, h_n_max, h_n_min, h_n_range, h_n_sorted⟩⟩
theorem all_mk {P : Program} {w : World} {fa : Addr} (hfa : mg "answers" = some (.ref fa)) (hT : ∃ a : Ad, Tx K mg a) :
    ∃ fd : FuncData, (∀ (s : Shared) (us : List Value), us.length = (["calls"] : List Str).length → BindsTo s fd ⟨us, []⟩ ((["calls"] : List Str).zip us)) ∧ ∀ base : Heap, K.In base → base.Ns mainGlobals mg → FnOk P w K mg base CX0 9 fa fd ["calls"] (sp_answers K) := by
  obtain ⟨a, T⟩ := hT
  have e := hfa.symm.trans T.m_answers
  cases e
  obtain ⟨oc, od, kV, doc, pm, an, cdv, ct, osl, e, lk, hcd⟩ := T.F_answers.ex
  refine ⟨a.d_answers, fun s us hu => ?_, fun base _ _ => ok_answers T⟩
  rw [e]
  exact match us, hu with | [_], _ => .of_eq rfl
end
end TT
open PySem PySem.W PyProof.Rows
set_option maxRecDepth 100000 in
set_option maxHeartbeats 0 in
theorem PySem.Challenge.cw_turntasks_s01_answers_holds : PySem.Challenge.rw_turntasks_s01_answers.Holds := by
  w_on; k_headS; (case hw => exact ⟨[.list []], by decide +kernel, by decide +kernel⟩)
  k_fillS
  refine L2.walk_specK (r := PySem.Challenge.rw_turntasks_s01_answers) (k := 9) (CX := L2.CX0) (ps := ["calls"]) (sp := TT.sp_answers) (by decide +kernel) rfl rfl ⟨rfl, by decide, by decide⟩ (fun w h Y => PySem.W.kIn_of Y) ?F ?S (fun _ _ _ _ z => z)
  case F =>
    intro w mg fa h Y KX G hmg
    refine TT.all_mk hmg ?T
    clear hmg Y
    refine TT.tx_mk ?h_is_value ?h_is_of_kind ?h_is_whole ?h_nothing ?h_whole ?h_channel_value ?h_order_value ?h_hand ?h_toss ?h_order_spawn ?h_tell_orders ?h_is_in_ring ?h_values_wanted ?h_toss_wrong ?h_stand_at_spawn ?h_stand_at_channel ?h_stand_at_send ?h_stand_at_receive ?h_tell_end ?h_stand_at_end ?h_stand_at_sleep ?h_stand ?h_answer_begin ?h_refusal_of_new ?h_answer_add ?h_wake_sleepers ?h_answer_next ?h_values_of_ran ?h_end_task ?h_answer_ran ?h_answer_spawned ?h_answer_state ?h_answer_channel ?h_answer_stuck ?h_answer_call ?h_answers ?h_Task ?h_Channel ?h_Held ?h_Clock ?h_Reader ?h_MOST_NUMBERS ?h_LAST_TIME ?h_NOTHING ?h_WHOLE ?h_TASK ?h_CHANNEL_forms ?h_MOST_TASKS ?h_MOST_CHANNELS ?h_READY ?h_GOING ?h_SPAWNING ?h_SENDING ?h_RECEIVING ?h_AWAITING_END ?h_AWAITING_TIME ?h_ENDED ?h_THROWN ?h_HAND ?h_TOSS ?h_SPAWN ?h_AT_SPAWN ?h_AT_PAUSE ?h_AT_CHANNEL ?h_AT_SEND ?h_AT_RECEIVE ?h_AT_END ?h_AT_SLEEP ?h_MOST_ROOM ?h_WRONG_VALUE ?h_OWN_END ?h_NEVER ?h_MOST_STEPS ?h_HIGHEST_TASK ?h_DONE ?h_NOT_AS_TOLD ?h_KNOWN ?h_NO_CHANNEL ?h_TOO_MANY ?h_GOES ?h_IS_BUSY ?h_TIME_IS_AWAITED ?h_ALL_ENDED ?h_NONE_CAN_GO ?h_TURN_OVER ?h_BY_ITSELF ?h_BY_THROW ?h_STANDS ?h_NO_THREAD ?h_BEGIN ?h_ADD ?h_NEXT ?h_RAN ?h_SPAWNED ?h_STATE ?h_CHANNEL_desk ?h_STUCK ?h_n_all ?h_n_any ?h_n_len ?h_n_max ?h_n_min ?h_n_range ?h_n_sorted
    case h_is_value => refine' TT.mkF KX G ?n ?l ?c ?k; (case n => k_is); (case l => k_is); (case c => k_is); (case k => k_is)
    case h_is_of_kind => refine' TT.mkF KX G ?n ?l ?c ?k; (case n => k_is); (case l => k_is); (case c => k_is); (case k => k_is)
    case h_is_whole => refine' TT.mkF KX G ?n ?l ?c ?k; (case n => k_is); (case l => k_is); (case c => k_is); (case k => k_is)
    case h_nothing => refine' TT.mkF KX G ?n ?l ?c ?k; (case n => k_is); (case l => k_is); (case c => k_is); (case k => k_is)
    case h_whole => refine' TT.mkF KX G ?n ?l ?c ?k; (case n => k_is); (case l => k_is); (case c => k_is); (case k => k_is)
    case h_channel_value => refine' TT.mkF KX G ?n ?l ?c ?k; (case n => k_is); (case l => k_is); (case c => k_is); (case k => k_is)
    case h_order_value => refine' TT.mkF KX G ?n ?l ?c ?k; (case n => k_is); (case l => k_is); (case c => k_is); (case k => k_is)
    case h_hand => refine' TT.mkF KX G ?n ?l ?c ?k; (case n => k_is); (case l => k_is); (case c => k_is); (case k => k_is)
    case h_toss => refine' TT.mkF KX G ?n ?l ?c ?k; (case n => k_is); (case l => k_is); (case c => k_is); (case k => k_is)
    case h_order_spawn => refine' TT.mkF KX G ?n ?l ?c ?k; (case n => k_is); (case l => k_is); (case c => k_is); (case k => k_is)
    case h_tell_orders => refine' TT.mkF KX G ?n ?l ?c ?k; (case n => k_is); (case l => k_is); (case c => k_is); (case k => k_is)
    case h_is_in_ring => refine' TT.mkF KX G ?n ?l ?c ?k; (case n => k_is); (case l => k_is); (case c => k_is); (case k => k_is)
    case h_values_wanted => refine' TT.mkF KX G ?n ?l ?c ?k; (case n => k_is); (case l => k_is); (case c => k_is); (case k => k_is)
    case h_toss_wrong => refine' TT.mkF KX G ?n ?l ?c ?k; (case n => k_is); (case l => k_is); (case c => k_is); (case k => k_is)
    case h_stand_at_spawn => refine' TT.mkF KX G ?n ?l ?c ?k; (case n => k_is); (case l => k_is); (case c => k_is); (case k => k_is)
    case h_stand_at_channel => refine' TT.mkF KX G ?n ?l ?c ?k; (case n => k_is); (case l => k_is); (case c => k_is); (case k => k_is)
    case h_stand_at_send => refine' TT.mkF KX G ?n ?l ?c ?k; (case n => k_is); (case l => k_is); (case c => k_is); (case k => k_is)
    case h_stand_at_receive => refine' TT.mkF KX G ?n ?l ?c ?k; (case n => k_is); (case l => k_is); (case c => k_is); (case k => k_is)
    case h_tell_end => refine' TT.mkF KX G ?n ?l ?c ?k; (case n => k_is); (case l => k_is); (case c => k_is); (case k => k_is)
    case h_stand_at_end => refine' TT.mkF KX G ?n ?l ?c ?k; (case n => k_is); (case l => k_is); (case c => k_is); (case k => k_is)
    case h_stand_at_sleep => refine' TT.mkF KX G ?n ?l ?c ?k; (case n => k_is); (case l => k_is); (case c => k_is); (case k => k_is)
    case h_stand => refine' TT.mkF KX G ?n ?l ?c ?k; (case n => k_is); (case l => k_is); (case c => k_is); (case k => k_is)
    case h_answer_begin => refine' TT.mkF KX G ?n ?l ?c ?k; (case n => k_is); (case l => k_is); (case c => k_is); (case k => k_is)
    case h_refusal_of_new => refine' TT.mkF KX G ?n ?l ?c ?k; (case n => k_is); (case l => k_is); (case c => k_is); (case k => k_is)
    case h_answer_add => refine' TT.mkF KX G ?n ?l ?c ?k; (case n => k_is); (case l => k_is); (case c => k_is); (case k => k_is)
    case h_wake_sleepers => refine' TT.mkF KX G ?n ?l ?c ?k; (case n => k_is); (case l => k_is); (case c => k_is); (case k => k_is)
    case h_answer_next => refine' TT.mkF KX G ?n ?l ?c ?k; (case n => k_is); (case l => k_is); (case c => k_is); (case k => k_is)
    case h_values_of_ran => refine' TT.mkF KX G ?n ?l ?c ?k; (case n => k_is); (case l => k_is); (case c => k_is); (case k => k_is)
    case h_end_task => refine' TT.mkF KX G ?n ?l ?c ?k; (case n => k_is); (case l => k_is); (case c => k_is); (case k => k_is)
    case h_answer_ran => refine' TT.mkF KX G ?n ?l ?c ?k; (case n => k_is); (case l => k_is); (case c => k_is); (case k => k_is)
    case h_answer_spawned => refine' TT.mkF KX G ?n ?l ?c ?k; (case n => k_is); (case l => k_is); (case c => k_is); (case k => k_is)
    case h_answer_state => refine' TT.mkF KX G ?n ?l ?c ?k; (case n => k_is); (case l => k_is); (case c => k_is); (case k => k_is)
    case h_answer_channel => refine' TT.mkF KX G ?n ?l ?c ?k; (case n => k_is); (case l => k_is); (case c => k_is); (case k => k_is)
    case h_answer_stuck => refine' TT.mkF KX G ?n ?l ?c ?k; (case n => k_is); (case l => k_is); (case c => k_is); (case k => k_is)
    case h_answer_call => refine' TT.mkF KX G ?n ?l ?c ?k; (case n => k_is); (case l => k_is); (case c => k_is); (case k => k_is)
    case h_answers => refine' TT.mkF KX G ?n ?l ?c ?k; (case n => k_is); (case l => k_is); (case c => k_is); (case k => k_is)
    case h_Task => refine' TT.mk_Task KX G ?n ?pg ?hd ?po ?sa ?mk ?kc ?a0 ?i0 ?l0 ?c0 ?k0 ?a1 ?i1 ?l1 ?c1 ?k1 ?a2 ?i2 ?l2 ?c2 ?k2 ?a3 ?i3 ?l3 ?c3 ?k3 ?z0 ?z1 ?z2 ?z3 ?z4; (case n => k_is); (case pg => k_is); (case hd => k_is); (case po => k_is); (case sa => k_is); (case mk => k_is); (case kc => k_is); (case a0 => k_is); (case i0 => k_is); (case l0 => k_is); (case c0 => k_is); (case k0 => k_is); (case a1 => k_is); (case i1 => k_is); (case l1 => k_is); (case c1 => k_is); (case k1 => k_is); (case a2 => k_is); (case i2 => k_is); (case l2 => k_is); (case c2 => k_is); (case k2 => k_is); (case a3 => k_is); (case i3 => k_is); (case l3 => k_is); (case c3 => k_is); (case k3 => k_is); (case z0 => k_is); (case z1 => k_is); (case z2 => k_is); (case z3 => k_is); (case z4 => k_is)
    case h_Channel => refine' TT.mk_Channel KX G ?n ?pg ?hd ?po ?sa ?mk ?kc ?a0 ?i0 ?l0 ?c0 ?k0 ?z0 ?z1 ?z2 ?z3; (case n => k_is); (case pg => k_is); (case hd => k_is); (case po => k_is); (case sa => k_is); (case mk => k_is); (case kc => k_is); (case a0 => k_is); (case i0 => k_is); (case l0 => k_is); (case c0 => k_is); (case k0 => k_is); (case z0 => k_is); (case z1 => k_is); (case z2 => k_is); (case z3 => k_is)
    case h_Held => refine' TT.mk_Held KX G ?n ?pg ?hd ?po ?sa ?mk ?kc ?a0 ?i0 ?l0 ?c0 ?k0 ?a1 ?i1 ?l1 ?c1 ?k1 ?a2 ?i2 ?l2 ?c2 ?k2 ?a3 ?i3 ?l3 ?c3 ?k3 ?a4 ?i4 ?l4 ?c4 ?k4 ?a5 ?i5 ?l5 ?c5 ?k5 ?a6 ?i6 ?l6 ?c6 ?k6 ?a7 ?i7 ?l7 ?c7 ?k7 ?a8 ?i8 ?l8 ?c8 ?k8 ?a9 ?i9 ?l9 ?c9 ?k9 ?a10 ?i10 ?l10 ?c10 ?k10 ?a11 ?i11 ?l11 ?c11 ?k11 ?a12 ?i12 ?l12 ?c12 ?k12 ?z0 ?z1 ?z2 ?z3 ?z4; (case n => k_is); (case pg => k_is); (case hd => k_is); (case po => k_is); (case sa => k_is); (case mk => k_is); (case kc => k_is); (case a0 => k_is); (case i0 => k_is); (case l0 => k_is); (case c0 => k_is); (case k0 => k_is); (case a1 => k_is); (case i1 => k_is); (case l1 => k_is); (case c1 => k_is); (case k1 => k_is); (case a2 => k_is); (case i2 => k_is); (case l2 => k_is); (case c2 => k_is); (case k2 => k_is); (case a3 => k_is); (case i3 => k_is); (case l3 => k_is); (case c3 => k_is); (case k3 => k_is); (case a4 => k_is); (case i4 => k_is); (case l4 => k_is); (case c4 => k_is); (case k4 => k_is); (case a5 => k_is); (case i5 => k_is); (case l5 => k_is); (case c5 => k_is); (case k5 => k_is); (case a6 => k_is); (case i6 => k_is); (case l6 => k_is); (case c6 => k_is); (case k6 => k_is); (case a7 => k_is); (case i7 => k_is); (case l7 => k_is); (case c7 => k_is); (case k7 => k_is); (case a8 => k_is); (case i8 => k_is); (case l8 => k_is); (case c8 => k_is); (case k8 => k_is); (case a9 => k_is); (case i9 => k_is); (case l9 => k_is); (case c9 => k_is); (case k9 => k_is); (case a10 => k_is); (case i10 => k_is); (case l10 => k_is); (case c10 => k_is); (case k10 => k_is); (case a11 => k_is); (case i11 => k_is); (case l11 => k_is); (case c11 => k_is); (case k11 => k_is); (case a12 => k_is); (case i12 => k_is); (case l12 => k_is); (case c12 => k_is); (case k12 => k_is); (case z0 => k_is); (case z1 => k_is); (case z2 => k_is); (case z3 => k_is); (case z4 => k_is)
    case h_Clock => refine' TT.mk_Clock KX G ?n ?pg ?hd ?po ?sa ?mk ?kc ?a0 ?i0 ?l0 ?c0 ?k0 ?a1 ?i1 ?l1 ?c1 ?k1 ?z0 ?z1; (case n => k_is); (case pg => k_is); (case hd => k_is); (case po => k_is); (case sa => k_is); (case mk => k_is); (case kc => k_is); (case a0 => k_is); (case i0 => k_is); (case l0 => k_is); (case c0 => k_is); (case k0 => k_is); (case a1 => k_is); (case i1 => k_is); (case l1 => k_is); (case c1 => k_is); (case k1 => k_is); (case z0 => k_is); (case z1 => k_is)
    case h_Reader => refine' TT.mk_Reader KX G ?n ?pg ?hd ?po ?sa ?mk ?kc ?a0 ?i0 ?l0 ?c0 ?k0 ?a1 ?i1 ?l1 ?c1 ?k1 ?a2 ?i2 ?l2 ?c2 ?k2 ?a3 ?i3 ?l3 ?c3 ?k3 ?a4 ?i4 ?l4 ?c4 ?k4 ?z0 ?z1; (case n => k_is); (case pg => k_is); (case hd => k_is); (case po => k_is); (case sa => k_is); (case mk => k_is); (case kc => k_is); (case a0 => k_is); (case i0 => k_is); (case l0 => k_is); (case c0 => k_is); (case k0 => k_is); (case a1 => k_is); (case i1 => k_is); (case l1 => k_is); (case c1 => k_is); (case k1 => k_is); (case a2 => k_is); (case i2 => k_is); (case l2 => k_is); (case c2 => k_is); (case k2 => k_is); (case a3 => k_is); (case i3 => k_is); (case l3 => k_is); (case c3 => k_is); (case k3 => k_is); (case a4 => k_is); (case i4 => k_is); (case l4 => k_is); (case c4 => k_is); (case k4 => k_is); (case z0 => k_is); (case z1 => k_is)
    case h_MOST_NUMBERS => refine' TT.mkI KX G ?n; (case n => k_is)
    case h_LAST_TIME => refine' TT.mkI KX G ?n; (case n => k_is)
    case h_NOTHING => refine' TT.mkI KX G ?n; (case n => k_is)
    case h_WHOLE => refine' TT.mkI KX G ?n; (case n => k_is)
    case h_TASK => refine' TT.mkI KX G ?n; (case n => k_is)
    case h_CHANNEL_forms => refine' TT.mkI KX G ?n; (case n => k_is)
    case h_MOST_TASKS => refine' TT.mkI KX G ?n; (case n => k_is)
    case h_MOST_CHANNELS => refine' TT.mkI KX G ?n; (case n => k_is)
    case h_READY => refine' TT.mkI KX G ?n; (case n => k_is)
    case h_GOING => refine' TT.mkI KX G ?n; (case n => k_is)
    case h_SPAWNING => refine' TT.mkI KX G ?n; (case n => k_is)
    case h_SENDING => refine' TT.mkI KX G ?n; (case n => k_is)
    case h_RECEIVING => refine' TT.mkI KX G ?n; (case n => k_is)
    case h_AWAITING_END => refine' TT.mkI KX G ?n; (case n => k_is)
    case h_AWAITING_TIME => refine' TT.mkI KX G ?n; (case n => k_is)
    case h_ENDED => refine' TT.mkI KX G ?n; (case n => k_is)
    case h_THROWN => refine' TT.mkI KX G ?n; (case n => k_is)
    case h_HAND => refine' TT.mkI KX G ?n; (case n => k_is)
    case h_TOSS => refine' TT.mkI KX G ?n; (case n => k_is)
    case h_SPAWN => refine' TT.mkI KX G ?n; (case n => k_is)
    case h_AT_SPAWN => refine' TT.mkI KX G ?n; (case n => k_is)
    case h_AT_PAUSE => refine' TT.mkI KX G ?n; (case n => k_is)
    case h_AT_CHANNEL => refine' TT.mkI KX G ?n; (case n => k_is)
    case h_AT_SEND => refine' TT.mkI KX G ?n; (case n => k_is)
    case h_AT_RECEIVE => refine' TT.mkI KX G ?n; (case n => k_is)
    case h_AT_END => refine' TT.mkI KX G ?n; (case n => k_is)
    case h_AT_SLEEP => refine' TT.mkI KX G ?n; (case n => k_is)
    case h_MOST_ROOM => refine' TT.mkI KX G ?n; (case n => k_is)
    case h_WRONG_VALUE => refine' TT.mkI KX G ?n; (case n => k_is)
    case h_OWN_END => refine' TT.mkI KX G ?n; (case n => k_is)
    case h_NEVER => refine' TT.mkI KX G ?n; (case n => k_is)
    case h_MOST_STEPS => refine' TT.mkI KX G ?n; (case n => k_is)
    case h_HIGHEST_TASK => refine' TT.mkI KX G ?n; (case n => k_is)
    case h_DONE => refine' TT.mkI KX G ?n; (case n => k_is)
    case h_NOT_AS_TOLD => refine' TT.mkI KX G ?n; (case n => k_is)
    case h_KNOWN => refine' TT.mkI KX G ?n; (case n => k_is)
    case h_NO_CHANNEL => refine' TT.mkI KX G ?n; (case n => k_is)
    case h_TOO_MANY => refine' TT.mkI KX G ?n; (case n => k_is)
    case h_GOES => refine' TT.mkI KX G ?n; (case n => k_is)
    case h_IS_BUSY => refine' TT.mkI KX G ?n; (case n => k_is)
    case h_TIME_IS_AWAITED => refine' TT.mkI KX G ?n; (case n => k_is)
    case h_ALL_ENDED => refine' TT.mkI KX G ?n; (case n => k_is)
    case h_NONE_CAN_GO => refine' TT.mkI KX G ?n; (case n => k_is)
    case h_TURN_OVER => refine' TT.mkI KX G ?n; (case n => k_is)
    case h_BY_ITSELF => refine' TT.mkI KX G ?n; (case n => k_is)
    case h_BY_THROW => refine' TT.mkI KX G ?n; (case n => k_is)
    case h_STANDS => refine' TT.mkI KX G ?n; (case n => k_is)
    case h_NO_THREAD => refine' TT.mkI KX G ?n; (case n => k_is)
    case h_BEGIN => refine' TT.mkI KX G ?n; (case n => k_is)
    case h_ADD => refine' TT.mkI KX G ?n; (case n => k_is)
    case h_NEXT => refine' TT.mkI KX G ?n; (case n => k_is)
    case h_RAN => refine' TT.mkI KX G ?n; (case n => k_is)
    case h_SPAWNED => refine' TT.mkI KX G ?n; (case n => k_is)
    case h_STATE => refine' TT.mkI KX G ?n; (case n => k_is)
    case h_CHANNEL_desk => refine' TT.mkI KX G ?n; (case n => k_is)
    case h_STUCK => refine' TT.mkI KX G ?n; (case n => k_is)
    case h_n_all => refine' PySem.W.mg_none_of KX G ?n; (case n => k_is)
    case h_n_any => refine' PySem.W.mg_none_of KX G ?n; (case n => k_is)
    case h_n_len => refine' PySem.W.mg_none_of KX G ?n; (case n => k_is)
    case h_n_max => refine' PySem.W.mg_none_of KX G ?n; (case n => k_is)
    case h_n_min => refine' PySem.W.mg_none_of KX G ?n; (case n => k_is)
    case h_n_range => refine' PySem.W.mg_none_of KX G ?n; (case n => k_is)
    case h_n_sorted => refine' PySem.W.mg_none_of KX G ?n; (case n => k_is)
  case S =>
    intro K H xs a hO hwi hask hx
    cases hx with
    | cons h1 h2 =>
      cases h2
      cases h1 with
      | lst hs ha =>
        have e := L2.ints_dw a.1 _ ha
        subst e
        exact ⟨_, a.1, rfl, hs, hask, fun H' p hp => .lst (L2.SqL.of hp) (L2.dw_ints _)⟩
end
