import PyProof.Rows.All
import Wide.All
import OpenK.AllK
import Wide.FinOn
import Lean
import PyProof.EqAt
import PyProof.EqKinds
import PyProof.TupleCall
import PyProof.NeData
import PyProof.P3In
import PyProof.SliceStr2
import PyProof.StrLaws
import PyProof.WalksEnum
import PyProof.EnumMake
import PyProof.ListRange
import PyProof.Rows.StrInSeq3
import PyProof.StrLawsRepr
import PySem.Challenge.RW_stephall_k03_plans_written_and_read
import PyProof.Rows.SortWalk
import PyProof.Rows.SortStr
import PyProof.ConsumeWalk
import KE.KSortTup
import PyProof.Rows.SetFrom
import PyProof.CollectWalk
import PyProof.AutoListH
import PyProof.DictCompW
import PyProof.DictWalks
import PyProof.Rows.StrNews
import PyProof.Rows.StrWeight2
import PyProof.StrLawsChain
set_option Elab.async false
set_option linter.all false
set_option maxRecDepth 100000
namespace L2
open PySem PySem.Spec PyProof.Rows
abbrev Key := Sum Int Str
def keyIs : Key → Value → Bool
  | .inl k, v => Value.isInt k v
  | .inr x, v => Value.isStrOf x v
def keyH (w : World) : Key → Int
  | .inl k => hashInt k
  | .inr x => hashStr w x
theorem keyIs_shape : ∀ {k : Key} {v : Value}, keyIs k v = true → (∃ i t, k = Sum.inl i ∧ v = Value.int i t) ∨ (∃ x t, k = Sum.inr x ∧ v = Value.str x t)
  | .inl i, v, h => by
    obtain ⟨t, e⟩ := Value.isInt_shape (k := i) (v := v) h
    exact .inl ⟨i, t, rfl, e⟩
  | .inr x, v, h => by
    obtain ⟨t, e⟩ := Value.isStrOf_shape (x := x) (v := v) h
    exact .inr ⟨x, t, rfl, e⟩
theorem keyIs_int (i : Int) (t : Tok) : keyIs (.inl i) (.int i t) = true := by simp [keyIs, Value.isInt]
theorem keyIs_str (x : Str) (t : Tok) : keyIs (.inr x) (.str x t) = true := by simp [keyIs, Value.isStrOf]
theorem key_ll (a b : Int) : decide ((Sum.inl a : Key) = Sum.inl b) = (a == b) := by
  by_cases e : a = b
  · subst e; simp
  · have h : ¬ (Sum.inl a : Key) = Sum.inl b := fun q => e (Sum.inl.inj q)
    rw [decide_eq_false h]
    exact (beq_eq_false_iff_ne.mpr e).symm
theorem key_rr (a b : Str) : decide ((Sum.inr a : Key) = Sum.inr b) = decide (a = b) := by
  by_cases e : a = b
  · subst e; simp
  · have h : ¬ (Sum.inr a : Key) = Sum.inr b := fun q => e (Sum.inr.inj q)
    rw [decide_eq_false h, decide_eq_false e]
theorem key_lr (a : Int) (b : Str) : decide ((Sum.inl a : Key) = Sum.inr b) = false := decide_eq_false (fun q => nomatch q)
theorem key_rl (a : Str) (b : Int) : decide ((Sum.inr a : Key) = Sum.inl b) = false := decide_eq_false (fun q => nomatch q)
def mixKind (prog : Program) (w : World) : PySem.KeyKind prog w Key where
  is := keyIs
  hash := keyH w
  inj := fun v a b ha hb => by
    rcases keyIs_shape ha with ⟨i, t, rfl, rfl⟩ | ⟨x, t, rfl, rfl⟩
    · rcases keyIs_shape hb with ⟨j, u, rfl, e⟩ | ⟨y, u, rfl, e⟩
      · injection e with e1 _; rw [e1]
      · exact nomatch e
    · rcases keyIs_shape hb with ⟨j, u, rfl, e⟩ | ⟨y, u, rfl, e⟩
      · exact nomatch e
      · injection e with e1 _; rw [e1]
  byValue := fun k v h => by
    rcases keyIs_shape h with ⟨i, t, rfl, rfl⟩ | ⟨x, t, rfl, rfl⟩ <;> rfl
  pyHash := fun hv h => by
    rcases keyIs_shape hv with ⟨i, t, rfl, rfl⟩ | ⟨x, t, rfl, rfl⟩
    · exact wpAny_pyHash_int h
    · exact wpAny_pyHash_str h
  eqBool := fun hu hv h => by
    rcases keyIs_shape hu with ⟨i, t, rfl, rfl⟩ | ⟨x, t, rfl, rfl⟩
    · rcases keyIs_shape hv with ⟨j, u, rfl, rfl⟩ | ⟨y, u, rfl, rfl⟩
      · rw [key_ll] at h; exact wpAny_eqBool_int h
      · rw [key_lr] at h; exact SeqAt.EqAt.int_str i t y u _ _ _ _ h
    · rcases keyIs_shape hv with ⟨j, u, rfl, rfl⟩ | ⟨y, u, rfl, rfl⟩
      · rw [key_rl] at h; exact SeqAt.EqAt.str_int x t j u _ _ _ _ h
      · rw [key_rr] at h; exact wpAny_eqBool_str h
  «strs» := fun k x t v h => by
    rcases keyIs_shape h with ⟨i, u, rfl, e⟩ | ⟨y, u, rfl, e⟩
    · exact nomatch e
    · injection e with e1 _
      subst e1
      cases v <;> rfl
theorem mixKind_is (prog : Program) (w : World) (k : Key) (v : Value) : (mixKind prog w).is k v = keyIs k v := rfl
theorem mixKind_int (prog : Program) (w : World) (i : Int) (t : Tok) : (mixKind prog w).is (.inl i) (.int i t) = true := keyIs_int i t
theorem mixKind_str (prog : Program) (w : World) (x : Str) (t : Tok) : (mixKind prog w).is (.inr x) (.str x t) = true := keyIs_str x t
end L2
namespace L2
open PySem PySem.Spec PyProof.Rows
inductive V where
  | non | bl (b : Bool) | int (i : Int) | str (x : Str) | byt (b : Array UInt8) | flt (b : UInt64) | ref (a : Addr) | ty (n : String)
  deriving DecidableEq
def RelV : V → Value → Prop
  | .non, u => u = Value.none
  | .bl b, u => u = Value.bool b
  | .int i, u => ∃ t, u = Value.int i t
  | .str x, u => ∃ t, u = Value.str x t
  | .byt b, u => ∃ t, u = Value.bytes b t
  | .flt b, u => ∃ t, u = Value.float b t
  | .ref a, u => u = Value.ref a
  | .ty n, u => u = Value.type n
abbrev Vals : List V → List Value → Prop := Paired RelV
theorem Vals.length {xs : List V} {us : List Value} (r : Vals xs us) : xs.length = us.length := Paired.length r
theorem Vals.get : ∀ {xs : List V} {us : List Value} {i : Nat} {x : V}, Vals xs us → xs[i]? = some x → ∃ u, us[i]? = some u ∧ RelV x u
  | _, _, _, _, .nil, e => by simp at e
  | _, _, 0, _, .cons r _, e => by simp at e; subst e; exact ⟨_, rfl, r⟩
  | _, _, i + 1, x, .cons _ t, e => by
    obtain ⟨u, h1, h2⟩ := Vals.get (i := i) (x := x) t (by simpa using e)
    exact ⟨u, by simpa using h1, h2⟩
theorem Vals.append : ∀ {xs ys : List V} {us ws : List Value}, Vals xs us → Vals ys ws → Vals (xs ++ ys) (us ++ ws)
  | _, _, _, _, .nil, s => s
  | _, _, _, _, .cons r t, s => .cons r (Vals.append t s)
theorem Vals.take : ∀ {xs : List V} {us : List Value} (n : Nat), Vals xs us → Vals (xs.take n) (us.take n)
  | _, _, 0, _ => .nil
  | _, _, _ + 1, .nil => .nil
  | _, _, n + 1, .cons r t => .cons r (Vals.take n t)
theorem Vals.drop : ∀ {xs : List V} {us : List Value} (n : Nat), Vals xs us → Vals (xs.drop n) (us.drop n)
  | _, _, 0, r => r
  | _, _, _ + 1, .nil => .nil
  | _, _, n + 1, .cons _ t => Vals.drop n t
def RelO : Option V → Option Value → Prop
  | some v, some u => RelV v u
  | none, none => True
  | _, _ => False
def KV {κ : Type} : List (κ × V) → List (κ × Value) → Prop := Paired fun (p : κ × V) (q : κ × Value) => p.1 = q.1 ∧ RelV p.2 q.2
def kV : Key → V
  | .inl i => .int i
  | .inr x => .str x
inductive HO where
  | lst (xs : List V)
  | tup (xs : List V)
  | dK (kvs : List (Key × V)) | dT (kvs : List (List Key × V))
  | set (S : Int → Bool) (n : Nat)
  | ins (C dx : Addr) (fs : List (Str × V))
  | own (x : Addr)
  | xd (fs : List (Str × V))
  | met (f x : Addr)
  | rng (lo hi : Int)
  | frz (o : Obj) (u : HO)
  | tbl (ps : Array Value)
  | ext (φ : Heap → Prop)
abbrev Hp := Addr → Option HO
def upd (H : Hp) (a : Addr) (o : HO) : Hp := fun b => if b = a then some o else H b
theorem upd_same {H : Hp} {a : Addr} {o : HO} : upd H a o a = some o := by unfold upd; rw [if_pos rfl]
theorem upd_ne {H : Hp} {a b : Addr} {o : HO} (h : b ≠ a) : upd H a o b = H b := by unfold upd; rw [if_neg h]
theorem ne_of {H : Hp} {a b : Addr} {o u : HO} (h : H a = some o) (h' : H b = some u) (d : o ≠ u) : a ≠ b := by
  intro e; subst e; rw [h] at h'; exact d (Option.some.inj h')
theorem ne_of_none {H : Hp} {a b : Addr} {o : HO} (h : H a = some o) (h' : H b = none) : a ≠ b := by
  intro e; subst e; rw [h] at h'; cases h'
section
variable (P : Program) (w : World)
def ObjOk (H : Hp) (h : Heap) (a : Addr) : HO → Prop
  | .lst xs => xs.length ≤ sizeLine ∧ ∃ (its : List Value) (n : Nat), Vals xs its ∧ h.get? a = some { cls := .type "list", data := .seq its.toArray n }
  | .tup xs => xs.length ≤ sizeLine ∧ ∃ its : List Value, Vals xs its ∧ IsTup h a its.toArray
  | .dK kvs => kvs.length ≤ sizeLine ∧ (a == sysModules) = false ∧ ∃ vs, KV kvs vs ∧ h.DictOf (mixKind P w) a vs
  | .dT kvs => kvs.length ≤ sizeLine ∧ (a == sysModules) = false ∧ ∃ xs : List (List Key × Addr × Value),
      Paired (fun (p : List Key × V) (q : List Key × Addr × Value) => p.1 = q.1 ∧ H q.2.1 = some (.tup (p.1.map kV)) ∧ RelV p.2 q.2.2) kvs xs ∧
      ∃ o es ep, h.get? a = some o ∧ o.ExactDict ∧ o.data = .dict es ep ∧ es.toList = xs.map (entryOfKey (tupleKind (mixKind P w))) ∧ (xs.map (·.1)).Nodup
  | .set S n => h.SetOf (intKind P w) a S n
  | .ins C dx fs => H dx = some (.own a) ∧ fs.length ≤ 1000 ∧ dx ≠ a ∧ h.get? a = some (PySem.W.instObj C dx) ∧
      ∃ mA, h.Ns1 dx mA ∧ (∀ f, RelO (fs.lookup f) (mA f)) ∧ PySem.Within mA (fs.map (·.1))
  | .own _ => ∃ o, h.get? a = some o
  | .xd fs => ∃ mA, h.Ns1 a mA ∧ ∀ f, RelO (fs.lookup f) (mA f)
  | .rng lo hi => ∃ t u v, h.get? a = some { cls := .type "range", data := .fields #[.int lo t, .int hi u, .int 1 v] }
  | .frz o u => h.get? a = some o ∧ ObjOk H h a u
  | .tbl ps => h.get? a = some { cls := .none, data := .fields ps }
  | .met f x => h.get? a = some (PySem.W.methodObj (.ref f) (.ref x))
  | .ext φ => φ h ∧ (∃ o, h.get? a = some o) ∧ ∀ h1 h2 : Heap, φ h1 → (∀ o, h1.get? a = some o → h2.get? a = some o) → φ h2
def HOk (H : Hp) (h : Heap) : Prop := ∀ a o, H a = some o → ObjOk P w H h a o
end
section
variable {P : Program} {w : World} {H H' : Hp} {h h' : Heap} {a : Addr} {o : HO}
theorem ObjOk.lt (x : ObjOk P w H h a o) : a < h.objs.size := by
  cases o with
  | lst xs => obtain ⟨_, _, _, _, e⟩ := x; exact Heap.lt_size e
  | tup xs => obtain ⟨_, _, _, p⟩ := x; exact p.lt
  | dK kvs => obtain ⟨_, _, _, _, o, _, _, e, _⟩ := x; exact Heap.lt_size e
  | dT kvs => obtain ⟨_, _, _, _, o, _, _, e, _⟩ := x; exact Heap.lt_size e
  | set S n => obtain ⟨o, _, _, _, e, _⟩ := x; exact Heap.lt_size e
  | ins C dx fs => obtain ⟨_, _, _, e, _⟩ := x; exact Heap.lt_size e
  | own y => obtain ⟨_, e⟩ := x; exact Heap.lt_size e
  | xd fs => obtain ⟨_, ⟨_, _, _, e, _⟩, _⟩ := x; exact Heap.lt_size e
  | rng lo hi => obtain ⟨_, _, _, e⟩ := x; exact Heap.lt_size e
  | frz ob u => obtain ⟨e, _⟩ := x; exact Heap.lt_size e
  | tbl ps => exact Heap.lt_size (show h.get? a = some _ from x)
  | met f y => exact Heap.lt_size (show h.get? a = some _ from x)
  | ext φ => obtain ⟨_, ⟨_, e⟩, _⟩ := x; exact Heap.lt_size e
theorem Paired.mapP {α β : Type} {F G : α → β → Prop} : ∀ {l₁ : List α} {l₂ : List β}, Paired F l₁ l₂ → (∀ a b, F a b → G a b) → Paired G l₁ l₂
  | _, _, .nil, _ => .nil
  | _, _, .cons r t, f => .cons (f _ _ r) (Paired.mapP t f)
theorem ObjOk.stay (x : ObjOk P w H h a o) (k : ∀ b u, (b = a ∨ H b = some (.own a)) → h.get? b = some u → h'.get? b = some u)
    (ho : ∀ b, H b = some (.own a) → H' b = some (.own a)) (ht : ∀ b xs, H b = some (.tup xs) → H' b = some (.tup xs)) : ObjOk P w H' h' a o := by
  induction o with
  | lst xs => obtain ⟨z, its, n, r, e⟩ := x; exact ⟨z, its, n, r, k _ _ (.inl rfl) e⟩
  | tup xs => obtain ⟨z, its, r, ob, e, c⟩ := x; exact ⟨z, its, r, ob, k _ _ (.inl rfl) e, c⟩
  | dK kvs => obtain ⟨z, y, vs, r, ob, es, ep, e, c⟩ := x; exact ⟨z, y, vs, r, ob, es, ep, k _ _ (.inl rfl) e, c⟩
  | dT kvs =>
    obtain ⟨z, y, xs, r, ob, es, ep, e, c⟩ := x
    exact ⟨z, y, xs, Paired.mapP r fun p q z => ⟨z.1, ht _ _ z.2.1, z.2.2⟩, ob, es, ep, k _ _ (.inl rfl) e, c⟩
  | set S n => obtain ⟨ob, es, ep, t, e, c⟩ := x; exact ⟨ob, es, ep, t, k _ _ (.inl rfl) e, c⟩
  | ins C dx fs =>
    obtain ⟨d, z, ne, e, mA, ⟨od, es, ep, e2, c⟩, r⟩ := x
    exact ⟨ho _ d, z, ne, k _ _ (.inl rfl) e, mA, ⟨od, es, ep, k _ _ (.inr d) e2, c⟩, r⟩
  | own y => obtain ⟨ob, e⟩ := x; exact ⟨ob, k _ _ (.inl rfl) e⟩
  | xd fs => obtain ⟨mA, ⟨od, es, ep, e, c⟩, r⟩ := x; exact ⟨mA, ⟨od, es, ep, k _ _ (.inl rfl) e, c⟩, r⟩
  | rng lo hi => obtain ⟨t, u, v, e⟩ := x; exact ⟨t, u, v, k _ _ (.inl rfl) e⟩
  | frz ob u ih => obtain ⟨e, q⟩ := x; exact ⟨k _ _ (.inl rfl) e, ih q⟩
  | tbl ps =>
    have e : h.get? a = some { cls := .none, data := .fields ps } := x
    show h'.get? a = some { cls := .none, data := .fields ps }
    exact k a _ (.inl rfl) e
  | met f y =>
    have e : h.get? a = some (PySem.W.methodObj (.ref f) (.ref y)) := x
    show h'.get? a = some (PySem.W.methodObj (.ref f) (.ref y))
    exact k a _ (.inl rfl) e
  | ext φ => obtain ⟨p, ⟨o, e⟩, st⟩ := x; exact ⟨st _ _ p fun o q => k _ _ (.inl rfl) q, ⟨o, k _ _ (.inl rfl) e⟩, st⟩
theorem HOk.lt (x : HOk P w H h) (e : H a = some o) : a < h.objs.size := (x a o e).lt
theorem HOk.fresh (x : HOk P w H h) (e : h.objs.size ≤ a) : H a = none := by
  cases q : H a with
  | none => rfl
  | some u => exact absurd (Nat.lt_of_lt_of_le (x.lt q) e) (Nat.lt_irrefl _)
theorem HOk.kept (x : HOk P w H h) (k : ∀ b u, h.get? b = some u → h'.get? b = some u) : HOk P w H h' := fun a o e =>
  (x a o e).stay (fun b u _ q => k b u q) (fun _ q => q) fun _ _ q => q
theorem HOk.laid (x : HOk P w H h) (k : ∀ b u, h.get? b = some u → h'.get? b = some u) (hp : h.objs.size ≤ a) (new : ObjOk P w (upd H a o) h' a o) : HOk P w (upd H a o) h' := fun b u e => by
  have hn := x.fresh hp
  by_cases hb : b = a
  · subst hb; rw [upd_same] at e; cases e; exact new
  · rw [upd_ne hb] at e
    exact (x b u e).stay (fun c v _ q => k c v q) (fun c q => by rw [upd_ne (ne_of_none q hn)]; exact q) fun c xs q => by rw [upd_ne (ne_of_none q hn)]; exact q
end
def Rd (H : Hp) (a : Addr) (u : HO) : Prop := H a = some u ∨ ∃ o, H a = some (.frz o u)
theorem Rd.ok {P : Program} {w : World} {H : Hp} {h : Heap} {a : Addr} {u : HO} (r : Rd H a u) (x : HOk P w H h) : ObjOk P w H h a u := by
  rcases r with r | ⟨o, r⟩
  · exact x a u r
  · obtain ⟨_, q⟩ := x a _ r
    exact q
def Mut : Option HO → Prop
  | some (.lst _) => True
  | some (.dK _) => True
  | some (.dT _) => True
  | some (.set _ _) => True
  | some (.ins _ _ _) => True
  | some (.ext _) => True
  | _ => False
section
variable {P : Program} {w : World} {H : Hp} {h h' : Heap} {x e : Addr} {o' : HO}
theorem HOk.write (ok : HOk P w H h) (mu : Mut (H x)) (he : e = x ∨ H e = some (.own x)) (k : ∀ b u, b ≠ e → h.get? b = some u → h'.get? b = some u) (heo : ∃ u, h'.get? e = some u)
    (new : ObjOk P w (upd H x o') h' x o') : HOk P w (upd H x o') h' := fun b u q => by
  have nown : ∀ c y, H c = some (.own y) → c ≠ x := fun c y r z => by subst z; rw [r] at mu; exact mu
  have ntup : ∀ c xs, H c = some (.tup xs) → c ≠ x := fun c xs r z => by subst z; rw [r] at mu; exact mu
  by_cases hb : b = x
  · subst hb; rw [upd_same] at q; cases q; exact new
  · rw [upd_ne hb] at q
    by_cases hbe : b = e
    · have q' : H b = some (.own x) := by
        rcases he with z | z
        · exact absurd (hbe.trans z) hb
        · rw [hbe]; exact z
      rw [q] at q'; cases q'
      obtain ⟨v, hv⟩ := heo
      exact ⟨v, by rw [hbe]; exact hv⟩
    · refine (ok b u q).stay (fun c v hc r => k c v ?_ r) (fun c r => by rw [upd_ne (nown c b r)]; exact r) fun c xs r => by rw [upd_ne (ntup c xs r)]; exact r
      rcases hc with rfl | hc
      · exact hbe
      · rintro rfl
        rcases he with z | z
        · exact nown c b hc z
        · rw [hc] at z; cases z; exact hb rfl
end
structure Un (fs ex : List Addr) (H H' : Hp) (h h' : Heap) : Prop where
  keep : ∀ b o, h.get? b = some o → H b = none → b ∉ fs → b ∉ ex → h'.get? b = some o
  slot : ∀ b o, h.get? b = some o → H b = none → b ∈ fs → b ∉ ex → ∃ sl, h'.get? b = some { o with slots := sl }
  free : ∀ b o, h.get? b = some o → H b = none → b ∉ ex → H' b = none
  there : ∀ b o, h.get? b = some o → b ∉ ex → ∃ o', h'.get? b = some o'
  tups : ∀ b xs, H b = some (.tup xs) → H' b = some (.tup xs)
  frzs : ∀ b o u, H b = some (.frz o u) → H' b = some (.frz o u)
  tbls : ∀ b ps, H b = some (.tbl ps) → ∃ more, H' b = some (.tbl (ps ++ more))
section
variable {fs fs' ex ex' : List Addr} {H H1 H2 : Hp} {h h1 h2 h' : Heap} {a x e : Addr} {o : HO}
theorem Un.any (u : Un fs ex H H1 h h1) {b : Addr} {ob : Obj} (q : h.get? b = some ob) (n : H b = none) (hx : b ∉ ex) : ∃ sl, h1.get? b = some { ob with slots := sl } := by
  by_cases hb : b ∈ fs
  · exact u.slot b ob q n hb hx
  · exact ⟨ob.slots, u.keep b ob q n hb hx⟩
theorem Un.kept (k : ∀ b u, h.get? b = some u → h'.get? b = some u) : Un fs ex H H h h' :=
  ⟨fun b ob q _ _ _ => k b ob q, fun b ob q _ _ _ => ⟨ob.slots, k b ob q⟩, fun _ _ _ n _ => n, fun b ob q _ => ⟨ob, k b ob q⟩, fun _ _ q => q, fun _ _ _ q => q, fun _ ps q => ⟨#[], by rw [q]; simp⟩⟩
theorem Un.refl : Un fs ex H H h h := Un.kept fun _ _ q => q
theorem Un.laid (k : ∀ b u, h.get? b = some u → h'.get? b = some u) (hp : h.objs.size ≤ a) (hn : H a = none) : Un fs ex H (upd H a o) h h' where
  keep := fun b u q _ _ _ => k b u q
  slot := fun b u q _ _ _ => ⟨u.slots, k b u q⟩
  free := fun b u q n _ => by rw [upd_ne (Nat.ne_of_lt (Nat.lt_of_lt_of_le (Heap.lt_size q) hp))]; exact n
  there := fun b u q _ => ⟨u, k b u q⟩
  tups := fun b xs q => by rw [upd_ne (ne_of_none q hn)]; exact q
  frzs := fun b u xs q => by rw [upd_ne (ne_of_none q hn)]; exact q
  tbls := fun b ps q => ⟨#[], by rw [upd_ne (ne_of_none q hn), q]; simp⟩
theorem Un.write (mu : Mut (H x)) (he : e = x ∨ H e = some (.own x)) (k : ∀ b u, b ≠ e → h.get? b = some u → h'.get? b = some u) (heo : ∃ u, h'.get? e = some u) : Un fs ex H (upd H x o) h h' := by
  have hx : ∀ b, H b = none → b ≠ x := fun b n z => by subst z; rw [n] at mu; exact mu
  have hb : ∀ b, H b = none → b ≠ e := fun b n z => by
    subst z
    rcases he with r | r
    · exact hx b n r
    · rw [n] at r; cases r
  have hm : ∀ b u, H b = some u → ¬ Mut (some u) → b ≠ x := fun b u q nm z => by subst z; rw [q] at mu; exact nm mu
  refine ⟨fun b u q n _ _ => k b u (hb b n) q, fun b u q n _ _ => ⟨u.slots, k b u (hb b n) q⟩, fun b u q n _ => by rw [upd_ne (hx b n)]; exact n, fun b u q _ => ?_,
    fun b xs q => by rw [upd_ne (hm b _ q fun z => z)]; exact q, fun b u xs q => by rw [upd_ne (hm b _ q fun z => z)]; exact q, fun b ps q => ⟨#[], by rw [upd_ne (hm b _ q fun z => z), q]; simp⟩⟩
  by_cases hbe : b = e
  · subst hbe; exact heo
  · exact ⟨u, k b u hbe q⟩
end
def trk (h : Heap) (H : Hp) : List Addr := (List.range h.objs.size).filter fun a => (H a).isSome
def hidT (h : Heap) (H : Hp) : Heap := PySem.W.hideAll h (trk h H)
theorem hidT_size (h : Heap) (H : Hp) : (hidT h H).objs.size = h.objs.size := PySem.W.hideAll_size _ _
theorem hidT_get {h : Heap} {H : Hp} {b : Addr} {o : Obj} (e : h.get? b = some o) (n : H b = none) : (hidT h H).get? b = some o :=
  PySem.W.hideAll_get _ e fun hm => by
    have q : (H b).isSome = true := (List.mem_filter.mp hm).2
    rw [n] at q; simp at q
theorem of_hidT {h : Heap} {H : Hp} {b : Addr} {o : Obj} (e : (hidT h H).get? b = some o) : h.get? b = some o ∧ H b = none := by
  have e' : h.get? b = some o := PySem.W.of_hideAll (trk h H) e
  refine ⟨e', ?_⟩
  cases q : H b with
  | none => rfl
  | some x =>
    have hm : b ∈ trk h H := List.mem_filter.mpr ⟨List.mem_range.mpr (Heap.lt_size e'), by simp [q]⟩
    have z : (hidT h H).get? b = none := PySem.W.hideAll_none (trk h H) hm
    rw [z] at e; cases e
end L2
namespace L2
open PySem PySem.Spec PyProof.Rows
structure Mod (K : PySem.W.Frag) (mg : Str → Option Value) (base : Heap) : Prop where
  kin : K.In base
  glob : base.Ns mainGlobals mg
  blt : ∃ mb, base.Ns builtinsNs mb ∧ ∀ x : Str, x ≠ "__name__" → mb x = bootBuiltins x
  nolimit : base.NoLimit
structure Cx where
  prog : Program
  w : World
  K : PySem.W.Frag
  mg : Str → Option Value
  base : Heap
  A : Around
  N : List Str
  s₀ : Shared
  H₀ : Hp
  env : Env
  outer : List Env
  stack : List Env
  ex : List Addr
  fn : Str → Bool
  calm : Bool
  pn : List (Addr × Obj)
  xe : Value → Shared → Prop
def frs (l : List Env) : List Addr := l.filterMap (·.frame)
abbrev Cx.fs (X : Cx) : List Addr := frs X.outer
def Vis (sc : Scope) (x : Str) : Prop := sc.names.lookup x = some .local ∨ sc.names.lookup x = some .cell ∨ sc.names.lookup x = some .free
def Loc (sc : Scope) (x : Str) : Prop := sc.names.lookup x = some .local ∨ sc.names.lookup x = some .cell
def Look (env : Env) (h : Heap) (m : Str → Option Value) (x : Str) (u : Value) : Prop :=
  (env.kindOf x = some .local ∧ m x = some u) ∨ ((env.kindOf x = some .cell ∨ env.kindOf x = some .free) ∧ ∃ c, env.cells.lookup x = some c ∧ h.IsCell c (some u))
structure Cx.Ok (X : Cx) : Prop where
  mod : Mod X.K X.mg X.base
  kind : X.env.scope.kind = .function
  glob : X.env.globals = mainGlobals
  blt : X.env.builtins = builtinsNs
  above : X.s₀.heap.objs.size ≤ X.env.locals
  inj : ∀ x y c, X.env.cells.lookup x = some c → X.env.cells.lookup y = some c → x = y
  has : ∀ x, (X.env.kindOf x = some .cell ∨ X.env.kindOf x = some .free) → ∃ c, X.env.cells.lookup x = some c
  cab : ∀ x c, X.fn x = true → X.env.cells.lookup x = some c → X.s₀.heap.objs.size ≤ c
  hd : X.calm = true → X.A.handled = none
  frames : X.A.frames = some X.stack
  stk : X.stack = X.outer ∨ (X.stack = X.env :: X.outer ∧ X.env.frame = some X.env.locals)
  exf : ∀ b ∈ X.ex, b ≠ X.env.locals ∧ ∀ x c, X.env.cells.lookup x = some c → c ≠ b
  bs : ∀ b o, X.base.get? b = some o → X.s₀.heap.get? b = some o ∧ X.H₀ b = none
  bsz : X.base.objs.size ≤ X.s₀.heap.objs.size
  noex : ∀ b o, X.base.get? b = some o → b ∉ X.ex
  exfs : ∀ b ∈ X.ex, b ∉ X.fs
  funs : X.s₀.heap.FunFrames X.base X.outer
  frf : ∀ b ∈ X.fs, X.H₀ b = none
structure Inv (X : Cx) (pins : List (Addr × Obj)) (σ : List (Option V)) (H : Hp) (s : Shared) : Prop where
  ok : X.Ok
  os : s.os = X.s₀.os
  bare : AllBare s.gens
  base : Un X.fs X.ex X.H₀ H X.s₀.heap s.heap
  loc : ∃ m, s.heap.Ns X.env.locals m ∧ ∀ (i : Nat) (x : Str) (v : V), X.N[i]? = some x → σ[i]? = some (some v) → Vis X.env.scope x → ∃ u, RelV v u ∧ Look X.env s.heap m x u
  cell : ∀ x c, X.env.cells.lookup x = some c → ∃ v, s.heap.IsCell c v
  free : H X.env.locals = none
  freeC : ∀ x c, X.env.cells.lookup x = some c → H c = none
  pin : ∀ p ∈ X.pn ++ pins, s.heap.get? p.1 = some p.2 ∧ H p.1 = none ∧ p.1 ≠ X.env.locals ∧ p.1 ∉ X.fs ∧ ∀ v, p.2.data ≠ .cell v
  hok : HOk X.prog X.w H s.heap
  len : σ.length = X.N.length
section
variable {X : Cx} {pins : List (Addr × Obj)} {σ : List (Option V)} {H H' : Hp} {s : Shared} {h' : Heap}
theorem Cx.Ok.nofr (ok : X.Ok) {b : Addr} {o : Obj} (e : X.base.get? b = some o) : b ∉ X.fs := fun hb => by
  have := (ok.funs.mem hb).1
  rw [e] at this; cases this
theorem Inv.bs (I : Inv X pins σ H s) : ∀ b o, X.base.get? b = some o → s.heap.get? b = some o ∧ H b = none := fun b o e =>
  ⟨I.base.keep b o (I.ok.bs b o e).1 (I.ok.bs b o e).2 (I.ok.nofr e) (I.ok.noex b o e), I.base.free b o (I.ok.bs b o e).1 (I.ok.bs b o e).2 (I.ok.noex b o e)⟩
theorem Inv.bk (I : Inv X pins σ H s) : ∀ b o, X.base.get? b = some o → s.heap.get? b = some o := fun b o e => (I.bs b o e).1
theorem Inv.mod (I : Inv X pins σ H s) : Mod X.K X.mg X.base := I.ok.mod
theorem Inv.kIn (I : Inv X pins σ H s) : X.K.In s.heap := I.ok.mod.kin.keeps I.bk
theorem Inv.lt (I : Inv X pins σ H s) : X.env.locals < s.heap.objs.size := let ⟨_, hn, _⟩ := I.loc; hn.lt
theorem Inv.sz (I : Inv X pins σ H s) : X.s₀.heap.objs.size ≤ s.heap.objs.size := Nat.le_trans I.ok.above (Nat.le_of_lt I.lt)
theorem Inv.nofs (I : Inv X pins σ H s) {a : Addr} (h : s.heap.objs.size ≤ a) : a ∉ X.fs := fun hb => by
  obtain ⟨_, o, ho, _⟩ := I.ok.funs.mem hb
  exact absurd (Nat.lt_of_lt_of_le (Heap.lt_size ho) (Nat.le_trans I.sz h)) (Nat.lt_irrefl _)
theorem Inv.cne (I : Inv X pins σ H s) : ∀ x c, X.env.cells.lookup x = some c → c ≠ X.env.locals := fun x c e z => by
  obtain ⟨v, o, ho, hd⟩ := I.cell x c e
  obtain ⟨m, ⟨o', es, ep, ho', hd', _⟩, _⟩ := I.loc
  rw [z, ho'] at ho; cases ho; rw [hd'] at hd; cases hd
theorem Inv.funs (I : Inv X pins σ H s) : s.heap.FunFrames X.base X.outer := by
  have all : ∀ (l : List Env), (∀ b ∈ frs l, b ∈ X.fs) → X.s₀.heap.FunFrames X.base l → s.heap.FunFrames X.base l := by
    intro l
    induction l with
    | nil => intro _ _; trivial
    | cons env r ih =>
      intro hs hl
      obtain ⟨hk, ⟨L, o, hf, hn, ho, hd⟩, hr⟩ := hl
      have hL : L ∈ X.fs := hs L (by unfold frs; rw [List.filterMap_cons, hf]; exact List.mem_cons_self)
      obtain ⟨sl, e⟩ := I.base.slot L o ho (I.ok.frf L hL) hL fun z => I.ok.exfs L z hL
      exact ⟨hk, ⟨L, _, hf, hn, e, hd⟩, ih (fun b hb => hs b (by unfold frs; rw [List.filterMap_cons, hf]; exact List.mem_cons_of_mem _ hb)) hr⟩
  exact all X.outer (fun _ hb => hb) I.ok.funs
theorem Inv.stack (I : Inv X pins σ H s) : s.heap.FunFrames X.base X.stack := by
  rcases I.ok.stk with e | ⟨e, hf⟩
  · rw [e]; exact I.funs
  · rw [e]
    obtain ⟨m, hn, _⟩ := I.loc
    refine .cons (by rw [I.ok.kind]; decide) hf hn ?_ I.funs
    exact Heap.get?_none_of_le (Nat.le_trans I.ok.bsz I.ok.above)
theorem Inv.stkSub (I : Inv X pins σ H s) : ∀ b ∈ frs X.stack, b ∈ X.env.locals :: X.fs := fun b hb => by
  rcases I.ok.stk with e | ⟨e, hf⟩
  · rw [e] at hb; exact List.mem_cons_of_mem _ hb
  · rw [e] at hb
    unfold frs at hb
    rw [List.filterMap_cons, hf] at hb
    exact hb
theorem Inv.stkFree (I : Inv X pins σ H s) : ∀ b ∈ frs X.stack, H b = none := fun b hb => by
  rcases List.mem_cons.mp (I.stkSub b hb) with e | hb
  · rw [e]; exact I.free
  · obtain ⟨_, o, ho, _⟩ := I.ok.funs.mem hb
    exact I.base.free b o ho (I.ok.frf b hb) fun z => I.ok.exfs b z hb
theorem Inv.step {g' : Array GenState} {t' : Nat} {d' : Drawn} {ch : List Addr} (I : Inv X pins σ H s)
    (hch : ∀ b ∈ ch, (b ∈ X.ex ∨ X.s₀.heap.objs.size ≤ b) ∧ b ≠ X.env.locals ∧ (∀ x c, X.env.cells.lookup x = some c → c ≠ b) ∧ ∀ p ∈ X.pn ++ pins, p.1 ≠ b)
    (keep : ∀ b o, b ≠ X.env.locals → b ∉ X.fs → b ∉ ch → s.heap.get? b = some o → H b = none → h'.get? b = some o)
    (slot : ∀ b o, b ≠ X.env.locals → b ∈ X.fs → b ∉ ch → s.heap.get? b = some o → H b = none → ∃ sl, h'.get? b = some { o with slots := sl }) (free : ∀ b o, b ∉ ch → s.heap.get? b = some o → H b = none → H' b = none)
    (there : ∀ b o, b ∉ ch → s.heap.get? b = some o → ∃ o', h'.get? b = some o')
    (tups : ∀ b xs, H b = some (.tup xs) → H' b = some (.tup xs)) (frzs : ∀ b o u, H b = some (.frz o u) → H' b = some (.frz o u)) (tbls : ∀ b ps, H b = some (.tbl ps) → ∃ more, H' b = some (.tbl (ps ++ more)))
    (ns : ∀ m, s.heap.Ns X.env.locals m → h'.Ns X.env.locals m) (hok : HOk X.prog X.w H' h') (hg : AllBare g') :
    Inv X pins σ H' { s with heap := h', gens := g', drawn := d', toks := t' } := by
  have neL : ∀ b o, X.s₀.heap.get? b = some o → b ≠ X.env.locals := fun b o e => Nat.ne_of_lt (Nat.lt_of_lt_of_le (Heap.lt_size e) I.ok.above)
  have neC : ∀ b o, X.s₀.heap.get? b = some o → b ∉ X.ex → b ∉ ch := fun b o e hx hb => by
    rcases (hch b hb).1 with z | z
    · exact hx z
    · exact absurd (Nat.lt_of_lt_of_le (Heap.lt_size e) z) (Nat.lt_irrefl _)
  have cellK : ∀ x c, X.env.cells.lookup x = some c → ∀ v, s.heap.IsCell c v → h'.IsCell c v := fun x c e v ⟨o, ho, hd⟩ => by
    have nch : c ∉ ch := fun z => (hch c z).2.2.1 x c e rfl
    by_cases hc : c ∈ X.fs
    · obtain ⟨sl, q⟩ := slot c o (I.cne x c e) hc nch ho (I.freeC x c e)
      exact ⟨_, q, hd⟩
    · exact ⟨o, keep c o (I.cne x c e) hc nch ho (I.freeC x c e), hd⟩
  refine ⟨I.ok, I.os, hg, ⟨fun b o e n hb hx => ?_, fun b o e n hb hx => ?_, fun b o e n hx => ?_, fun b o e hx => ?_, fun b xs e => tups b xs (I.base.tups b xs e), fun b o xs e => frzs b o xs (I.base.frzs b o xs e), fun b ps e => ?_⟩, ?_, fun x c e => ?_, ?_, fun x c e => ?_, fun p hp => ?_, hok, I.len⟩
  · exact keep b o (neL b o e) hb (neC b o e hx) (I.base.keep b o e n hb hx) (I.base.free b o e n hx)
  · obtain ⟨sl, e1⟩ := I.base.slot b o e n hb hx
    obtain ⟨sl', e2⟩ := slot b _ (neL b o e) hb (neC b o e hx) e1 (I.base.free b o e n hx)
    exact ⟨sl', e2⟩
  · obtain ⟨o', e1⟩ := I.base.there b o e hx
    exact free b o' (neC b o e hx) e1 (I.base.free b o e n hx)
  · obtain ⟨o', e1⟩ := I.base.there b o e hx
    exact there b o' (neC b o e hx) e1
  · obtain ⟨m1, e1⟩ := I.base.tbls b ps e
    obtain ⟨m2, e2⟩ := tbls b _ e1
    exact ⟨m1 ++ m2, by rw [e2, Array.append_assoc]⟩
  · obtain ⟨m, hn, hl⟩ := I.loc
    refine ⟨m, ns m hn, fun i x v e1 e2 e3 => ?_⟩
    obtain ⟨u, r, l⟩ := hl i x v e1 e2 e3
    refine ⟨u, r, ?_⟩
    rcases l with l | ⟨k, c, e, z⟩
    · exact .inl l
    · exact .inr ⟨k, c, e, cellK x c e _ z⟩
  · obtain ⟨v, z⟩ := I.cell x c e
    exact ⟨v, cellK x c e v z⟩
  · obtain ⟨m, ⟨o, _, _, ho, _⟩, _⟩ := I.loc
    exact free _ o (fun z => (hch _ z).2.1 rfl) ho I.free
  · obtain ⟨v, o, ho, hd⟩ := I.cell x c e
    exact free c o (fun z => (hch c z).2.2.1 x c e rfl) ho (I.freeC x c e)
  · obtain ⟨e, n, ne, nf, d⟩ := I.pin p hp
    have nch : p.1 ∉ ch := fun z => (hch p.1 z).2.2.2 p hp rfl
    exact ⟨keep p.1 p.2 ne nf nch e n, free p.1 p.2 nch e n, ne, nf, d⟩
theorem Inv.un {t' : Nat} (I : Inv X pins σ H s) (u : Un X.fs [] H H' s.heap h') (hok : HOk X.prog X.w H' h') : Inv X pins σ H' { s with heap := h', toks := t' } := by
  obtain ⟨m, ⟨o, es, ep, ho, r⟩, _⟩ := id I.loc
  obtain ⟨sl, hL⟩ := u.any ho I.free (by simp)
  exact I.step (g' := s.gens) (d' := s.drawn) (ch := []) (fun _ z => nomatch z) (fun b o _ hb _ e n => u.keep b o e n hb (by simp)) (fun b o _ hb _ e n => u.slot b o e n hb (by simp)) (fun b o _ e n => u.free b o e n (by simp)) (fun b o _ e => u.there b o e (by simp)) u.tups u.frzs u.tbls (fun m' hm => by
    obtain ⟨o', es', ep', ho', r'⟩ := hm
    rw [ho] at ho'; cases ho'
    exact ⟨_, es', ep', hL, r'⟩) hok I.bare
theorem Inv.call {g' : Array GenState} {t' : Nat} {d' : Drawn} {ch : List Addr} (I : Inv X pins σ H s) (u : Un (frs X.stack) ch H H' s.heap h') (hok : HOk X.prog X.w H' h') (hg : AllBare g')
    (hch : ∀ b ∈ ch, (b ∈ X.ex ∨ X.s₀.heap.objs.size ≤ b) ∧ b ≠ X.env.locals ∧ (∀ x c, X.env.cells.lookup x = some c → c ≠ b) ∧ ∀ p ∈ X.pn ++ pins, p.1 ≠ b) :
    Inv X pins σ H' { s with heap := h', gens := g', drawn := d', toks := t' } := by
  obtain ⟨m, ⟨o, es, ep, ho, r⟩, _⟩ := id I.loc
  obtain ⟨sl, hL⟩ := u.any ho I.free fun z => (hch _ z).2.1 rfl
  exact I.step (ch := ch) hch (fun b o hL hb hc e n => u.keep b o e n (fun z => (List.mem_cons.mp (I.stkSub b z)).elim hL hb) hc) (fun b o _ _ hc e n => u.any e n hc) (fun b o hc e n => u.free b o e n hc) (fun b o hc e => u.there b o e hc) u.tups u.frzs u.tbls (fun m' hm => by
    obtain ⟨o', es', ep', ho', r'⟩ := hm
    rw [ho] at ho'; cases ho'
    exact ⟨_, es', ep', hL, r'⟩) hok hg
theorem Inv.turned {t' : Nat} {it : Addr} (I : Inv X pins σ H s) (k : ∀ b o, b ≠ it → s.heap.get? b = some o → h'.get? b = some o) (hn : H it = none) (hL : it ≠ X.env.locals)
    (h1 : it ∈ X.ex ∨ X.s₀.heap.objs.size ≤ it) (h2 : ∀ x c, X.env.cells.lookup x = some c → c ≠ it) (h3 : ∀ p ∈ X.pn ++ pins, p.1 ≠ it) : Inv X pins σ H { s with heap := h', toks := t' } := by
  have nit : ∀ b u, H b = some u → b ≠ it := fun b u e z => by rw [z, hn] at e; cases e
  refine I.step (g' := s.gens) (d' := s.drawn) (ch := [it]) (fun b hb => ?_) (fun b o _ _ hc e _ => k b o (fun z => hc (by simp [z])) e) (fun b o _ _ hc e _ => ⟨o.slots, k b o (fun z => hc (by simp [z])) e⟩) (fun _ _ _ _ n => n)
    (fun b o hc e => ⟨o, k b o (fun z => hc (by simp [z])) e⟩) (fun _ _ e => e) (fun _ _ _ e => e) (fun b ps e => ⟨#[], by rw [e]; simp⟩) (fun m hm => ?_) (fun b u e => ?_) I.bare
  · have e : b = it := by simpa using hb
    subst e
    exact ⟨h1, hL, h2, h3⟩
  · obtain ⟨o, es, ep, ho, r⟩ := hm
    exact ⟨o, es, ep, k _ o (Ne.symm hL) ho, r⟩
  · refine (I.hok b u e).stay (fun c v hc q => k c v ?_ q) (fun _ q => q) fun _ _ q => q
    rcases hc with z | z
    · rw [z]; exact nit b u e
    · exact nit c _ z
theorem Inv.tok (I : Inv X pins σ H s) (t : Nat) : Inv X pins σ H { s with toks := t } := I.un (h' := s.heap) (t' := t) Un.refl I.hok
theorem Inv.kept {t' : Nat} (I : Inv X pins σ H s) (k : ∀ b u, s.heap.get? b = some u → h'.get? b = some u) : Inv X pins σ H { s with heap := h', toks := t' } := I.un (Un.kept k) (I.hok.kept k)
theorem Inv.laid {a : Addr} {o : HO} {t' : Nat} (I : Inv X pins σ H s) (k : ∀ b u, s.heap.get? b = some u → h'.get? b = some u) (hp : s.heap.objs.size ≤ a) (new : ObjOk X.prog X.w (upd H a o) h' a o) :
    Inv X pins σ (upd H a o) { s with heap := h', toks := t' } := I.un (Un.laid k hp (I.hok.fresh hp)) (I.hok.laid k hp new)
theorem Inv.write {x e : Addr} {o : HO} {t' : Nat} (I : Inv X pins σ H s) (mu : Mut (H x)) (he : e = x ∨ H e = some (.own x)) (k : ∀ b u, b ≠ e → s.heap.get? b = some u → h'.get? b = some u) (heo : ∃ u, h'.get? e = some u)
    (new : ObjOk X.prog X.w (upd H x o) h' x o) : Inv X pins σ (upd H x o) { s with heap := h', toks := t' } := I.un (Un.write mu he k heo) (I.hok.write mu he k heo new)
theorem Inv.pins_of {pins' : List (Addr × Obj)} (I : Inv X pins σ H s) (h : ∀ p ∈ pins', s.heap.get? p.1 = some p.2 ∧ H p.1 = none ∧ p.1 ≠ X.env.locals ∧ p.1 ∉ X.fs ∧ ∀ v, p.2.data ≠ .cell v) : Inv X pins' σ H s :=
  ⟨I.ok, I.os, I.bare, I.base, I.loc, I.cell, I.free, I.freeC, fun p hp => (List.mem_append.mp hp).elim (fun z => I.pin p (List.mem_append_left _ z)) (h p), I.hok, I.len⟩
theorem nodup_ix {N : List Str} (hN : N.Nodup) {i j : Nat} {x : Str} (a : N[i]? = some x) (b : N[j]? = some x) : i = j := by
  obtain ⟨h1, e1⟩ := List.getElem?_eq_some_iff.mp a
  obtain ⟨h2, e2⟩ := List.getElem?_eq_some_iff.mp b
  exact (List.getElem_inj hN).mp (e1.trans e2.symm)
theorem store_ok2 {M : Model} {A : Around} {E : Value → Shared → Prop} {i : Nat} {x : Str} {v : V} {u : Value} {Q : Unit → Shared → Prop} (I : Inv X pins σ H s) (hN : X.N.Nodup) (hi : X.N[i]? = some x) (hx : Loc X.env.scope x) (r : RelV v u)
    (h : ∀ s', Inv X pins (σ.set i (some v)) H s' → (∃ a, Heap.SameBut a s.heap s'.heap ∧ (a = X.env.locals ∨ X.env.cells.lookup x = some a)) → Q () s') (hf : X.fn x = true ∨ X.env.scope.names.lookup x = some .local := by first | exact .inl rfl | exact .inr rfl | assumption) : wpAny M A (storeName X.env x u) Q E s := by
  obtain ⟨m, hn, hl⟩ := id I.loc
  have hcls : (X.env.scope.kind == .class || (X.env.scope.kind == .module && X.env.locals != X.env.globals)) = false := by rw [I.ok.kind]; rfl
  have hiσ : i < σ.length := by rw [I.len]; exact (List.getElem?_eq_some_iff.mp hi).1
  have cne := I.cne
  have tracked : ∀ {a : Addr} {h' : Heap}, (∃ o, s.heap.get? a = some o ∧ H a = none) → Heap.SameBut a s.heap h' → HOk X.prog X.w H h' := fun {a h'} ha hs b ob e => by
    obtain ⟨_, _, hfree⟩ := ha
    refine (I.hok b ob e).stay (fun c w' hc q => (hs.2 c ?_).trans q) (fun _ q => q) fun _ _ q => q
    rintro rfl
    rcases hc with rfl | hc
    · rw [hfree] at e; cases e
    · rw [hfree] at hc; cases hc
  rcases hx with hk | hk
  · refine wpAny_storeName_local hk hn (fun h' hn' hs => ?_) hcls
    obtain ⟨oL, _, _, hoL, _⟩ := id hn
    refine h _ ⟨I.ok, I.os, I.bare, ⟨fun b o e n hb hx => ?_, fun b o e n hb hx => ?_, I.base.free, fun b o e hx => ?_, I.base.tups, I.base.frzs, I.base.tbls⟩, ⟨_, hn', fun j y v' e1 e2 e3 => ?_⟩, fun y c e => ?_, I.free, I.freeC, fun p hp => ?_, tracked ⟨oL, hoL, I.free⟩ hs, by simpa using I.len⟩ ⟨_, hs, .inl rfl⟩
    · exact (hs.2 b (Nat.ne_of_lt (Nat.lt_of_lt_of_le (Heap.lt_size e) I.ok.above))).trans (I.base.keep b o e n hb hx)
    · obtain ⟨sl, e1⟩ := I.base.slot b o e n hb hx
      exact ⟨sl, (hs.2 b (Nat.ne_of_lt (Nat.lt_of_lt_of_le (Heap.lt_size e) I.ok.above))).trans e1⟩
    · obtain ⟨o', e1⟩ := I.base.there b o e hx
      exact ⟨o', (hs.2 b (Nat.ne_of_lt (Nat.lt_of_lt_of_le (Heap.lt_size e) I.ok.above))).trans e1⟩
    · by_cases hj : j = i
      · subst hj
        rw [hi] at e1; cases e1
        rw [List.getElem?_set_self hiσ] at e2
        cases e2
        exact ⟨u, r, .inl ⟨hk, by simp⟩⟩
      · rw [List.getElem?_set_ne (Ne.symm hj)] at e2
        obtain ⟨u', r', q⟩ := hl j y v' e1 e2 e3
        refine ⟨u', r', ?_⟩
        rcases q with ⟨k, e⟩ | ⟨k, c, e, z⟩
        · refine .inl ⟨k, ?_⟩
          have : y ≠ x := fun e => hj (nodup_ix hN e1 (e ▸ hi))
          simp [this, e]
        · exact .inr ⟨k, c, e, z.sameBut hs (cne y c e)⟩
    · obtain ⟨w', z⟩ := I.cell y c e
      exact ⟨w', z.sameBut hs (cne y c e)⟩
    · obtain ⟨e, n, ne, nf, d⟩ := I.pin p hp
      exact ⟨(hs.2 p.1 ne).trans e, n, ne, nf, d⟩
  · have hfn : X.fn x = true := by
      rcases hf with z | z
      · exact z
      · rw [z] at hk; cases hk
    obtain ⟨c, hc⟩ := I.ok.has x (.inl hk)
    obtain ⟨w', z⟩ := I.cell x c hc
    refine wpAny_storeName_cell I.ok.kind hk hc z (fun h' hc' hs => ?_)
    obtain ⟨oc, hoc, hocd⟩ := id z
    refine h { s with heap := h' } ⟨I.ok, I.os, I.bare, ⟨fun b o e n hb hx => ?_, fun b o e n hb hx => ?_, I.base.free, fun b o e hx => ?_, I.base.tups, I.base.frzs, I.base.tbls⟩, ⟨m, hn.sameBut hs (Ne.symm (cne x c hc)), fun j y v' e1 e2 e3 => ?_⟩, fun y c' e => ?_, I.free, I.freeC, fun p hp => ?_, tracked ⟨oc, hoc, I.freeC x c hc⟩ hs, by simpa using I.len⟩ ⟨c, hs, .inr hc⟩
    · exact (hs.2 b (Nat.ne_of_lt (Nat.lt_of_lt_of_le (Heap.lt_size e) (I.ok.cab x c hfn hc)))).trans (I.base.keep b o e n hb hx)
    · obtain ⟨sl, e1⟩ := I.base.slot b o e n hb hx
      exact ⟨sl, (hs.2 b (Nat.ne_of_lt (Nat.lt_of_lt_of_le (Heap.lt_size e) (I.ok.cab x c hfn hc)))).trans e1⟩
    · obtain ⟨o', e1⟩ := I.base.there b o e hx
      exact ⟨o', (hs.2 b (Nat.ne_of_lt (Nat.lt_of_lt_of_le (Heap.lt_size e) (I.ok.cab x c hfn hc)))).trans e1⟩
    · by_cases hj : j = i
      · subst hj
        rw [hi] at e1; cases e1
        rw [List.getElem?_set_self hiσ] at e2
        cases e2
        exact ⟨u, r, .inr ⟨.inl hk, c, hc, hc'⟩⟩
      · rw [List.getElem?_set_ne (Ne.symm hj)] at e2
        obtain ⟨u', r', q⟩ := hl j y v' e1 e2 e3
        refine ⟨u', r', ?_⟩
        rcases q with q | ⟨k, c', e, z'⟩
        · exact .inl q
        · refine .inr ⟨k, c', e, z'.sameBut hs ?_⟩
          rintro rfl
          exact hj (nodup_ix hN e1 (I.ok.inj _ _ _ e hc ▸ hi))
    · by_cases hcc : c' = c
      · subst hcc; exact ⟨_, hc'⟩
      · obtain ⟨w2, z2⟩ := I.cell y c' e
        exact ⟨w2, z2.sameBut hs hcc⟩
    · obtain ⟨e, n, ne, nf, d⟩ := I.pin p hp
      refine ⟨(hs.2 p.1 ?_).trans e, n, ne, nf, d⟩
      intro q
      rw [q, hoc] at e
      have q' : oc = p.2 := Option.some.inj e
      exact d w' (by rw [← q']; exact hocd)
theorem store_ok {M : Model} {A : Around} {E : Value → Shared → Prop} {i : Nat} {x : Str} {v : V} {u : Value} {Q : Unit → Shared → Prop} (I : Inv X pins σ H s) (hN : X.N.Nodup) (hi : X.N[i]? = some x) (hx : Loc X.env.scope x) (r : RelV v u)
    (h : ∀ s', Inv X pins (σ.set i (some v)) H s' → Q () s') (hf : X.fn x = true ∨ X.env.scope.names.lookup x = some .local := by first | exact .inl rfl | exact .inr rfl | assumption) : wpAny M A (storeName X.env x u) Q E s :=
  store_ok2 I hN hi hx r (fun s' I' _ => h s' I') hf
theorem Inv.call' {s' : Shared} {ch : List Addr} (I : Inv X pins σ H s) (ho : s'.os = s.os) (u : Un (frs X.stack) ch H H' s.heap s'.heap) (hok : HOk X.prog X.w H' s'.heap) (hg : AllBare s'.gens)
    (hch : ∀ b ∈ ch, (b ∈ X.ex ∨ X.s₀.heap.objs.size ≤ b) ∧ b ≠ X.env.locals ∧ (∀ x c, X.env.cells.lookup x = some c → c ≠ b) ∧ ∀ p ∈ X.pn ++ pins, p.1 ≠ b) : Inv X pins σ H' s' := by
  obtain ⟨h', g', d', t', o'⟩ := s'
  have e : o' = s.os := ho
  subst e
  exact I.call (g' := g') (t' := t') (d' := d') u hok hg hch
end
abbrev XK := Value → Option Addr → Hp → Prop
abbrev St := List (Option V)
abbrev VK := V → Hp → Prop
abbrev TE := St → Hp → VK → Prop
abbrev TT := St → Hp → (Bool → Hp → Prop) → Prop
abbrev TA := St → Hp → (List V → Hp → Prop) → Prop
structure Ends where
  nx : St → Hp → Prop
  rt : VK
  bk : St → Hp → Prop := fun _ _ => False
  ct : St → Hp → Prop := fun _ _ => False
abbrev TS := Ends → St → Hp → Prop
def EP (X : Cx) (pins : List (Addr × Obj)) (σ : St) (Q : VK) (u : Value) (s' : Shared) : Prop := ∃ v H', Inv X pins σ H' s' ∧ RelV v u ∧ Q v H'
def TP (X : Cx) (pins : List (Addr × Obj)) (σ : St) (Q : Bool → Hp → Prop) (b : Bool) (s' : Shared) : Prop := ∃ H', Inv X pins σ H' s' ∧ Q b H'
def AP (X : Cx) (pins : List (Addr × Obj)) (σ : St) (Q : List V → Hp → Prop) (us : List Value) (s' : Shared) : Prop := ∃ vs H', Inv X pins σ H' s' ∧ Vals vs us ∧ Q vs H'
def SP (X : Cx) (pins : List (Addr × Obj)) (D : Ends) (f : Flow) (s' : Shared) : Prop :=
  match f with
  | .next => ∃ σ' H', Inv X pins σ' H' s' ∧ D.nx σ' H'
  | .brk => ∃ σ' H', Inv X pins σ' H' s' ∧ D.bk σ' H'
  | .cont => ∃ σ' H', Inv X pins σ' H' s' ∧ D.ct σ' H'
  | .ret u => ∃ v σ' H', Inv X pins σ' H' s' ∧ RelV v u ∧ D.rt v H'
def PE (X : Cx) (e : Expr) (t : TE) : Prop :=
  ∀ (pins : List (Addr × Obj)) (s : Shared) (σ : St) (H : Hp) (Q : VK), Inv X pins σ H s → t σ H Q → wpAny (model X.prog X.w) X.A (eval e X.env) (EP X pins σ Q) X.xe s
def PT (X : Cx) (e : Expr) (t : TT) : Prop :=
  ∀ (pins : List (Addr × Obj)) (s : Shared) (σ : St) (H : Hp) (Q : Bool → Hp → Prop), Inv X pins σ H s → t σ H Q → wpAny (model X.prog X.w) X.A (isTrue e X.env (eval e X.env)) (TP X pins σ Q) X.xe s
def PW (X : Cx) (e : Expr) (t : TT) : Prop :=
  ∀ (whole : Sem Value) (pins : List (Addr × Obj)) (s : Shared) (σ : St) (H : Hp) (Q : Bool → Hp → Prop), Inv X pins σ H s → t σ H Q → wpAny (model X.prog X.w) X.A (isTrue e X.env whole) (TP X pins σ Q) X.xe s
theorem PW.pt {X : Cx} {e : Expr} {t : TT} (h : PW X e t) : PT X e t := h _
def PA (X : Cx) (es : List Expr) (t : TA) : Prop :=
  ∀ (pos : Pos) (pins : List (Addr × Obj)) (s : Shared) (σ : St) (H : Hp) (Q : List V → Hp → Prop), Inv X pins σ H s → t σ H Q → wpAny (model X.prog X.w) X.A (spliced (backTo pos (starEach es X.env))) (AP X pins σ Q) X.xe s
def PS (X : Cx) (st : Stmt) (t : TS) : Prop :=
  ∀ (pins : List (Addr × Obj)) (s : Shared) (σ : St) (H : Hp) (D : Ends), Inv X pins σ H s → t D σ H → wpAny (model X.prog X.w) X.A (exec st X.env) (SP X pins D) X.xe s
def PSs (X : Cx) (st : List Stmt) (t : TS) : Prop :=
  ∀ (pins : List (Addr × Obj)) (s : Shared) (σ : St) (H : Hp) (D : Ends), Inv X pins σ H s → t D σ H → wpAny (model X.prog X.w) X.A (execs st X.env) (SP X pins D) X.xe s
theorem thn {α : Type} {t : Sem α} {Q Q' : α → Shared → Prop} {M : Model} {A : Around} {E : Value → Shared → Prop} {s : Shared} (h : wpAny M A t Q E s) (hQ : ∀ a s, Q a s → Q' a s) : wpAny M A t Q' E s := wpAny_mono h hQ fun _ _ x => x
end L2
namespace L2
open PySem PySem.Spec PyProof.Rows
section
variable {X : Cx}
def tVar (i : Nat) : TE := fun σ H Q => ∃ v, σ[i]? = some (some v) ∧ Q v H
def tC (v : V) : TE := fun _ H Q => Q v H
theorem pe_var {i : Nat} {x : Str} {pos : Pos} (hN : X.N[i]? = some x) (hv : Vis X.env.scope x) (hd : (x == ("__debug__" : Str)) = false := by decide) (hcd : (x == ("__classdict__" : Str)) = false := by decide) : PE X (.Name x pos) (tVar i) := by
  intro pins s σ H Q I h
  obtain ⟨v, e, h⟩ := h
  obtain ⟨m, hn, hl⟩ := I.loc
  obtain ⟨u, r, l⟩ := hl i x v hN e hv
  have fin : EP X pins σ Q u s := ⟨v, H, I, r, h⟩
  rcases l with ⟨hk, hm⟩ | ⟨hk, c, hc, hcell⟩
  · exact wpAny_Name (wpAny_loadName_local I.ok.kind hk hn hm fin) hd
  · rcases hk with hk | hk
    · exact wpAny_Name (wpAny_loadName_cell I.ok.kind hk hc hcell fin) hd
    · exact wpAny_Name (wpAny_loadName_free I.ok.kind hk hc hcell fin hcd) hd
theorem pe_int {i j pos} : PE X (.Constant (.int i) j pos) (tC (.int i)) := fun _ _ _ H _ I h => wpAny_Constant_int ⟨.int i, H, I.tok _, ⟨_, rfl⟩, h⟩
theorem pe_bl {b j pos} : PE X (.Constant (.bool b) j pos) (tC (.bl b)) := fun _ _ _ H _ I h => Constant_bool ⟨.bl b, H, I, rfl, h⟩
theorem pe_non {j pos} : PE X (.Constant .none j pos) (tC .non) := fun _ _ _ H _ I h => Constant_none ⟨.non, H, I, rfl, h⟩
theorem pe_str {x j pos} : PE X (.Constant (.str x) j pos) (tC (.str x)) := fun _ _ _ H _ I h => Calls.Constant_str ⟨.str x, H, I.tok _, ⟨_, rfl⟩, h⟩
def Gl (X : Cx) (x : Str) : Prop := X.env.kindOf x = some .globalImplicit
theorem ld_glob {E : Value → Shared → Prop} {pins : List (Addr × Obj)} {s : Shared} {σ : St} {H : Hp} {x : Str} {u : Value} {pos : Pos} {Q : Value → Shared → Prop} (I : Inv X pins σ H s) (hg : Gl X x) (hm : X.mg x = some u) (h : Q u s)
    (hd : (x == ("__debug__" : Str)) = false := by decide) : wpAny (model X.prog X.w) X.A (eval (.Name x pos) X.env) Q E s :=
  Calls.Name_function_global I.ok.kind hg (Calls.loadGlobal_global (by rw [I.ok.glob]; exact I.mod.glob.keeps I.bk) hm h) hd
theorem ld_blt {E : Value → Shared → Prop} {pins : List (Addr × Obj)} {s : Shared} {σ : St} {H : Hp} {x : Str} {u : Value} {pos : Pos} {Q : Value → Shared → Prop} (I : Inv X pins σ H s) (hg : Gl X x) (hm : X.mg x = none) (hv : bootBuiltins x = some u) (h : Q u s)
    (hn : x ≠ "__name__" := by decide) (hd : (x == ("__debug__" : Str)) = false := by decide) : wpAny (model X.prog X.w) X.A (eval (.Name x pos) X.env) Q E s := by
  obtain ⟨mb, h1, h2⟩ := I.mod.blt
  exact Calls.Name_function_global I.ok.kind hg (Calls.loadGlobal_builtin (by rw [I.ok.glob]; exact I.mod.glob.keeps I.bk) hm (by rw [I.ok.blt]; exact h1.keeps I.bk) ((h2 x hn).trans hv) h) hd
theorem pe_glob {x : Str} {v : V} {u : Value} {pos : Pos} (hg : Gl X x) (hm : X.mg x = some u) (r : RelV v u) (hd : (x == ("__debug__" : Str)) = false := by decide) : PE X (.Name x pos) (tC v) :=
  fun _ _ _ H _ I h => ld_glob I hg hm ⟨v, H, I, r, h⟩ hd
theorem pe_bltn {x : Str} {v : V} {u : Value} {pos : Pos} (hg : Gl X x) (hm : X.mg x = none) (hv : bootBuiltins x = some u) (r : RelV v u) (hn : x ≠ "__name__" := by decide) (hd : (x == ("__debug__" : Str)) = false := by decide) : PE X (.Name x pos) (tC v) :=
  fun _ _ _ H _ I h => ld_blt I hg hm hv ⟨v, H, I, r, h⟩ hn hd
variable {a b : Expr} {ta tb : TE} {pos : Pos}
def tB (t : TE) : TT := fun σ H Q => t σ H fun x H1 => ∃ c, x = .bl c ∧ Q c H1
theorem pt_val {e : Expr} {t : TE} (h : PE X e t) (he : ∀ whole, isTrue e X.env whole = (do let v ← whole; standAt e.pos; holding [v] (truthy v)) := by intro _; rfl) : PT X e (tB t) := by
  intro pins s σ H Q I hw
  refine isTrue_plain (thn (h pins s σ H _ I hw) fun v s1 ⟨x, H1, I1, r1, q1⟩ => ?_) (he _)
  obtain ⟨d, rfl, q⟩ := q1
  cases r1
  exact wpAny_truthy_bool ⟨H1, I1, q⟩
variable {tA tB' : TT} {rest : List Expr}
def tAnd (t u : TT) : TT := fun σ H Q => t σ H fun c H1 => if c = true then u σ H1 Q else Q false H1
def tOr (t u : TT) : TT := fun σ H Q => t σ H fun c H1 => if c = true then Q true H1 else u σ H1 Q
def tNot (t : TT) : TT := fun σ H Q => t σ H fun c H1 => Q (!c) H1
theorem pw_and1 (ha : PT X a tA) : PW X (.BoolOp .And [a] pos) tA := by
  intro wh pins s σ H Q I h
  refine isTrue_and (thn (ha pins s σ H Q I h) fun c s1 e => ?_)
  cases c with
  | true => exact isTrue_and_nil e
  | false => exact e
theorem pw_or1 (ha : PT X a tA) : PW X (.BoolOp .Or [a] pos) tA := by
  intro wh pins s σ H Q I h
  refine isTrue_or (thn (ha pins s σ H Q I h) fun c s1 e => ?_)
  cases c with
  | false => exact isTrue_or_nil e
  | true => exact e
theorem pw_and (ha : PT X a tA) (hb : PW X (.BoolOp .And (b :: rest) pos) tB') : PW X (.BoolOp .And (a :: b :: rest) pos) (tAnd tA tB') := by
  intro wh pins s σ H Q I h
  refine isTrue_and (thn (ha pins s σ H _ I h) fun c s1 ⟨H1, I1, q1⟩ => ?_)
  cases c with
  | true => exact hb wh pins s1 σ H1 Q I1 q1
  | false => exact ⟨H1, I1, q1⟩
theorem pw_or (ha : PT X a tA) (hb : PW X (.BoolOp .Or (b :: rest) pos) tB') : PW X (.BoolOp .Or (a :: b :: rest) pos) (tOr tA tB') := by
  intro wh pins s σ H Q I h
  refine isTrue_or (thn (ha pins s σ H _ I h) fun c s1 ⟨H1, I1, q1⟩ => ?_)
  cases c with
  | true => exact ⟨H1, I1, q1⟩
  | false => exact hb wh pins s1 σ H1 Q I1 q1
theorem pt_not (ha : PT X a tA) : PT X (.UnaryOp .Not a pos) (tNot tA) := by
  intro pins s σ H Q I h
  exact isTrue_not (ha pins s σ H (fun c H1 => Q (!c) H1) I h)
def tAndV (ta tb : TE) : TE := fun σ H Q => ta σ H fun x H1 => ∃ c, x = .bl c ∧ if c = true then tb σ H1 Q else Q (.bl false) H1
def tNotV (ta : TE) : TE := fun σ H Q => ta σ H fun x H1 => ∃ c, x = .bl c ∧ Q (.bl (!c)) H1
theorem pe_one {op} {t : TE} (h : PE X a t) : PE X (.BoolOp op [a] pos) t := fun pins s σ H Q I hw => BoolOp_one (h pins s σ H Q I hw)
theorem pe_and (ha : PE X a ta) (hb : PE X (.BoolOp .And (b :: rest) pos) tb) : PE X (.BoolOp .And (a :: b :: rest) pos) (tAndV ta tb) := by
  intro pins s σ H Q I h
  refine BoolOp_and (thn (ha pins s σ H _ I h) fun v s1 ⟨x, H1, I1, r1, q1⟩ => ?_)
  obtain ⟨c, rfl, q1⟩ := q1
  cases r1
  refine wpAny_truthy_bool ?_
  cases c with
  | true => exact hb pins s1 σ H1 Q I1 q1
  | false => exact ⟨.bl false, H1, I1, rfl, q1⟩
theorem pe_not (ha : PE X a ta) : PE X (.UnaryOp .Not a pos) (tNotV ta) := by
  intro pins s σ H Q I h
  refine UnaryOp_ (thn (ha pins s σ H _ I h) fun v s1 ⟨x, H1, I1, r1, q1⟩ => ?_)
  obtain ⟨c, rfl, q1⟩ := q1
  cases r1
  exact not_of (wpAny_truthy_bool ⟨.bl (!c), H1, I1, rfl, q1⟩)
end
end L2
namespace L2
open PySem PySem.Spec PyProof.Rows
def SqL (K : PySem.W.Frag) (H : Hp) (a : Addr) (xs : List V) : Prop :=
  Rd H a (.lst xs) ∨
    ∃ (o : Obj) (its : Array Value) (n : Nat), K.lookup a = some o ∧ o.cls = .type "list" ∧ o.dict = none ∧ o.data = .seq its n ∧ its.size ≤ sizeLine ∧ Vals xs its.toList
def SqT (K : PySem.W.Frag) (H : Hp) (a : Addr) (xs : List V) : Prop :=
  Rd H a (.tup xs) ∨
    ∃ (o : Obj) (its : Array Value) (n : Nat), K.lookup a = some o ∧ o.cls = .type "tuple" ∧ o.data = .seq its n ∧ its.size ≤ sizeLine ∧ Vals xs its.toList
def absV : Value → Option V
  | .none => some .non
  | .bool b => some (.bl b)
  | .int i _ => some (.int i)
  | .str x _ => some (.str x)
  | .bytes b _ => some (.byt b)
  | .float b _ => some (.flt b)
  | .ref a => some (.ref a)
  | .type n => some (.ty n)
  | _ => none
theorem RelV.abs {x : V} {u : Value} (r : RelV x u) : absV u = some x := by
  cases x with
  | non => cases r; rfl
  | bl _ => cases r; rfl
  | int _ => obtain ⟨t, rfl⟩ := r; rfl
  | str _ => obtain ⟨t, rfl⟩ := r; rfl
  | byt _ => obtain ⟨t, rfl⟩ := r; rfl
  | flt _ => obtain ⟨t, rfl⟩ := r; rfl
  | ref _ => cases r; rfl
  | ty _ => cases r; rfl
theorem RelV.inj {x y : V} {u : Value} (r : RelV x u) (q : RelV y u) : x = y := Option.some.inj (r.abs.symm.trans q.abs)
theorem Vals.inj : ∀ {xs ys : List V} {us : List Value}, Vals xs us → Vals ys us → xs = ys
  | _, _, _, .nil, .nil => rfl
  | _, _, _, .cons r t, .cons r' t' => by rw [r.inj r', Vals.inj t t']
section
variable {X : Cx} {pins : List (Addr × Obj)} {σ : St} {H : Hp} {s : Shared} {a : Addr} {xs ys : List V}
theorem SqL.of {K : PySem.W.Frag} (h : H a = some (.lst xs)) : SqL K H a xs := .inl (.inl h)
theorem SqT.of {K : PySem.W.Frag} (h : H a = some (.tup xs)) : SqT K H a xs := .inl (.inl h)
theorem Inv.list (I : Inv X pins σ H s) (h : SqL X.K H a xs) : ∃ its : List Value, Vals xs its ∧ PlainL s.heap a its.toArray ∧ xs.length ≤ sizeLine := by
  rcases h with h | ⟨o, its, n, hk, hc, hd, hs, hz, r⟩
  · obtain ⟨z, its, n, r, e⟩ := h.ok I.hok
    exact ⟨its, r, ⟨_, n, e, rfl, rfl, rfl⟩, z⟩
  · refine ⟨its.toList, r, ⟨o, n, I.kIn a o hk, hc, hd, by simpa using hs⟩, ?_⟩
    have e := r.length
    simp only [Array.length_toList] at e
    omega
theorem Inv.tuple (I : Inv X pins σ H s) (h : SqT X.K H a xs) : ∃ its : List Value, Vals xs its ∧ IsTup s.heap a its.toArray ∧ xs.length ≤ sizeLine := by
  rcases h with h | ⟨o, its, n, hk, hc, hs, hz, r⟩
  · obtain ⟨z, its, r, p⟩ := h.ok I.hok
    exact ⟨its, r, p, z⟩
  · refine ⟨its.toList, r, ⟨o, I.kIn a o hk, hc, n, by simpa using hs⟩, ?_⟩
    have e := r.length
    simp only [Array.length_toList] at e
    omega
theorem Inv.list_inj (I : Inv X pins σ H s) (h : SqL X.K H a xs) (h' : SqL X.K H a ys) : xs = ys := by
  obtain ⟨its, r, ⟨o, n, e, _, _, d⟩, _⟩ := I.list h
  obtain ⟨its', r', ⟨o', n', e', _, _, d'⟩, _⟩ := I.list h'
  rw [e] at e'; cases e'
  rw [d] at d'
  injection d' with d1 _
  have : its = its' := by simpa using congrArg Array.toList d1
  subst this
  exact r.inj r'
theorem Inv.tuple_inj (I : Inv X pins σ H s) (h : SqT X.K H a xs) (h' : SqT X.K H a ys) : xs = ys := by
  obtain ⟨its, r, ⟨o, e, _, n, d⟩, _⟩ := I.tuple h
  obtain ⟨its', r', ⟨o', e', _, n', d'⟩, _⟩ := I.tuple h'
  rw [e] at e'; cases e'
  rw [d] at d'
  injection d' with d1 _
  have : its = its' := by simpa using congrArg Array.toList d1
  subst this
  exact r.inj r'
end
abbrev Cx.wish (X : Cx) (E : Value → Shared → Prop) : Cx := { X with xe := E }
abbrev Cx.nox (X : Cx) : Cx := X.wish fun _ _ => False
theorem Cx.Ok.wish {X : Cx} (ok : X.Ok) (E : Value → Shared → Prop) : (X.wish E).Ok :=
  ⟨ok.mod, ok.kind, ok.glob, ok.blt, ok.above, ok.inj, ok.has, ok.cab, ok.hd, ok.frames, ok.stk, ok.exf, ok.bs, ok.bsz, ok.noex, ok.exfs, ok.funs, ok.frf⟩
theorem Cx.Ok.unwish {X : Cx} {E : Value → Shared → Prop} (ok : (X.wish E).Ok) : X.Ok :=
  ⟨ok.mod, ok.kind, ok.glob, ok.blt, ok.above, ok.inj, ok.has, ok.cab, ok.hd, ok.frames, ok.stk, ok.exf, ok.bs, ok.bsz, ok.noex, ok.exfs, ok.funs, ok.frf⟩
section
variable {X : Cx} {pins : List (Addr × Obj)} {σ : St} {H : Hp} {s : Shared} {E : Value → Shared → Prop}
theorem Inv.wish (I : Inv X pins σ H s) (E : Value → Shared → Prop) : Inv (X.wish E) pins σ H s := ⟨I.ok.wish E, I.os, I.bare, I.base, I.loc, I.cell, I.free, I.freeC, I.pin, I.hok, I.len⟩
theorem Inv.unwish (I : Inv (X.wish E) pins σ H s) : Inv X pins σ H s := ⟨I.ok.unwish, I.os, I.bare, I.base, I.loc, I.cell, I.free, I.freeC, I.pin, I.hok, I.len⟩
theorem SP.unwish {D : Ends} {f : Flow} {s' : Shared} (h : SP (X.wish E) pins D f s') : SP X pins D f s' := by
  cases f with
  | next => obtain ⟨σ', H', I, q⟩ := h; exact ⟨σ', H', I.unwish, q⟩
  | brk => obtain ⟨σ', H', I, q⟩ := h; exact ⟨σ', H', I.unwish, q⟩
  | cont => obtain ⟨σ', H', I, q⟩ := h; exact ⟨σ', H', I.unwish, q⟩
  | ret u => obtain ⟨v, σ', H', I, r, q⟩ := h; exact ⟨v, σ', H', I.unwish, r, q⟩
theorem PSs.nox {st : List Stmt} {t : TS} (h : PSs X.nox st t) : PSs X st t := fun pins s σ H D I hw =>
  wpAny_mono (h pins s σ H D (I.wish _) hw) (fun _ _ q => q.unwish) fun _ _ z => False.elim z
end
section
variable {X : Cx} {st : Stmt} {rest : List Stmt} {t u : TS} {e : Expr} {te : TE} {pos : Pos}
def tNext : TS := fun D σ H => D.nx σ H
def tSeq (t u : TS) : TS := fun D σ H => t { D with nx := u D } σ H
theorem pss_nil : PSs X [] tNext := fun _ _ σ H _ I h => wpAny_execs_nil ⟨σ, H, I, h⟩
theorem pss_cons (h1 : PS X st t) (h2 : PSs X rest u) : PSs X (st :: rest) (tSeq t u) := by
  intro pins s σ H D I h
  refine wpAny_execs_cons (thn (h1 pins s σ H { D with nx := u D } I h) fun f s1 q => ?_)
  cases f with
  | next =>
    obtain ⟨σ', H', I', q⟩ := q
    exact h2 pins s1 σ' H' D I' q
  | ret v => exact q
  | brk => exact q
  | cont => exact q
theorem pss_one (h1 : PS X st t) : PSs X [st] t := by
  intro pins s σ H D I h
  refine wpAny_execs_cons (thn (h1 pins s σ H D I h) fun f s1 q => ?_)
  cases f with
  | next => exact wpAny_execs_nil q
  | ret v => exact q
  | brk => exact q
  | cont => exact q
theorem Inv.quiet {pins : List (Addr × Obj)} {σ : St} {H : Hp} {s : Shared} (I : Inv X pins σ H s) : interactive X.env = false := by simp [interactive, I.ok.kind]
def tDrop (te : TE) : TS := fun D σ H => te σ H fun _ H1 => D.nx σ H1
theorem ps_expr (he : PE X e te) (hs : swapsWith e none pos.line X.env = pure false := by rfl) : PS X (.Expr e pos) (tDrop te) := by
  intro pins s σ H D I h
  exact wpAny_Expr_any (thn (he pins s σ H _ I h) fun v s1 ⟨x, H1, I1, r1, q1⟩ => ⟨σ, H1, I1, q1⟩) I.quiet hs
def tRet (te : TE) : TS := fun D σ H => te σ H D.rt
theorem ps_ret (he : PE X e te) : PS X (.Return (some e) pos) (tRet te) := by
  intro pins s σ H D I h
  exact wpAny_Return_some (thn (he pins s σ H _ I h) fun v s1 ⟨x, H1, I1, r1, q1⟩ => ⟨x, σ, H1, I1, r1, q1⟩)
def tIfS (c : TT) (t u : TS) : TS := fun D σ H => c σ H fun b H1 => if b = true then t D σ H1 else u D σ H1
theorem ps_if {c : Expr} {a b : List Stmt} {tc : TT} (hc : PT X c tc) (ha : PSs X a t) (hb : PSs X b u) : PS X (.If c a b pos) (tIfS tc t u) := by
  intro pins s σ H D I h
  refine wpAny_If (thn (hc pins s σ H _ I h) fun d s1 ⟨H1, I1, q1⟩ => ?_)
  cases d with
  | true => exact ha pins s1 σ H1 D I1 q1
  | false => exact hb pins s1 σ H1 D I1 q1
end
abbrev TG := V → St → Hp → (St → Hp → Prop) → Prop
abbrev TGs := List V → St → Hp → (St → Hp → Prop) → Prop
def PG (X : Cx) (target : Expr) (t : TG) : Prop :=
  ∀ (pins : List (Addr × Obj)) (s : Shared) (σ : St) (H : Hp) (v : V) (u : Value) (Q : St → Hp → Prop), Inv X pins σ H s → RelV v u → t v σ H Q →
    wpAny (model X.prog X.w) X.A (assign target X.env u) (fun _ s' => ∃ σ' H', Inv X pins σ' H' s' ∧ Q σ' H') X.xe s
def PGs (X : Cx) (ts : List Expr) (t : TGs) : Prop :=
  ∀ (pins : List (Addr × Obj)) (s : Shared) (σ : St) (H : Hp) (vs : List V) (us : List Value) (Q : St → Hp → Prop), Inv X pins σ H s → Vals vs us → t vs σ H Q →
    wpAny (model X.prog X.w) X.A (assignInOrder ((assignEach ts X.env).map (·.2)) us) (fun _ s' => ∃ σ' H', Inv X pins σ' H' s' ∧ Q σ' H') X.xe s
section
variable {X : Cx} {pos : Pos}
def gName (i : Nat) : TG := fun v σ H Q => Q (σ.set i (some v)) H
theorem pg_name {i : Nat} {x : Str} (hN : X.N.Nodup) (hi : X.N[i]? = some x) (hx : Loc X.env.scope x) (hf : X.fn x = true ∨ X.env.scope.names.lookup x = some .local := by first | exact .inl rfl | exact .inr rfl | assumption) : PG X (.Name x pos) (gName i) := by
  intro pins s σ H v u Q I r h
  exact wpAny_assign_Name (store_ok I hN hi hx r (fun s' I' => ⟨_, H, I', h⟩) hf)
def gNil : TGs := fun vs σ H Q => vs = [] ∧ Q σ H
def gCons (t : TG) (u : TGs) : TGs := fun vs σ H Q => ∃ v r, vs = v :: r ∧ t v σ H fun σ' H' => u r σ' H' Q
theorem pgs_nil : PGs X [] gNil := by
  intro pins s σ H vs us Q I r h
  obtain ⟨e, h⟩ := h
  subst e
  cases r
  exact assignInOrder_nil ⟨σ, H, I, h⟩
theorem pgs_cons {e : Expr} {es : List Expr} {t : TG} {u : TGs} (h1 : PG X e t) (h2 : PGs X es u)
    (hs : (assignEach (e :: es) X.env).map (·.2) = assign e X.env :: (assignEach es X.env).map (·.2) := by rfl) : PGs X (e :: es) (gCons t u) := by
  intro pins s σ H vs us Q I r h
  obtain ⟨v, vr, e1, h⟩ := h
  subst e1
  cases r with
  | cons r rr =>
    rw [hs]
    refine assignInOrder_cons (thn (h1 pins s σ H _ _ _ I r h) fun _ s1 ⟨σ1, H1, I1, q1⟩ => ?_)
    exact h2 pins s1 σ1 H1 _ _ Q I1 rr q1
def gTup (K : PySem.W.Frag) (n : Nat) (t : TGs) : TG := fun v σ H Q => ∃ a xs, v = .ref a ∧ SqT K H a xs ∧ xs.length = n ∧ t xs σ H Q
theorem pg_tup {es : List Expr} {k : Nat} {t : TGs} {n : Nat} (hc : X.calm = true) (h : PGs X es t)
    (hn : (assignEach es X.env).length = n := by rfl) (hst : (assignEach es X.env).findIdx? (·.1) = none := by rfl) : PG X (.Tuple es k pos) (gTup X.K n t) := by
  intro pins s σ H v u Q I r hw
  obtain ⟨a, xs, e1, hq, hl, hw⟩ := hw
  subst e1
  cases r
  obtain ⟨its, rv, ht, hz⟩ := I.tuple hq
  refine assign_Tuple_tuple (I.ok.hd hc) ht (by simp [hn, ← hl, rv.length]) hst fun h' hx => ?_
  have I1 : Inv X pins σ H { s with heap := h' } := I.kept (t' := s.toks) fun b o e => hx b o (Nat.ne_of_lt (Heap.lt_size e)) e
  exact h pins _ σ H xs _ Q I1 (by simpa using rv) hw
def tAsg (te : TE) (g : TG) : TS := fun D σ H => te σ H fun x H1 => g x σ H1 D.nx
theorem ps_asg {tg e : Expr} {te : TE} {g : TG} (he : PE X e te) (hg : PG X tg g) (hs : swapsWithSole [tg] e pos.line X.env = pure false := by rfl) (hw : swappedStores [tg] e X.env = pure none := by rfl)
    (h1 : (assignEach [tg] X.env).map (·.2) = [assign tg X.env] := by rfl) : PS X (.Assign [tg] e pos) (tAsg te g) := by
  intro pins s σ H D I h
  refine wpAny_Assign_stores (thn (he pins s σ H _ I h) fun v s1 ⟨x, H1, I1, r1, q1⟩ => ?_) hs hw
  rw [h1]
  exact thn (hg pins s1 σ H1 x v _ I1 r1 q1) fun _ s2 q => q
theorem ps_set {i : Nat} {x : Str} {e : Expr} {te : TE} {pos' : Pos} (hN : X.N.Nodup) (hi : X.N[i]? = some x) (hx : Loc X.env.scope x) (he : PE X e te) (hs : swapsWith e (some (.Name x pos')) pos.line X.env = pure false := by rfl) (hf : X.fn x = true ∨ X.env.scope.names.lookup x = some .local := by first | exact .inl rfl | exact .inr rfl | assumption) :
    PS X (.Assign [.Name x pos'] e pos) (tAsg te (gName i)) := by
  intro pins s σ H D I h
  refine wpAny_Assign_Name (thn (he pins s σ H _ I h) fun v s1 ⟨y, H1, I1, r1, q1⟩ => ?_) hs
  exact store_ok I1 hN hi hx r1 (fun s2 I2 => ⟨_, H1, I2, q1⟩) hf
end
section
variable {X : Cx} {pos : Pos}
end
structure It where
  go : Nat → Hp → Prop
  yld : Nat → Hp → V → Hp → Prop
  stop : Nat → Hp → Prop
def FpOk (X : Cx) (pins : List (Addr × Obj)) (H : Hp) (b : Addr) : Prop :=
  H b = none ∧ b ≠ X.env.locals ∧ b ∉ X.fs ∧ (b ∈ X.ex ∨ X.s₀.heap.objs.size ≤ b) ∧ (∀ x c, X.env.cells.lookup x = some c → c ≠ b) ∧ ∀ p ∈ X.pn ++ pins, p.1 ≠ b
theorem Inv.fpOk {X : Cx} {pins : List (Addr × Obj)} {σ : St} {H H' : Hp} {s : Shared} {b : Addr} (I : Inv X pins σ H s) (hb : s.heap.objs.size ≤ b) (hn : H' b = none) : FpOk X pins H' b := by
  refine ⟨hn, Nat.ne_of_gt (Nat.lt_of_lt_of_le I.lt hb), I.nofs hb, .inr (Nat.le_trans I.sz hb), fun x c e z => ?_, fun p hp z => ?_⟩
  · obtain ⟨v, q⟩ := I.cell x c e
    exact absurd (Nat.lt_of_lt_of_le q.lt (by rw [z]; exact hb)) (Nat.lt_irrefl _)
  · exact absurd (Nat.lt_of_lt_of_le (Heap.lt_size (I.pin p hp).1) (by rw [z]; exact hb)) (Nat.lt_irrefl _)
structure Turn (P : Program) (w : World) (K : PySem.W.Frag) (tg : Expr) (J : It) (fp : List Addr) (it : Addr) (tn : Nat → Heap → Prop) : Prop where
  mem : it ∈ fp
  obj : ∀ i h, tn i h → ∀ b ∈ fp, ∃ o, h.get? b = some o ∧ ∀ v, o.data ≠ .cell v
  keep : ∀ i h h', tn i h → (∀ b ∈ fp, ∀ o, h.get? b = some o → h'.get? b = some o) → tn i h'
  item : ∀ (X : Cx), X.prog = P → X.w = w → X.K = K → X.calm = true → ∀ (i : Nat) (pins : List (Addr × Obj)) (s : Shared) (σ : St) (H : Hp) (E : Value → Shared → Prop), Inv X pins σ H s → (∀ b ∈ fp, FpOk X pins H b) → tn i s.heap → J.go i H →
    wpAny (model P w) X.A (pyNext (.ref it)) (fun r s1 => ∃ u, r = some u ∧
      wpAny (model P w) X.A (letOwnedTupleGo tg (.ref it) u) (fun _ s2 => ∃ x H', Inv X pins σ H' s2 ∧ RelV x u ∧ J.yld i H x H' ∧ tn (i + 1) s2.heap ∧ ∀ b ∈ fp, H' b = none) E s1) E s
  done : ∀ (X : Cx), X.prog = P → X.w = w → X.K = K → X.calm = true → ∀ (i : Nat) (pins : List (Addr × Obj)) (s : Shared) (σ : St) (H : Hp) (E : Value → Shared → Prop), Inv X pins σ H s → (∀ b ∈ fp, FpOk X pins H b) → tn i s.heap → J.stop i H →
    wpAny (model P w) X.A (pyNext (.ref it)) (fun r s1 => r = none ∧ Inv X pins σ H s1) E s
  self : ∀ (A : Around) (i : Nat) (s : Shared) (Q : Value → Shared → Prop) (E : Value → Shared → Prop), tn i s.heap → Q (.ref it) s → wpAny (model P w) A (pyIter (.ref it)) Q E s
abbrev TI := St → Hp → (It → Hp → Prop) → Prop
def PIE (X : Cx) (pins : List (Addr × Obj)) (σ : St) (tg : Expr) (R : It → Hp → Prop) (itv : Value) (s2 : Shared) : Prop :=
  ∃ (it : Addr) (fp : List Addr) (tn : Nat → Heap → Prop) (J : It) (H' : Hp), itv = .ref it ∧ Inv X pins σ H' s2 ∧ Turn X.prog X.w X.K tg J fp it tn ∧ tn 0 s2.heap ∧ (∀ b ∈ fp, FpOk X pins H' b) ∧ R J H'
def PI (X : Cx) (tg iter : Expr) (wi : TI) : Prop :=
  ∀ (pins : List (Addr × Obj)) (s : Shared) (σ : St) (H : Hp) (R : It → Hp → Prop), Inv X pins σ H s → wi σ H R →
    wpAny (model X.prog X.w) X.A (eval iter X.env) (fun v s1 => wpAny (model X.prog X.w) X.A (pyIter v) (PIE X pins σ tg R) X.xe s1) X.xe s
theorem go_of {M : Model} {A : Around} {E : Value → Shared → Prop} {s : Shared} {tg : Expr} {it : Addr} {u : Value} {o : Obj} {n : String} {vs : Array Value} {Q : Unit → Shared → Prop} (ho : s.heap.get? it = some o) (hc : o.cls = .type n) (hd : o.data = .fields vs)
    (hn : ["enumerate", "zip", "dict_itemiterator", "dict_reverseitemiterator", "odict_iterator", "itertools.zip_longest", "itertools.pairwise"].contains n = false) (hQ : Q () s) : wpAny M A (letOwnedTupleGo tg (.ref it) u) Q E s := by
  unfold letOwnedTupleGo
  cases tg <;> first
    | exact wpAny_pure hQ
    | (cases u <;> first
        | exact wpAny_pure hQ
        | (refine wpAny_bind (wpAny_load ho ?_)
           rw [hc, hd]
           show wpAny M A (if (["enumerate", "zip", "dict_itemiterator", "dict_reverseitemiterator", "odict_iterator", "itertools.zip_longest", "itertools.pairwise"].contains n && vs[0]? == some (rawInt _)) = true then _ else _) Q E s
           rw [if_neg (by intro h; rw [hn, Bool.false_and] at h; cases h)]
           exact wpAny_pure hQ))
def Itl (K : PySem.W.Frag) (a : Addr) : It :=
  ⟨fun i H => ∃ xs x, SqL K H a xs ∧ xs[i]? = some x, fun i H x H' => H' = H ∧ ∀ xs, SqL K H a xs → xs[i]? = some x, fun i H => ∃ xs, SqL K H a xs ∧ xs.length ≤ i⟩
def Itt (K : PySem.W.Frag) (a : Addr) : It :=
  ⟨fun i H => ∃ xs x, SqT K H a xs ∧ xs[i]? = some x, fun i H x H' => H' = H ∧ ∀ xs, SqT K H a xs → xs[i]? = some x, fun i H => ∃ xs, SqT K H a xs ∧ xs.length ≤ i⟩
def Itr (lo : Int) (n : Nat) : It := ⟨fun i _ => i < n, fun i H x H' => H' = H ∧ x = .int (lo + i), fun i _ => n ≤ i⟩
theorem turn_list {P : Program} {w : World} {K : PySem.W.Frag} {tg : Expr} (a it : Addr) : Turn P w K tg (Itl K a) [it] it (fun i h => h.IsListIter it a i) where
  mem := by simp
  obj := fun i h st b hb => by
    have e : b = it := by simpa using hb
    subst e
    obtain ⟨o, e, c, d⟩ := st
    exact ⟨o, e, fun v z => by rw [d] at z; cases z⟩
  keep := fun i h h' st k => st.at fun o e => k it (by simp) o e
  item := by
    intro X hP hw hK hc i pins s σ H E I hf st hg
    subst hP hw hK
    obtain ⟨xs, x, hq, hx⟩ := hg
    obtain ⟨its, rv, p, hz⟩ := I.list hq
    obtain ⟨u, hu, ru⟩ := rv.get hx
    obtain ⟨f0, f1, f2, f3, f4, f5⟩ := hf it (by simp)
    refine wpAny_pyNext_list_item st p.isList (x := u) (by simpa using hu) fun h' st' sb => ?_
    have I1 : Inv X pins σ H { s with heap := h' } := I.turned (t' := s.toks) (fun b o hb e => (sb.2 b hb).trans e) f0 f1 f3 f4 f5
    obtain ⟨o, e, c, d⟩ := id st'
    exact ⟨u, rfl, go_of (s := { s with heap := h' }) e c d (by decide) ⟨x, H, I1, ru, ⟨rfl, fun ys hy => by rw [I.list_inj hy hq]; exact hx⟩, st', fun b hb => (hf b hb).1⟩⟩
  done := by
    intro X hP hw hK hc i pins s σ H E I hf st hg
    subst hP hw hK
    obtain ⟨xs, hq, hx⟩ := hg
    obtain ⟨its, rv, p, hz⟩ := I.list hq
    obtain ⟨f0, f1, f2, f3, f4, f5⟩ := hf it (by simp)
    have hl := rv.length
    exact wpAny_pyNext_list_end (I.ok.hd hc) st p.isList (by simp; omega) fun h' eb => ⟨rfl, I.turned (t' := s.toks) (fun b o hb e => eb b o hb e) f0 f1 f3 f4 f5⟩
  self := fun _ _ _ _ _ st h => wpAny_pyIter_listiter st h
theorem turn_tuple {P : Program} {w : World} {K : PySem.W.Frag} {tg : Expr} (a it : Addr) : Turn P w K tg (Itt K a) [it] it (fun i h => h.IsTupleIter it a i) where
  mem := by simp
  obj := fun i h st b hb => by
    have e : b = it := by simpa using hb
    subst e
    obtain ⟨o, e, c, d⟩ := st
    exact ⟨o, e, fun v z => by rw [d] at z; cases z⟩
  keep := fun i h h' st k => st.at fun o e => k it (by simp) o e
  item := by
    intro X hP hw hK hc i pins s σ H E I hf st hg
    subst hP hw hK
    obtain ⟨xs, x, hq, hx⟩ := hg
    obtain ⟨its, rv, p, hz⟩ := I.tuple hq
    obtain ⟨u, hu, ru⟩ := rv.get hx
    obtain ⟨f0, f1, f2, f3, f4, f5⟩ := hf it (by simp)
    refine wpAny_pyNext_tuple_item st (show s.heap.IsTuple a its.toArray from p) (x := u) (by simpa using hu) fun h' st' sb => ?_
    have I1 : Inv X pins σ H { s with heap := h' } := I.turned (t' := s.toks) (fun b o hb e => (sb.2 b hb).trans e) f0 f1 f3 f4 f5
    obtain ⟨o, e, c, d⟩ := id st'
    exact ⟨u, rfl, go_of (s := { s with heap := h' }) e c d (by decide) ⟨x, H, I1, ru, ⟨rfl, fun ys hy => by rw [I.tuple_inj hy hq]; exact hx⟩, st', fun b hb => (hf b hb).1⟩⟩
  done := by
    intro X hP hw hK hc i pins s σ H E I hf st hg
    subst hP hw hK
    obtain ⟨xs, hq, hx⟩ := hg
    obtain ⟨its, rv, p, hz⟩ := I.tuple hq
    obtain ⟨f0, f1, f2, f3, f4, f5⟩ := hf it (by simp)
    have hl := rv.length
    exact wpAny_pyNext_tuple_end (I.ok.hd hc) st (show s.heap.IsTuple a its.toArray from p) (by simp; omega) fun h' eb => ⟨rfl, I.turned (t' := s.toks) (fun b o hb e => eb b o hb e) f0 f1 f3 f4 f5⟩
  self := fun _ _ _ _ _ st h => wpAny_pyIter_tupleiter st h
theorem turn_range {P : Program} {w : World} {K : PySem.W.Frag} {tg : Expr} (it : Addr) (lo : Int) (n : Nat) : Turn P w K tg (Itr lo n) [it] it (fun i h => IsRangeIter h it (lo + (i : Nat) * 1) ((n : Int) - (i : Nat)) 1) where
  mem := by simp
  obj := fun i h st b hb => by
    have e : b = it := by simpa using hb
    subst e
    exact ⟨_, st, fun v z => by
      have z' : Data.fields _ = Data.cell v := z
      cases z'⟩
  keep := fun i h h' st k => k it (by simp) _ st
  item := by
    intro X hP hw hK hc i pins s σ H E I hf st hg
    subst hP hw hK
    obtain ⟨f0, f1, f2, f3, f4, f5⟩ := hf it (by simp)
    have W := Walks.range (prog := X.prog) (w := X.w) (I.ok.hd hc) it lo 1 n
    refine W.item i s _ _ hg st fun v h' tk hv st' kk => ?_
    obtain ⟨t, rfl⟩ := hv
    have I1 : Inv X pins σ H { s with heap := h', toks := tk } := I.turned (fun b o hb e => kk b o (by simpa using hb) e) f0 f1 f3 f4 f5
    refine ⟨_, rfl, go_of (s := { s with heap := h', toks := tk }) (n := "range_iterator") st' rfl rfl (by decide) ⟨.int (lo + i), H, I1, ⟨t, ?_⟩, ⟨rfl, rfl⟩, st', fun b hb => (hf b hb).1⟩⟩
    rw [Int.mul_one]
  done := by
    intro X hP hw hK hc i pins s σ H E I hf st hg
    subst hP hw hK
    obtain ⟨f0, f1, f2, f3, f4, f5⟩ := hf it (by simp)
    exact wpAny_pyNext_range_end (I.ok.hd hc) st (by have : n ≤ i := hg; omega) fun h' eb => ⟨rfl, I.turned (t' := s.toks) (fun b o hb e => eb b o hb e) f0 f1 f3 f4 f5⟩
  self := fun _ _ _ _ _ st h => wpAny_pyIter_rangeiter st h
end L2
namespace L2
open PySem PySem.Spec PyProof.Rows
section
variable {X : Cx} {tg : Expr}
def iList (K : PySem.W.Frag) (tl : TE) : TI := fun σ H R => tl σ H fun x H1 => ∃ a, x = .ref a ∧ (∃ xs, SqL K H1 a xs) ∧ R (Itl K a) H1
def iTup (K : PySem.W.Frag) (tl : TE) : TI := fun σ H R => tl σ H fun x H1 => ∃ a, x = .ref a ∧ (∃ xs, SqT K H1 a xs) ∧ R (Itt K a) H1
theorem pi_list {l : Expr} {tl : TE} (hl : PE X l tl) : PI X tg l (iList X.K tl) := by
  intro pins s σ H R I h
  refine thn (hl pins s σ H _ I h) fun v s1 ⟨x, H1, I1, r1, q1⟩ => ?_
  obtain ⟨a, e, ⟨xs, hq⟩, q⟩ := q1
  subst e
  cases r1
  obtain ⟨its, rv, p, hz⟩ := I1.list hq
  refine wpAny_pyIter_list p.isList ?_
  refine ⟨s1.heap.objs.size, [s1.heap.objs.size], _, _, H1, rfl, I1.kept (t' := s1.toks) fun b o e => Heap.get?_push_of_some _ e, turn_list a _, ⟨_, Heap.get?_push_size _ rfl, rfl, rfl⟩, fun b hb => ?_, q⟩
  have e : b = s1.heap.objs.size := by simpa using hb
  subst e
  exact I1.fpOk (Nat.le_refl _) (I1.hok.fresh (Nat.le_refl _))
theorem pi_tup {l : Expr} {tl : TE} (hl : PE X l tl) : PI X tg l (iTup X.K tl) := by
  intro pins s σ H R I h
  refine thn (hl pins s σ H _ I h) fun v s1 ⟨x, H1, I1, r1, q1⟩ => ?_
  obtain ⟨a, e, ⟨xs, hq⟩, q⟩ := q1
  subst e
  cases r1
  obtain ⟨its, rv, p, hz⟩ := I1.tuple hq
  refine wpAny_pyIter_tuple (show s1.heap.IsTuple a its.toArray from p) ?_
  refine ⟨s1.heap.objs.size, [s1.heap.objs.size], _, _, H1, rfl, I1.kept (t' := s1.toks) fun b o e => Heap.get?_push_of_some _ e, turn_tuple a _, ⟨_, Heap.get?_push_size _ rfl, rfl, rfl⟩, fun b hb => ?_, q⟩
  have e : b = s1.heap.objs.size := by simpa using hb
  subst e
  exact I1.fpOk (Nat.le_refl _) (I1.hok.fresh (Nat.le_refl _))
theorem range_it {pins : List (Addr × Obj)} {σ : St} {H : Hp} {s : Shared} {R : It → Hp → Prop} {E : Value → Shared → Prop} {lo hi : Int} {t u v : Tok} {tk : Nat} (I : Inv X pins σ H s) (h1 : -(2 ^ 62) ≤ lo) (h2 : lo < 2 ^ 62) (h3 : -(2 ^ 62) ≤ hi) (h4 : hi < 2 ^ 62)
    (q : R (Itr lo (hi - lo).toNat) H) : wpAny (model X.prog X.w) X.A (pyIter (.ref s.heap.objs.size)) (PIE X pins σ tg R) E { s with heap := s.heap.push { cls := .type "range", data := .fields #[.int lo t, .int hi u, .int 1 v] }, toks := tk } := by
  refine wpAny_pyIter_range (IsRange.new ..) (small_one h1 h2 h3 h4) ?_
  have I1 : Inv X pins σ H { s with heap := s.heap.push { cls := .type "range", data := .fields #[.int lo t, .int hi u, .int 1 v] }, toks := tk } := I.kept fun b o e => Heap.get?_push_of_some _ e
  refine ⟨(s.heap.push { cls := .type "range", data := .fields #[.int lo t, .int hi u, .int 1 v] }).objs.size, [(s.heap.push { cls := .type "range", data := .fields #[.int lo t, .int hi u, .int 1 v] }).objs.size], _, _, H, rfl,
    I1.kept (t' := tk) fun b o e => Heap.get?_push_of_some _ e, turn_range _ lo (hi - lo).toNat, ?_, fun b hb => ?_, q⟩
  · have e1 : lo + ((0 : Nat) : Int) * 1 = lo := by simp
    have e2 : (((hi - lo).toNat : Nat) : Int) - ((0 : Nat) : Int) = Builtin.Range.rangeSize lo hi 1 := by rw [rangeSize_one]; split <;> omega
    show IsRangeIter _ _ (lo + ((0 : Nat) : Int) * 1) ((((hi - lo).toNat : Nat) : Int) - ((0 : Nat) : Int)) 1
    rw [e1, e2]
    exact Heap.get?_push_size _ rfl
  · have e : b = (s.heap.push { cls := .type "range", data := .fields #[.int lo t, .int hi u, .int 1 v] }).objs.size := by simpa using hb
    subst e
    exact I1.fpOk (Nat.le_refl _) (I1.hok.fresh (Nat.le_refl _))
def iRng1 (ta : TA) : TI := fun σ H R => ta σ H fun vs H1 => ∃ j : Int, vs = [.int j] ∧ -(2 ^ 62) ≤ j ∧ j < 2 ^ 62 ∧ R (Itr 0 j.toNat) H1
def iRng2 (ta : TA) : TI := fun σ H R => ta σ H fun vs H1 => ∃ i j : Int, vs = [.int i, .int j] ∧ (-(2 ^ 62) ≤ i ∧ i < 2 ^ 62 ∧ -(2 ^ 62) ≤ j ∧ j < 2 ^ 62) ∧ R (Itr i (j - i).toNat) H1
theorem pi_range1 {a : Expr} {ta : TA} {p pos : Pos} (hg : Gl X "range") (hm : X.mg "range" = none) (ha : PA X [a] ta) (hs : starEach [a] X.env = [(false, eval a X.env)] := by rfl) : PI X tg (.Call (.Name "range" p) [a] [] pos) (iRng1 ta) := by
  intro pins s σ H R I h
  refine Call_ (ld_blt I hg hm boot_range (PyProof.Rows.callWith_type1 (thn (ha pos pins s σ H _ I h) fun us s1 ⟨vs, H1, I1, r1, q1⟩ => ?_) hs rfl))
  obtain ⟨j, e, q1, q2, q⟩ := q1
  subst e
  cases r1 with
  | cons r rr =>
    cases rr
    obtain ⟨t, rfl⟩ := r
    exact call_range_1 (range_it I1 (by omega) (by omega) q1 q2 (by simpa using q))
theorem pi_range2 {a b : Expr} {ta : TA} {p pos : Pos} (hg : Gl X "range") (hm : X.mg "range" = none) (ha : PA X [a, b] ta) (hs : starEach [a, b] X.env = [(false, eval a X.env), (false, eval b X.env)] := by rfl) (hs2 : starEach [b] X.env = [(false, eval b X.env)] := by rfl) :
    PI X tg (.Call (.Name "range" p) [a, b] [] pos) (iRng2 ta) := by
  intro pins s σ H R I h
  refine Call_ (ld_blt I hg hm boot_range (PyProof.Rows.callWith_type1 (thn (ha pos pins s σ H _ I h) fun us s1 ⟨vs, H1, I1, r1, q1⟩ => ?_) (by rw [hs, hs2]) (by rw [hs2]; rfl)))
  obtain ⟨i, j, e, ⟨q1, q2, q3, q4⟩, q⟩ := q1
  subst e
  cases r1 with
  | cons r rr =>
    cases rr with
    | cons r' rr =>
      cases rr
      obtain ⟨t, rfl⟩ := r
      obtain ⟨t', rfl⟩ := r'
      exact call_range_2 (range_it I1 q1 q2 q3 q4 q)
def tFor (wi : TI) (g : TG) (tb : TS) : TS := fun D σ H => wi σ H fun J H1 => ∃ W : Nat → Nat → St → Hp → Prop, (∃ m, W 0 m σ H1) ∧ ∀ i m σ H, W i m σ H →
  (J.stop i H ∧ D.nx σ H) ∨ (J.go i H ∧ ∃ N : St → Hp → Prop, (∀ σ' H', N σ' H' → ∃ m', m' < m ∧ W (i + 1) m' σ' H') ∧ ∀ x H', J.yld i H x H' → g x σ H' fun σ2 H2 => tb { D with nx := N, ct := N, bk := D.nx } σ2 H2)
def pinsAt (fp : List Addr) (h : Heap) : List (Addr × Obj) := fp.filterMap fun b => (h.get? b).map fun o => (b, o)
theorem mem_pinsAt {fp : List Addr} {h : Heap} {b : Addr} {o : Obj} (hb : b ∈ fp) (e : h.get? b = some o) : (b, o) ∈ pinsAt fp h := List.mem_filterMap.mpr ⟨b, hb, by rw [e]; rfl⟩
theorem of_pinsAt {fp : List Addr} {h : Heap} {p : Addr × Obj} (hp : p ∈ pinsAt fp h) : p.1 ∈ fp ∧ h.get? p.1 = some p.2 := by
  obtain ⟨b, hb, e⟩ := List.mem_filterMap.mp hp
  cases q : h.get? b with
  | none => rw [q] at e; cases e
  | some o =>
    rw [q] at e
    have e' : (b, o) = p := Option.some.inj e
    subst e'
    exact ⟨hb, q⟩
theorem Inv.pinned {pins : List (Addr × Obj)} {σ : St} {H : Hp} {s : Shared} {fp : List Addr} (I : Inv X pins σ H s) (hf : ∀ b ∈ fp, FpOk X pins H b) (ho : ∀ b ∈ fp, ∃ o, s.heap.get? b = some o ∧ ∀ v, o.data ≠ .cell v) : Inv X (pins ++ pinsAt fp s.heap) σ H s :=
  I.pins_of fun p hp => (List.mem_append.mp hp).elim (fun z => I.pin p (List.mem_append_right _ z)) fun z => by
    obtain ⟨hb, e⟩ := of_pinsAt z
    obtain ⟨f0, f1, f2, _⟩ := hf p.1 hb
    obtain ⟨o, e', d⟩ := ho p.1 hb
    rw [e] at e'; cases e'
    exact ⟨e, f0, f1, f2, d⟩
theorem Inv.unpinned {pins pl : List (Addr × Obj)} {σ : St} {H : Hp} {s : Shared} (I : Inv X (pins ++ pl) σ H s) : Inv X pins σ H s := I.pins_of fun p hp => I.pin p (List.mem_append_right _ (List.mem_append_left _ hp))
theorem ps_for {iter : Expr} {body : List Stmt} {wi : TI} {g : TG} {tb : TS} {pos : Pos} (hp : PassesOwn (model X.prog X.w) X.A X.env X.xe) (hc : X.calm = true) (hi : PI X tg iter wi) (hg : PG X tg g) (hb : PSs X body tb)
    (hs : ∀ x, foldedSetIterable iter X.env x = pure x := by intro _; rfl) : PS X (.For tg iter body [] pos) (tFor wi g tb) := by
  intro pins s σ H D I h
  refine wpAny_For (thn (hi pins s σ H _ I h) fun v s1 h1 => thn h1 fun itv s2 h2 => ?_) hs
  obtain ⟨it, fp, tn, J, H2, e, I2, T, st2, f2, W, ⟨m0, w0⟩, turn⟩ := h2
  subst e
  have stat : ∀ {H' : Hp}, (∀ b ∈ fp, H' b = none) → ∀ b ∈ fp, FpOk X pins H' b := fun hn b hb => ⟨hn b hb, (f2 b hb).2⟩
  refine codeAny_forLoop_any (fun n s' => ∃ i σ' H', Inv X pins σ' H' s' ∧ tn i s'.heap ∧ (∀ b ∈ fp, H' b = none) ∧ W i n σ' H') ?_ m0 ⟨0, σ, H2, I2, st2, fun b hb => (f2 b hb).1, w0⟩
  rintro n s3 ⟨i, σ3, H3, I3, st3, fr3, w3⟩
  rcases turn i n σ3 H3 w3 with ⟨stop, qn⟩ | ⟨go, N, hN, step⟩
  · refine wpAny_passesOwn hp (thn (T.done X rfl rfl rfl hc i pins s3 σ3 H3 X.xe I3 (stat fr3) st3 stop) fun r s4 ⟨hr, I4⟩ => ?_)
    subst hr
    exact wpAny_execs_nil ⟨σ3, H3, I4, qn⟩
  · refine wpAny_passesOwn hp (thn (T.item X rfl rfl rfl hc i pins s3 σ3 H3 X.xe I3 (stat fr3) st3 go) fun r s4 ⟨u, hr, h4⟩ => ?_)
    subst hr
    refine wpAny_passesOwn hp (thn h4 fun _ s5 ⟨x, H5, I5, r5, y5, st5, fr5⟩ => ?_)
    have I5' := I5.pinned (stat fr5) (T.obj _ _ st5)
    refine wpAny_passesOwn hp (thn (hg _ s5 σ3 H5 x u _ I5' r5 (step x H5 y5)) fun _ s6 ⟨σ6, H6, I6, q6⟩ => ?_)
    refine wpAny_passesOwn hp (thn (hb _ s6 σ6 H6 _ I6 q6) fun f s7 q7 => ?_)
    have again : ∀ {σ7 : St} {H7 : Hp}, Inv X (pins ++ pinsAt fp s5.heap) σ7 H7 s7 → N σ7 H7 → ∃ m, m < n ∧ ∃ i σ' H', Inv X pins σ' H' s7 ∧ tn i s7.heap ∧ (∀ b ∈ fp, H' b = none) ∧ W i m σ' H' := fun {σ7 H7} I7 n7 => by
      obtain ⟨m', hm, w7⟩ := hN σ7 H7 n7
      refine ⟨m', hm, i + 1, σ7, H7, I7.unpinned, T.keep _ _ _ st5 fun b hb o e => (I7.pin (b, o) (List.mem_append_right _ (List.mem_append_right _ (mem_pinsAt hb e)))).1, fun b hb => ?_, w7⟩
      obtain ⟨o, e, d⟩ := T.obj _ _ st5 b hb
      exact (I7.pin (b, o) (List.mem_append_right _ (List.mem_append_right _ (mem_pinsAt hb e)))).2.1
    cases f with
    | next => obtain ⟨σ7, H7, I7, n7⟩ := q7; exact again I7 n7
    | cont => obtain ⟨σ7, H7, I7, n7⟩ := q7; exact again I7 n7
    | brk => obtain ⟨σ7, H7, I7, q7⟩ := q7; exact ⟨σ7, H7, I7.unpinned, q7⟩
    | ret v => obtain ⟨x7, σ7, H7, I7, r7, q7⟩ := q7; exact ⟨x7, σ7, H7, I7.unpinned, r7, q7⟩
end
theorem for_list {K : PySem.W.Frag} {a : Addr} {xs : List V} {g : TG} {tb : TS} {D : Ends} {σ : St} {H : Hp} (Pv : Nat → St → Hp → Prop) (h0 : Pv 0 σ H) (hl : ∀ i σ H, i ≤ xs.length → Pv i σ H → SqL K H a xs)
    (hs : ∀ i x σ H, xs[i]? = some x → Pv i σ H → g x σ H fun σ2 H2 => tb { D with nx := Pv (i + 1), ct := Pv (i + 1), bk := D.nx } σ2 H2) (hd : ∀ σ H, Pv xs.length σ H → D.nx σ H) :
    ∃ W : Nat → Nat → St → Hp → Prop, (∃ m, W 0 m σ H) ∧ ∀ i m σ H, W i m σ H →
      ((Itl K a).stop i H ∧ D.nx σ H) ∨ ((Itl K a).go i H ∧ ∃ N : St → Hp → Prop, (∀ σ' H', N σ' H' → ∃ m', m' < m ∧ W (i + 1) m' σ' H') ∧ ∀ x H', (Itl K a).yld i H x H' → g x σ H' fun σ2 H2 => tb { D with nx := N, ct := N, bk := D.nx } σ2 H2) := by
  refine ⟨fun i m σ H => m = xs.length - i ∧ i ≤ xs.length ∧ Pv i σ H, ⟨xs.length, by simp, Nat.zero_le _, h0⟩, ?_⟩
  rintro i m σ H ⟨rfl, hi, p⟩
  have q := hl i σ H hi p
  by_cases hlt : i < xs.length
  · refine .inr ⟨⟨xs, xs[i], q, by simp [hlt]⟩, Pv (i + 1), fun σ' H' p' => ⟨xs.length - (i + 1), by omega, rfl, hlt, p'⟩, fun x H' y => ?_⟩
    obtain ⟨e, y⟩ := y
    subst e
    exact hs i x σ _ (y xs q) p
  · have e : i = xs.length := by omega
    subst e
    exact .inl ⟨⟨xs, q, Nat.le_refl _⟩, hd σ H p⟩
theorem for_range {lo : Int} {n : Nat} {g : TG} {tb : TS} {D : Ends} {σ : St} {H : Hp} (Pv : Nat → St → Hp → Prop) (h0 : Pv 0 σ H)
    (hs : ∀ i σ H, i < n → Pv i σ H → g (.int (lo + i)) σ H fun σ2 H2 => tb { D with nx := Pv (i + 1), ct := Pv (i + 1), bk := D.nx } σ2 H2) (hd : ∀ σ H, Pv n σ H → D.nx σ H) :
    ∃ W : Nat → Nat → St → Hp → Prop, (∃ m, W 0 m σ H) ∧ ∀ i m σ H, W i m σ H →
      ((Itr lo n).stop i H ∧ D.nx σ H) ∨ ((Itr lo n).go i H ∧ ∃ N : St → Hp → Prop, (∀ σ' H', N σ' H' → ∃ m', m' < m ∧ W (i + 1) m' σ' H') ∧ ∀ x H', (Itr lo n).yld i H x H' → g x σ H' fun σ2 H2 => tb { D with nx := N, ct := N, bk := D.nx } σ2 H2) := by
  refine ⟨fun i m σ H => m = n - i ∧ i ≤ n ∧ Pv i σ H, ⟨n, by simp, Nat.zero_le _, h0⟩, ?_⟩
  rintro i m σ H ⟨rfl, hi, p⟩
  by_cases hlt : i < n
  · refine .inr ⟨hlt, Pv (i + 1), fun σ' H' p' => ⟨n - (i + 1), by omega, rfl, hlt, p'⟩, fun x H' y => ?_⟩
    obtain ⟨e, y⟩ := y
    subst e y
    exact hs i σ _ hlt p
  · have e : i = n := by omega
    subst e
    exact .inl ⟨Nat.le_refl _, hd σ H p⟩
end L2
namespace L2
open PySem PySem.Spec PyProof.Rows
abbrev R2 := V → V → Hp → VK → Prop
def OpR (X : Cx) (f : Value → Value → Sem Value) (r : R2) : Prop :=
  ∀ (pins : List (Addr × Obj)) (s : Shared) (σ : St) (H : Hp) (x y : V) (v u : Value) (Q : VK), Inv X pins σ H s → RelV x v → RelV y u → r x y H Q →
    wpAny (model X.prog X.w) X.A (f v u) (EP X pins σ Q) X.xe s
def CallR (X : Cx) (f : Value) (r : List V → Hp → VK → Prop) : Prop :=
  ∀ (pins : List (Addr × Obj)) (s : Shared) (σ : St) (H : Hp) (xs : List V) (us : List Value) (Q : VK), Inv X pins σ H s → Vals xs us → r xs H Q →
    wpAny (model X.prog X.w) X.A (call f us) (EP X pins σ Q) X.xe s
def tOp (r : R2) (ta tb : TE) : TE := fun σ H Q => ta σ H fun x H1 => tb σ H1 fun y H2 => r x y H2 Q
def rI (C : Int → Int → Prop) (g : Int → Int → V) : R2 := fun x y H Q => ∃ i j, x = .int i ∧ y = .int j ∧ C i j ∧ Q (g i j) H
def rI0 (g : Int → Int → V) : R2 := fun x y H Q => ∃ i j, x = .int i ∧ y = .int j ∧ Q (g i j) H
section
variable {X : Cx} {a b c : Expr} {ta tb tc : TE} {pos : Pos}
theorem binT (ha : PE X a ta) (hb : PE X b tb) {pins : List (Addr × Obj)} {s : Shared} {σ : St} {H : Hp} {R : V → V → Hp → Prop} (I : Inv X pins σ H s)
    (h : ta σ H fun x H1 => tb σ H1 fun y H2 => R x y H2) {Q : Value → Shared → Prop} {f : Value → Value → Sem Value}
    (hf : ∀ v u s2 x y H2, Inv X pins σ H2 s2 → RelV x v → RelV y u → R x y H2 → wpAny (model X.prog X.w) X.A (f v u) Q X.xe s2) :
    wpAny (model X.prog X.w) X.A (eval a X.env) (fun v s₁ => wpAny (model X.prog X.w) X.A (eval b X.env) (fun u s₂ => wpAny (model X.prog X.w) X.A (f v u) Q X.xe s₂) X.xe s₁) X.xe s := by
  refine thn (ha pins s σ H _ I h) fun v s1 ⟨x, H1, I1, r1, q1⟩ => ?_
  refine thn (hb pins s1 σ H1 _ I1 q1) fun u s2 ⟨y, H2, I2, r2, q2⟩ => ?_
  exact hf v u s2 x y H2 I2 r1 r2 q2
theorem pe_op {op : Operator} {r : R2} (ho : OpR X (binaryOp op) r) (ha : PE X a ta) (hb : PE X b tb) : PE X (.BinOp a op b pos) (tOp r ta tb) := by
  intro pins s σ H Q I h
  exact wpAny_BinOp (binT ha hb I h fun v u s2 x y H2 I2 rx ry q => ho pins s2 σ H2 x y v u Q I2 rx ry q)
theorem opI {f : Value → Value → Sem Value} {C : Int → Int → Prop} {g : Int → Int → Int}
    (rule : ∀ (i j : Int) (t u : Tok) (s : Shared) (Q : Value → Shared → Prop) (E : Value → Shared → Prop), C i j → Q (.int (g i j) s.toks) { s with toks := s.toks + 1 } → wpAny (model X.prog X.w) X.A (f (.int i t) (.int j u)) Q E s) :
    OpR X f (rI C fun i j => .int (g i j)) := by
  intro pins s σ H x y v u Q I rx ry h
  obtain ⟨i, j, rfl, rfl, hc, q⟩ := h
  obtain ⟨t, rfl⟩ := rx
  obtain ⟨t', rfl⟩ := ry
  exact rule i j t t' s _ _ hc ⟨.int (g i j), H, I.tok _, ⟨_, rfl⟩, q⟩
theorem opI0 {f : Value → Value → Sem Value} {g : Int → Int → Int}
    (rule : ∀ (i j : Int) (t u : Tok) (s : Shared) (Q : Value → Shared → Prop) (E : Value → Shared → Prop), Q (.int (g i j) s.toks) { s with toks := s.toks + 1 } → wpAny (model X.prog X.w) X.A (f (.int i t) (.int j u)) Q E s) :
    OpR X f (rI0 fun i j => .int (g i j)) := by
  intro pins s σ H x y v u Q I rx ry h
  obtain ⟨i, j, rfl, rfl, q⟩ := h
  obtain ⟨t, rfl⟩ := rx
  obtain ⟨t', rfl⟩ := ry
  exact rule i j t t' s _ _ ⟨.int (g i j), H, I.tok _, ⟨_, rfl⟩, q⟩
theorem opB0 {f : Value → Value → Sem Value} {g : Int → Int → Bool}
    (rule : ∀ (i j : Int) (t u : Tok) (s : Shared) (Q : Value → Shared → Prop) (E : Value → Shared → Prop), Q (.bool (g i j)) s → wpAny (model X.prog X.w) X.A (f (.int i t) (.int j u)) Q E s) :
    OpR X f (rI0 fun i j => .bl (g i j)) := by
  intro pins s σ H x y v u Q I rx ry h
  obtain ⟨i, j, rfl, rfl, q⟩ := h
  obtain ⟨t, rfl⟩ := rx
  obtain ⟨t', rfl⟩ := ry
  exact rule i j t t' s _ _ ⟨.bl (g i j), H, I, rfl, q⟩
def CDiv (i j : Int) : Prop := 0 < j ∧ j < 1073741824
def CPow (i j : Int) : Prop := 0 ≤ j ∧ j ≤ 1000000 ∧ i.natAbs < 2 ^ 64
def CMul (i j : Int) : Prop := (-(2 ^ 64) < i ∧ i < 2 ^ 64) ∨ (-(2 ^ 64) < j ∧ j < 2 ^ 64)
theorem CMul.ok {i j : Int} (h : CMul i j) : IntMulOk i j := by
  rcases h with ⟨h1, h2⟩ | ⟨h1, h2⟩
  · exact .of_left (intBits_le_64 h1 h2)
  · exact .of_right (intBits_le_64 h1 h2)
theorem op_add : OpR X (binaryOp .Add) (rI0 fun i j => .int (i + j)) := opI0 fun _ _ _ _ _ _ _ q => add_int q
theorem op_sub : OpR X (binaryOp .Sub) (rI0 fun i j => .int (i - j)) := opI0 fun _ _ _ _ _ _ _ q => sub_int q
theorem op_mul : OpR X (binaryOp .Mult) (rI CMul fun i j => .int (i * j)) := opI fun _ _ _ _ _ _ _ hc q => mul_int q hc.ok
theorem op_fdiv : OpR X (binaryOp .FloorDiv) (rI CDiv fun i j => .int (i / j)) := opI fun i j _ _ _ _ _ hc q => by
  have h1 : (0 : Int) < j := hc.1
  have h2 : j < 1073741824 := hc.2
  exact floordiv_int (by omega) (by rw [Int.fdiv_eq_ediv_of_nonneg i (by omega)]; exact q) (.inl (PyProof.noPylong_small (by omega)))
theorem op_mod : OpR X (binaryOp .Mod) (rI (fun _ j => 0 < j) fun i j => .int (i % j)) := opI fun i j _ _ _ _ _ hc q => by
  have h1 : (0 : Int) < j := hc
  exact mod_int' (by omega) (by rw [Int.fmod_eq_emod_of_nonneg i (by omega)]; exact q)
theorem op_pow : OpR X (binaryOp .Pow) (rI CPow fun i j => .int (i ^ j.toNat)) := opI fun _ _ _ _ _ _ _ hc q => pow_int_small hc.1 hc.2.1 hc.2.2 q
end
def scal : V → V → Bool
  | .non, .non => true | .non, .int _ => true | .int _, .non => true | .non, .bl _ => true | .bl _, .non => true | .non, .str _ => true | .str _, .non => true
  | .int _, .int _ => true | .bl _, .bl _ => true | .str _, .str _ => true | .byt _, .byt _ => true
  | .int _, .str _ => true | .str _, .int _ => true | .bl _, .str _ => true | .str _, .bl _ => true
  | _, _ => false
def rEq : R2 := fun x y H Q => scal x y = true ∧ Q (.bl (decide (x = y))) H
def rNe : R2 := fun x y H Q => scal x y = true ∧ Q (.bl (!decide (x = y))) H
theorem dec_int {i j : Int} : decide (V.int i = V.int j) = (i == j) := by
  rw [Bool.eq_iff_iff]
  simp
theorem dec_bl {i j : Bool} : decide (V.bl i = V.bl j) = (i == j) := by
  rw [Bool.eq_iff_iff]
  simp
theorem dec_str {i j : Str} : decide (V.str i = V.str j) = (i == j) := by
  rw [Bool.eq_iff_iff]
  simp
theorem dec_byt {i j : Array UInt8} : decide (V.byt i = V.byt j) = (i.toList == j.toList) := by
  rw [Bool.eq_iff_iff]
  cases i
  cases j
  simp
section
variable {X : Cx} {a b c : Expr} {ta tb tc : TE} {pos : Pos}
theorem fin_bl {pins : List (Addr × Obj)} {σ : St} {H : Hp} {s : Shared} {Q : VK} {k k' : Bool} (I : Inv X pins σ H s) (q : Q (.bl k) H) (e : k = k') : EP X pins σ Q (.bool k') s := by
  subst e
  exact ⟨.bl k, H, I, rfl, q⟩
theorem op_eq : OpR X (compareOp .Eq) rEq := by
  intro pins s σ H x y v u Q I rx ry h
  obtain ⟨hs, q⟩ := h
  cases x with
  | non =>
    cases rx
    cases y with
    | non => cases ry; exact PySem.EqNone.eq_none_none (fin_bl I q (by simp))
    | bl j => cases ry; exact PySem.EqNone.eq_none_bool (fin_bl I q (by simp))
    | int j => obtain ⟨t', rfl⟩ := ry; exact PySem.EqNone.eq_none_int (fin_bl I q (by simp))
    | str j => obtain ⟨t', rfl⟩ := ry; exact PySem.EqNone.eq_none_str (fin_bl I q (by simp))
    | _ => exact absurd (show false = true from hs) Bool.false_ne_true
  | bl i =>
    cases rx
    cases y with
    | non => cases ry; exact PySem.EqNone.eq_bool_none (fin_bl I q (by simp))
    | bl j => cases ry; exact eq_bool (fin_bl I q dec_bl)
    | str j => obtain ⟨t', rfl⟩ := ry; exact PySem.EqMixed.eq_bool_str (fin_bl I q (by simp))
    | _ => exact absurd (show false = true from hs) Bool.false_ne_true
  | int i =>
    obtain ⟨t, rfl⟩ := rx
    cases y with
    | non => cases ry; exact PySem.EqNone.eq_int_none (fin_bl I q (by simp))
    | int j => obtain ⟨t', rfl⟩ := ry; exact eq_int (fin_bl I q dec_int)
    | str j => obtain ⟨t', rfl⟩ := ry; exact PySem.EqMixed.eq_int_str (fin_bl I q (by simp))
    | _ => exact absurd (show false = true from hs) Bool.false_ne_true
  | str i =>
    obtain ⟨t, rfl⟩ := rx
    cases y with
    | non => cases ry; exact PySem.EqNone.eq_str_none (fin_bl I q (by simp))
    | bl j => cases ry; exact PySem.EqMixed.eq_str_bool (fin_bl I q (by simp))
    | int j => obtain ⟨t', rfl⟩ := ry; exact PySem.EqMixed.eq_str_int (fin_bl I q (by simp))
    | str j => obtain ⟨t', rfl⟩ := ry; exact eq_str (fin_bl I q dec_str)
    | _ => exact absurd (show false = true from hs) Bool.false_ne_true
  | byt i =>
    obtain ⟨t, rfl⟩ := rx
    cases y with
    | byt j => obtain ⟨t', rfl⟩ := ry; exact PySem.W.eq_bytes (fin_bl I q dec_byt)
    | _ => exact absurd (show false = true from hs) Bool.false_ne_true
  | _ => cases y <;> exact absurd (show false = true from hs) Bool.false_ne_true
theorem op_ne : OpR X (compareOp .NotEq) rNe := by
  intro pins s σ H x y v u Q I rx ry h
  obtain ⟨hs, q⟩ := h
  cases x with
  | non =>
    cases rx
    cases y with
    | non => cases ry; exact PySem.EqNone.ne_none_none (fin_bl I q (by simp))
    | bl j => cases ry; exact PySem.EqNone.ne_none_bool (fin_bl I q (by simp))
    | int j => obtain ⟨t', rfl⟩ := ry; exact PySem.EqNone.ne_none_int (fin_bl I q (by simp))
    | str j => obtain ⟨t', rfl⟩ := ry; exact PySem.EqNone.ne_none_str (fin_bl I q (by simp))
    | _ => exact absurd (show false = true from hs) Bool.false_ne_true
  | bl i =>
    cases rx
    cases y with
    | non => cases ry; exact PySem.EqNone.ne_bool_none (fin_bl I q (by simp))
    | bl j => cases ry; exact ne_bool (fin_bl I q (congrArg not dec_bl))
    | str j => obtain ⟨t', rfl⟩ := ry; exact PySem.EqMixed.ne_bool_str (fin_bl I q (by simp))
    | _ => exact absurd (show false = true from hs) Bool.false_ne_true
  | int i =>
    obtain ⟨t, rfl⟩ := rx
    cases y with
    | non => cases ry; exact PySem.EqNone.ne_int_none (fin_bl I q (by simp))
    | int j => obtain ⟨t', rfl⟩ := ry; exact ne_int (fin_bl I q (congrArg not dec_int))
    | str j => obtain ⟨t', rfl⟩ := ry; exact PySem.EqMixed.ne_int_str (fin_bl I q (by simp))
    | _ => exact absurd (show false = true from hs) Bool.false_ne_true
  | str i =>
    obtain ⟨t, rfl⟩ := rx
    cases y with
    | non => cases ry; exact PySem.EqNone.ne_str_none (fin_bl I q (by simp))
    | bl j => cases ry; exact PySem.EqMixed.ne_str_bool (fin_bl I q (by simp))
    | int j => obtain ⟨t', rfl⟩ := ry; exact PySem.EqMixed.ne_str_int (fin_bl I q (by simp))
    | str j => obtain ⟨t', rfl⟩ := ry; exact ne_str (fin_bl I q (congrArg not dec_str))
    | _ => exact absurd (show false = true from hs) Bool.false_ne_true
  | byt i =>
    obtain ⟨t, rfl⟩ := rx
    cases y with
    | byt j => obtain ⟨t', rfl⟩ := ry; exact PySem.W.ne_bytes (fin_bl I q (congrArg not dec_byt))
    | _ => exact absurd (show false = true from hs) Bool.false_ne_true
  | _ => cases y <;> exact absurd (show false = true from hs) Bool.false_ne_true
theorem op_lt : OpR X (compareOp .Lt) (rI0 fun i j => .bl (decide (i < j))) := opB0 fun _ _ _ _ _ _ _ q => lt_int q
theorem op_le : OpR X (compareOp .LtE) (rI0 fun i j => .bl (decide (i ≤ j))) := opB0 fun _ _ _ _ _ _ _ q => le_int q
theorem op_gt : OpR X (compareOp .Gt) (rI0 fun i j => .bl (decide (j < i))) := opB0 fun _ _ _ _ _ _ _ q => gt_int q
theorem op_ge : OpR X (compareOp .GtE) (rI0 fun i j => .bl (decide (j ≤ i))) := opB0 fun _ _ _ _ _ _ _ q => ge_int q
theorem op_in_str : OpR X (compareOp .In) (fun x y H Q => ∃ i j, x = .str i ∧ y = .str j ∧ Q (.bl (!(Builtin.Str.occurrences j i 0 j.length 1).isEmpty)) H) := by
  intro pins s σ H x y v u Q I rx ry h
  obtain ⟨i, j, rfl, rfl, q⟩ := h
  obtain ⟨t, rfl⟩ := rx
  obtain ⟨t', rfl⟩ := ry
  exact in_str (fin_bl I q rfl)
theorem op_isN : OpR X (compareOp .Is) (fun x y H Q => y = .non ∧ Q (.bl (decide (x = .non))) H) := by
  intro pins s σ H x y v u Q I rx ry h
  obtain ⟨rfl, q⟩ := h
  cases ry
  refine is_none_gen (fin_bl I q ?_)
  cases x <;> first
    | (cases rx; rfl)
    | (obtain ⟨t, rfl⟩ := rx; rfl)
theorem OpR.or {f : Value → Value → Sem Value} {r r' : R2} (h : OpR X f r) (h' : OpR X f r') : OpR X f (fun x y H Q => r x y H Q ∨ r' x y H Q) := by
  intro pins s σ H x y v u Q I rx ry q
  rcases q with q | q
  · exact h pins s σ H x y v u Q I rx ry q
  · exact h' pins s σ H x y v u Q I rx ry q
theorem nomark (b : Expr) {op : CmpOp} (h : op ≠ .In := by decide) (h2 : op ≠ .NotIn := by decide) : behindInMarks op b = false := by
  have e1 : (op == CmpOp.In) = false := by cases op <;> first | rfl | exact absurd rfl h
  have e2 : (op == CmpOp.NotIn) = false := by cases op <;> first | rfl | exact absurd rfl h2
  cases b <;> simp [behindInMarks, e1, e2]
theorem pe_cmpR {op : CmpOp} {r : R2} (ho : OpR X (compareOp op) r) (ha : PE X a ta) (hb : PE X b tb) (hm : behindInMarks op b = false) : PE X (.Compare a [op] [b] pos) (tOp r ta tb) := by
  intro pins s σ H Q I h
  exact wpAny_Compare1 (binT ha hb I h fun v u s2 x y H2 I2 rx ry q => ho pins s2 σ H2 x y v u Q I2 rx ry q) hm
def tTest (t : TE) : TT := fun σ H Q => t σ H fun x H' => ∃ k, x = .bl k ∧ Q k H'
theorem pt_cmpR {op : CmpOp} {r : R2} (ho : OpR X (compareOp op) r) (ha : PE X a ta) (hb : PE X b tb) (hm : behindInMarks op b = false) : PT X (.Compare a [op] [b] pos) (tTest (tOp r ta tb)) := by
  intro pins s σ H Q I h
  refine wpAny_isTrue_Compare1 (thn (ha pins s σ H _ I h) fun v s1 ⟨x, H1, I1, r1, q1⟩ => thn (hb pins s1 σ H1 _ I1 q1) fun u s2 ⟨y, H2, I2, r2, q2⟩ =>
    thn (ho pins s2 σ H2 x y v u _ I2 r1 r2 q2) fun c s3 ⟨z, H3, I3, r3, k, e, q3⟩ => ?_) hm
  subst e
  cases r3
  exact wpAny_truthy_bool ⟨H3, I3, q3⟩
def tChain (r r' : R2) (ta tb tc : TE) : TE := fun σ H Q => ta σ H fun x H1 => tb σ H1 fun y H2 => r x y H2 fun z H3 => ∃ k, z = .bl k ∧
  (if k = true then tc σ H3 fun w' H4 => r' y w' H4 Q else Q (.bl false) H3)
theorem pe_chain {op op' : CmpOp} {r r' : R2} (ho : OpR X (compareOp op) r) (ho' : OpR X (compareOp op') r') (ha : PE X a ta) (hb : PE X b tb) (hc : PE X c tc)
    (hm : lastMarks [op, op'] [b, c] = false := by with_unfolding_all rfl) : PE X (.Compare a [op, op'] [b, c] pos) (tChain r r' ta tb tc) := by
  intro pins s σ H Q I h
  refine Compare_chain (thn (ha pins s σ H _ I h) fun v s1 ⟨x, H1, I1, r1, q1⟩ => chain_link (thn (hb pins s1 σ H1 _ I1 q1) fun u s2 ⟨y, H2, I2, r2, q2⟩ =>
    thn (ho pins s2 σ H2 x y v u _ I2 r1 r2 q2) fun d s3 ⟨z, H3, I3, r3, k, e, q3⟩ => ?_)) hm
  subst e
  cases r3
  refine wpAny_truthy_bool ?_
  cases k with
  | false => exact ite_ff ⟨.bl false, H3, I3, rfl, q3⟩
  | true => exact ite_tt (chain_last (thn (hc pins s3 σ H3 _ I3 q3) fun w' s4 ⟨z', H4, I4, r4, q4⟩ => ho' pins s4 σ H4 y z' u w' Q I4 r2 r4 q4))
theorem line63 : (sizeLine : Nat) < 2 ^ 63 := by rw [sizeLine_eq]; decide
theorem op_add_str : OpR X (binaryOp .Add) (fun x y H Q => ∃ i j, x = .str i ∧ y = .str j ∧ i.length + j.length ≤ sizeLine ∧ Q (.str (i ++ j)) H) := by
  intro pins s σ H x y v u Q I rx ry h
  obtain ⟨i, j, rfl, rfl, hz, q⟩ := h
  obtain ⟨t, rfl⟩ := rx
  obtain ⟨t', rfl⟩ := ry
  exact add_str (fun t' tk => ⟨.str (i ++ j), H, I.tok _, ⟨_, rfl⟩, q⟩) hz
theorem vals1 {x : V} {us : List Value} (r : Vals [x] us) : ∃ u, us = [u] ∧ RelV x u := by
  cases r with
  | cons r1 r2 => cases r2; exact ⟨_, rfl, r1⟩
theorem vals2 {x y : V} {us : List Value} (r : Vals [x, y] us) : ∃ u w', us = [u, w'] ∧ RelV x u ∧ RelV y w' := by
  cases r with
  | cons r1 r2 =>
    cases r2 with
    | cons r3 r4 => cases r4; exact ⟨_, _, rfl, r1, r3⟩
theorem call_min2 (hc : X.calm = true) : CallR X (.builtin "min") (fun xs H Q => ∃ i j, xs = [.int i, .int j] ∧ Q (.int (if j < i then j else i)) H) := by
  intro pins s σ H xs us Q I r h
  obtain ⟨i, j, rfl, q⟩ := h
  obtain ⟨u, w', rfl, ⟨t, rfl⟩, ⟨t', rfl⟩⟩ := vals2 r
  refine min_two_ints (I.ok.hd hc) fun h' tk k => ⟨_, H, I.kept k, ?_, q⟩
  by_cases hj : j < i
  · rw [if_pos hj, if_pos hj]; exact ⟨_, rfl⟩
  · rw [if_neg hj, if_neg hj]; exact ⟨_, rfl⟩
theorem call_int1 : CallR X (.type "int") (fun xs H Q => (∃ i, xs = [.int i] ∧ Q (.int i) H) ∨ ∃ k, xs = [.bl k] ∧ Q (.int (if k then 1 else 0)) H) := by
  intro pins s σ H xs us Q I r h
  rcases h with ⟨i, rfl, q⟩ | ⟨k, rfl, q⟩
  · obtain ⟨u, rfl, t, rfl⟩ := vals1 r
    exact call_int_int ⟨.int i, H, I, ⟨_, rfl⟩, q⟩
  · obtain ⟨u, rfl, r1⟩ := vals1 r
    cases r1
    exact call_int_bool ⟨.int (if k then 1 else 0), H, I.tok _, ⟨_, rfl⟩, q⟩
theorem call_str_int : CallR X (.type "str") (fun xs H Q => ∃ i, xs = [.int i] ∧ i.natAbs.log2 < 1920 ∧ Q (.str (toString i)) H) := by
  intro pins s σ H xs us Q I r h
  obtain ⟨i, rfl, hz, q⟩ := h
  obtain ⟨u, rfl, t, rfl⟩ := vals1 r
  exact PySem.P.str_of_int hz ⟨.str _, H, I.tok _, ⟨_, rfl⟩, q⟩
end
end L2
namespace L2
open PySem PySem.Spec PyProof.Rows
structure ObjM (h : Heap) (x dx C : Addr) (mA : Str → Option Value) : Prop where
  obj : h.get? x = some (PySem.W.instObj C dx)
  ns : h.Ns1 dx mA
  ne : dx ≠ x
theorem lookIn_ns {h : Heap} {dx : Addr} {mA : Str → Option Value} (n : h.Ns1 dx mA) : ∃ od, h.get? dx = some od ∧ ∀ name, PySem.W.lookIn name od = some (mA name) := by
  obtain ⟨o, es, ep, ho, hd, hk, _, hm⟩ := n
  refine ⟨o, ho, fun name => ?_⟩
  have e := hm name
  unfold nsFind findBy at e
  rw [← Array.find?_toList] at e
  unfold PySem.W.lookIn
  rw [hd]
  dsimp only
  split
  · rename_i y q
    rw [q] at e
    exact congrArg some e
  · rename_i q
    rw [q] at e
    have a : es.toList.any (·.refKey) = false := by
      rw [List.any_eq_false]
      intro y hy
      obtain ⟨z, t, hkey⟩ := hk y (Array.mem_toList_iff.mp hy)
      simp [DictEntry.refKey, hkey]
    have a' : ¬ es.toList.any (·.refKey) = true := by rw [a]; exact Bool.false_ne_true
    rw [if_neg a']
    exact congrArg some e
theorem ObjM.look {h : Heap} {x dx C : Addr} {mA : Str → Option Value} (I : ObjM h x dx C mA) : ∃ od, PySem.W.InstAt h x (PySem.W.instObj C dx) C (some od) ∧ ∀ name, PySem.W.lookIn name od = some (mA name) :=
  let ⟨od, ho, hl⟩ := lookIn_ns I.ns
  ⟨od, ⟨I.obj, rfl, rfl, ho⟩, hl⟩
section
variable {prog : Program} {w : World} {A : Around} {E : Value → Shared → Prop} {s : Shared} {K : PySem.W.Frag} {x dx C f : Addr} {mA : Str → Option Value} {name : Str} {v : Value}
theorem get_map {expr : Bool} {Q : Value → Shared → Prop} (X : K.In s.heap) (I : ObjM s.heap x dx C mA) (hg : PySem.W.plainGet K C name = true) (hh : PySem.W.hasDictIn K C = true)
    (ha : PySem.W.findIn K (.ref C) name = some none) (hv : mA name = some v) (hv' : PySem.W.handedIn v = true) (h : Q v { s with toks := s.toks + 1 }) :
    wpAny (model prog w) A (getAttr (.ref x) name expr) Q E s := by
  obtain ⟨od, J, hl⟩ := I.look
  exact PySem.W.get_value X J (PySem.W.plainGet_of hg).1 (PySem.W.findObj_own hh ha rfl (by rw [hl, hv])) hv' h
theorem set_map {ns : List Str} {Q : Unit → Shared → Prop} (X : K.In s.heap) (I : ObjM s.heap x dx C mA)
    (hs : PySem.W.findIn K (.ref C) "__setattr__" = some (some (.builtin "object.__setattr__"))) (hp : PySem.W.plainOver K C = true) (ht : PySem.W.takerIn K C name = some none) (hh : PySem.W.hasDictIn K C = true)
    (hw : PySem.Within mA ns) (hsz : ns.length ≤ sizeLine)
    (h : ∀ h', ObjM h' x dx C (fun y => if y = name then some v else mA y) → Heap.SameBut dx s.heap h' → Q () { s with heap := h', toks := s.toks + 2 }) :
    wpAny (model prog w) A (setAttr (.ref x) name v) Q E s := by
  obtain ⟨od, J, hl⟩ := I.look
  refine PySem.W.set_plain X J hs (PySem.W.osa_open (s := { s with toks := s.toks + 1 }) (r := none) X J hp ht fun b => ?_)
  obtain ⟨cd, hc, hd'⟩ := PySem.W.any_some hh
  have hx : s.heap.get? x = some ⟨.ref C, some dx, .plain, #[]⟩ := I.obj
  refine wpAny_bind (wpAny_pure (wpAny_bind (wpAny_bind (wpAny_loadPart hx (wpAny_bind (PySem.W.Looks.here (s := { s with toks := s.toks + 1 }) (PySem.W.looks_clsIn X hc) ?_))))))
  rw [hd']
  refine wpAny_pure (a := some dx) (wpAny_bind (wpAny_pure (wpAny_bind ?_)))
  refine wpAny_nsSet1 (s := { s with toks := s.toks + 1 }) I.ns fun h' hn2 hs2 => ?_
  obtain ⟨oD, esD, epD, hoD, hdD, hcD⟩ := hn2.count (PySem.Within.cons name v hw)
  refine wpAny_bind (wpAny_lookBehind hoD (by rw [hdD]; exact pastItsLine_dict (Nat.le_trans hcD (by rw [List.length_cons]; omega))) ?_)
  exact wpAny_pure (h _ ⟨(hs2.2 _ (Ne.symm I.ne)).trans I.obj, hn2, I.ne⟩ hs2)
theorem make_map {R : Result → Shared → Prop} {vs : List Value} {kw : List (Str × Value)} (X : K.In s.heap) (hm : PySem.W.makesIn K C = true)
    (hi : PySem.W.findIn K (.ref C) "__init__" = some (some (.ref f))) (hf : PySem.W.typeIn K (.ref f) = some (.type "function"))
    (h : codeAny (model prog w) (A.under (.builtin "type.__call__" ⟨.ref C :: vs, kw⟩)) (.call (.ref f) ⟨.ref (s.heap.objs.size + 1) :: vs, kw⟩) (PySem.W.InitBack (s.heap.objs.size + 1) R)
      { s with heap := (s.heap.push PySem.W.emptyDict).push (PySem.W.instObj C s.heap.objs.size) }) :
    codeAny (model prog w) A (.call (.ref C) ⟨vs, kw⟩) R s := by
  obtain ⟨hh, g, d, t, os⟩ := s
  exact PySem.W.make_core (PySem.W.makes_of X hm) (PySem.W.looks_findIn X hi) (fun self => PySem.W.bind_fn X self hf) (.inl rfl) h
end
def putF (f : Str) (v : V) : List (Str × V) → List (Str × V)
  | [] => [(f, v)]
  | (g, x) :: r => if g = f then (g, v) :: r else (g, x) :: putF f v r
theorem lookup_putF (f g : Str) (v : V) : ∀ fs : List (Str × V), (putF f v fs).lookup g = if g = f then some v else fs.lookup g
  | [] => by
    show List.lookup g [(f, v)] = _
    by_cases h : g = f
    · have hb : (g == f) = true := beq_iff_eq.mpr h
      simp only [List.lookup, hb, if_pos h]
    · have hb : (g == f) = false := beq_eq_false_iff_ne.mpr h
      simp only [List.lookup, hb, if_neg h]
  | (k, x) :: r => by
    have ih := lookup_putF f g v r
    rw [show putF f v ((k, x) :: r) = (if k = f then (k, v) :: r else (k, x) :: putF f v r) from rfl]
    by_cases hk : k = f
    · rw [if_pos hk]
      by_cases h : g = k
      · have hb : (g == k) = true := beq_iff_eq.mpr h
        simp only [List.lookup, hb, if_pos (h.trans hk)]
      · have hb : (g == k) = false := beq_eq_false_iff_ne.mpr h
        simp only [List.lookup, hb, if_neg (fun e : g = f => h (e.trans hk.symm))]
    · rw [if_neg hk]
      by_cases h : g = k
      · have hb : (g == k) = true := beq_iff_eq.mpr h
        simp only [List.lookup, hb, if_neg (fun e : g = f => hk (h.symm.trans e))]
      · have hb : (g == k) = false := beq_eq_false_iff_ne.mpr h
        simp only [List.lookup, hb]
        exact ih
theorem keys_putF (f : Str) (v : V) : ∀ fs : List (Str × V), f ∈ (putF f v fs).map (·.1) ∧ ∀ g, g ∈ fs.map (·.1) → g ∈ (putF f v fs).map (·.1)
  | [] => ⟨by simp [putF], fun g h => by simp at h⟩
  | (k, x) :: r => by
    obtain ⟨i1, i2⟩ := keys_putF f v r
    rw [show putF f v ((k, x) :: r) = (if k = f then (k, v) :: r else (k, x) :: putF f v r) from rfl]
    by_cases hk : k = f
    · rw [if_pos hk]
      subst hk
      exact ⟨by simp, fun g h => by simpa using h⟩
    · rw [if_neg hk]
      refine ⟨?_, fun g h => ?_⟩
      · rw [List.map_cons]
        exact List.mem_cons_of_mem _ i1
      · rw [List.map_cons] at h ⊢
        rcases List.mem_cons.mp h with e | e
        · exact List.mem_cons.mpr (.inl e)
        · exact List.mem_cons_of_mem _ (i2 g e)
theorem length_putF (f : Str) (v : V) : ∀ fs : List (Str × V), (putF f v fs).length ≤ fs.length + 1
  | [] => by simp [putF]
  | (k, x) :: r => by
    have ih := length_putF f v r
    rw [show putF f v ((k, x) :: r) = (if k = f then (k, v) :: r else (k, x) :: putF f v r) from rfl]
    by_cases hk : k = f
    · rw [if_pos hk, List.length_cons, List.length_cons]; omega
    · rw [if_neg hk, List.length_cons, List.length_cons]; omega
theorem RelO.some_of {v : V} {o : Option Value} (r : RelO (some v) o) : ∃ u, o = some u ∧ RelV v u := by
  cases o with
  | none => exact (show False from r).elim
  | some u => exact ⟨u, rfl, r⟩
theorem handed_of {v : V} {u : Value} (r : RelV v u) : PySem.W.handedIn u = true := by
  cases v with
  | non => cases (show u = Value.none from r); rfl
  | bl b => cases (show u = Value.bool b from r); rfl
  | int i => obtain ⟨t, e⟩ := (show ∃ t, u = Value.int i t from r); cases e; rfl
  | str x => obtain ⟨t, e⟩ := (show ∃ t, u = Value.str x t from r); cases e; rfl
  | byt b => obtain ⟨t, e⟩ := (show ∃ t, u = Value.bytes b t from r); cases e; rfl
  | flt b => obtain ⟨t, e⟩ := (show ∃ t, u = Value.float b t from r); cases e; rfl
  | ref a => cases (show u = Value.ref a from r); rfl
  | ty n => cases (show u = Value.type n from r); rfl
section
variable {P : Program} {w : World} {H H' : Hp} {h h' : Heap} {a C dx : Addr} {fs fs' : List (Str × V)}
theorem ins_get (hok : HOk P w H h) (e : H a = some (.ins C dx fs)) : ∃ mA, ObjM h a dx C mA ∧ (∀ f, RelO (fs.lookup f) (mA f)) ∧ PySem.Within mA (fs.map (·.1)) ∧ fs.length ≤ 1000 ∧ H dx = some (.own a) := by
  obtain ⟨d, z, ne, ob, mA, n, r, q⟩ := (show ObjOk P w H h a (.ins C dx fs) from hok a _ e)
  exact ⟨mA, ⟨ob, n, ne⟩, r, q, z, d⟩
end
structure Cls (K : PySem.W.Frag) (C : Addr) : Prop where
  pg : PySem.W.plainGet K C Str.empty = true
  hd : PySem.W.hasDictIn K C = true
  po : PySem.W.plainOver K C = true
  sa : PySem.W.findIn K (.ref C) "__setattr__" = some (some (.builtin "object.__setattr__"))
theorem Cls.get {K : PySem.W.Frag} {C : Addr} (c : Cls K C) (f : Str) : PySem.W.plainGet K C f = true := c.pg
def NoAttr (K : PySem.W.Frag) (C : Addr) (f : Str) : Prop := PySem.W.findIn K (.ref C) f = some none
theorem NoAttr.taker {K : PySem.W.Frag} {C : Addr} {f : Str} (n : NoAttr K C f) : PySem.W.takerIn K C f = some none := by
  unfold PySem.W.takerIn
  rw [show PySem.W.findIn K (.ref C) f = some none from n]
  rfl
structure Con (K : PySem.W.Frag) (C : Addr) (f : Str) (v : V) (u : Value) : Prop where
  at_ : PySem.W.findIn K (.ref C) f = some (some u)
  rel : RelV v u
  get : PySem.W.specialIn K u "__get__" = some none
  cp : PySem.W.copiedNames.contains f = false
structure Meth (K : PySem.W.Frag) (C : Addr) (m : Str) (f : Addr) : Prop where
  at_ : PySem.W.findIn K (.ref C) m = some (some (.ref f))
  fn : PySem.W.isFn K (.ref f) = true
  kp : PySem.W.keepIn K (.ref f) = true
section
variable {X : Cx} {pins : List (Addr × Obj)} {σ : St} {H : Hp} {s : Shared} {a C dx : Addr} {fs : List (Str × V)} {f : Str} {v : V} {A : Around} {E : Value → Shared → Prop}
theorem getattr_ok {b : Bool} {Q : Value → Shared → Prop} (I : Inv X pins σ H s) (e : H a = some (.ins C dx fs)) (c : Cls X.K C) (n : NoAttr X.K C f) (l : fs.lookup f = some v)
    (h : ∀ u s', Inv X pins σ H s' → RelV v u → Q u s') : wpAny (model X.prog X.w) A (getAttr (.ref a) f b) Q E s := by
  obtain ⟨mA, O, r, _, _, _⟩ := ins_get I.hok e
  obtain ⟨u, hu, ru⟩ := RelO.some_of (v := v) (o := mA f) (by rw [← l]; exact r f)
  exact get_map I.kIn O (c.get f) c.hd n hu (handed_of ru) (h u _ (I.tok _) ru)
theorem setattr_ok {y : V} {u : Value} {Q : Unit → Shared → Prop} (I : Inv X pins σ H s) (e : H a = some (.ins C dx fs)) (c : Cls X.K C) (n : NoAttr X.K C f) (hl : fs.length < 1000) (ry : RelV y u)
    (h : ∀ s', Inv X pins σ (upd H a (.ins C dx (putF f y fs))) s' → Q () s') : wpAny (model X.prog X.w) A (setAttr (.ref a) f u) Q E s := by
  obtain ⟨mA, O, r, wi, _, ho⟩ := ins_get I.hok e
  have hz : (fs.map (·.1)).length ≤ sizeLine := by rw [List.length_map, sizeLine_eq]; omega
  refine set_map I.kIn O c.sa c.po n.taker c.hd wi hz fun h' O' sb => h _ ?_
  have hd : ∃ o, h'.get? dx = some o := let ⟨o, _, _, e', _⟩ := O'.ns; ⟨o, e'⟩
  refine I.write (x := a) (e := dx) (by rw [e]; exact True.intro) (.inr ho) (fun b q hb z => (sb.2 b hb).trans z) hd ?_
  refine ⟨by rw [upd_ne O.ne]; exact ho, ?_, O.ne, O'.obj, _, O'.ns, fun g => ?_, fun g hg => ?_⟩
  · have := length_putF f y fs; omega
  · show RelO ((putF f y fs).lookup g) (if g = f then some u else mA g)
    rw [lookup_putF]
    by_cases q : g = f
    · rw [if_pos q, if_pos q]; exact ry
    · rw [if_neg q, if_neg q]; exact r g
  · by_cases q : g = f
    · rw [q]; exact (keys_putF f y fs).1
    · refine (keys_putF f y fs).2 g (wi g fun z => hg ?_)
      show (if g = f then some u else mA g) = none
      rw [if_neg q]; exact z
theorem Inv.made (I : Inv X pins σ H s) : Inv X pins σ (upd (upd H s.heap.objs.size (.own (s.heap.objs.size + 1))) (s.heap.objs.size + 1) (.ins C s.heap.objs.size []))
    { s with heap := (s.heap.push PySem.W.emptyDict).push (PySem.W.instObj C s.heap.objs.size) } := by
  have e1 : (s.heap.push PySem.W.emptyDict).get? s.heap.objs.size = some PySem.W.emptyDict := Heap.get?_push_size s.heap rfl
  have e2 : ((s.heap.push PySem.W.emptyDict).push (PySem.W.instObj C s.heap.objs.size)).get? (s.heap.objs.size + 1) = some (PySem.W.instObj C s.heap.objs.size) := by
    have := Heap.get?_push_size (s.heap.push PySem.W.emptyDict) (o := PySem.W.instObj C s.heap.objs.size) rfl
    rwa [Heap.size_push] at this
  have e3 : (s.heap.push PySem.W.emptyDict).Ns s.heap.objs.size (fun _ => none) := ⟨PySem.W.emptyDict, #[], _, e1, rfl, (fun e he => absurd he (by simp)), fun _ => rfl⟩
  have I1 := I.laid (a := s.heap.objs.size) (o := .own (s.heap.objs.size + 1)) (h' := s.heap.push PySem.W.emptyDict) (t' := s.toks) (fun b u q => Heap.get?_push_of_some _ q) (Nat.le_refl _) ⟨_, e1⟩
  refine I1.laid (a := s.heap.objs.size + 1) (o := .ins C s.heap.objs.size []) (t' := s.toks) (fun b u q => Heap.get?_push_of_some _ q) (Nat.le_of_eq (Heap.size_push _ _)) ?_
  have ne : s.heap.objs.size ≠ s.heap.objs.size + 1 := Nat.ne_of_lt (Nat.lt_succ_self _)
  refine ⟨by rw [upd_ne ne, upd_same], Nat.zero_le _, ne, e2, fun _ => none, (Heap.Ns1.of_empty e3).at fun o q => Heap.get?_push_of_some _ q, fun _ => True.intro, fun y hy => absurd rfl hy⟩
theorem attr_of {prog : Program} {w : World} {env : Env} {e : Expr} {f : Str} {pos : Pos} {s : Shared} {Q : Value → Shared → Prop} (hb : attributeBase e f env (eval e env) = eval e env)
    (h : wpAny (model prog w) A (eval e env) (fun o s₁ => wpAny (model prog w) A (getAttr o f true) Q E s₁) E s) : wpAny (model prog w) A (eval (.Attribute e f pos) env) Q E s :=
  Attribute_any_ h (by rw [arm_eval_Attribute, hb])
end
def tFld (K : PySem.W.Frag) (ta : TE) (f : Str) : TE := fun σ H Q => ta σ H fun x H1 => ∃ a C dx fs v, x = .ref a ∧ H1 a = some (.ins C dx fs) ∧ Cls K C ∧ NoAttr K C f ∧ fs.lookup f = some v ∧ Q v H1
def sFld (K : PySem.W.Frag) (ta tv : TE) (f : Str) : TS := fun D σ H => tv σ H fun y H1 => ta σ H1 fun x H2 => ∃ a C dx fs, x = .ref a ∧ H2 a = some (.ins C dx fs) ∧ Cls K C ∧ NoAttr K C f ∧ fs.length < 1000 ∧
  D.nx σ (upd H2 a (.ins C dx (putF f y fs)))
section
variable {X : Cx} {o e value : Expr} {f : Str} {pos pos' tpos : Pos} {ta tv : TE}
theorem pe_fld (he : PE X e ta) (hb : attributeBase e f X.env (eval e X.env) = eval e X.env) : PE X (.Attribute e f pos) (tFld X.K ta f) := by
  intro pins s σ H Q I h
  refine attr_of hb (thn (he pins s σ H _ I h) fun u s1 ⟨x, H1, I1, rx, a, C, dx, fs, v, ex, ea, c, n, l, q⟩ => ?_)
  subst ex
  obtain rfl : u = Value.ref a := rx
  exact getattr_ok I1 ea c n l fun u' s2 I2 ru => ⟨v, H1, I2, ru, q⟩
theorem ps_fld (ha : PE X o ta) (hv : PE X value tv) (hs : swapsWith value (some (.Attribute o f pos')) pos.line X.env = pure false) : PS X (.Assign [.Attribute o f pos'] value pos) (sFld X.K ta tv f) := by
  intro pins s σ H D I h
  refine plainObj_wpAny_Assign_Attribute (thn (hv pins s σ H _ I h) fun u s1 ⟨y, H1, I1, ry, q⟩ => thn (ha pins s1 σ H1 _ I1 q) fun ov s2 ⟨x, H2, I2, rx, a, C, dx, fs, ex, ea, c, n, l, q2⟩ => ?_) hs
  subst ex
  obtain rfl : ov = Value.ref a := rx
  exact setattr_ok I2 ea c n l ry fun s3 I3 => ⟨σ, _, I3, q2⟩
end
section
variable {X : Cx} {pins : List (Addr × Obj)} {σ : St} {H : Hp} {s : Shared} {A : Around} {E : Value → Shared → Prop} {Q : Value → Shared → Prop} {c : Value} {b : Bool}
inductive TyOf (K : PySem.W.Frag) (H : Hp) : V → Value → Prop where
  | non : TyOf K H .non (.type "NoneType")
  | bl (x : Bool) : TyOf K H (.bl x) (.type "bool")
  | int (i : Int) : TyOf K H (.int i) (.type "int")
  | str (x : Str) : TyOf K H (.str x) (.type "str")
  | flt (x : UInt64) : TyOf K H (.flt x) (.type "float")
  | lst {a : Addr} {xs : List V} (e : H a = some (.lst xs)) : TyOf K H (.ref a) (.type "list")
  | frz {a : Addr} {o : Obj} {xs : List V} (e : H a = some (.frz o (.lst xs))) : TyOf K H (.ref a) (.type "list")
  | tup {a : Addr} {xs : List V} (e : H a = some (.tup xs)) : TyOf K H (.ref a) (.type "tuple")
  | dK {a : Addr} {kvs : List (Key × V)} (e : H a = some (.dK kvs)) : TyOf K H (.ref a) (.type "dict")
  | dT {a : Addr} {kvs : List (List Key × V)} (e : H a = some (.dT kvs)) : TyOf K H (.ref a) (.type "dict")
  | ins {a C dx : Addr} {fs : List (Str × V)} (e : H a = some (.ins C dx fs)) (cl : Cls K C) (ha : PySem.W.findIn K (.ref C) "__class__" = some (some (.builtin "object.__class__")))
      (hn : PySem.W.specialIn K (.builtin "object.__class__") "__get__" = some (some (.builtin "getset_descriptor.__get__"))) (htk : PySem.W.takesIn K (.builtin "object.__class__") = some true)
      (hm : PySem.W.mroIn K C (.type "object") = some true) : TyOf K H (.ref a) (.ref C)
theorem isinst_ok {x : V} {u t : Value} (I : Inv X pins σ H s) (rx : RelV x u) (ty : TyOf X.K H x t) (e : PySem.W.kitOne X.K t c = some b) (h : ∀ tk, Q (.bool b) { s with toks := tk }) :
    wpAny (model X.prog X.w) A (call (.builtin "isinstance") [u, c]) Q E s := by
  cases ty with
  | non => cases (show u = Value.none from rx); exact PySem.W.kia_one PySem.W.kitx_none I.kIn True.intro e (fun z => nomatch z) h
  | bl y => cases (show u = Value.bool y from rx); exact PySem.W.kia_one PySem.W.kitx_bool I.kIn True.intro e (fun z => nomatch z) h
  | int i => obtain ⟨t, q⟩ := (show ∃ t, u = Value.int i t from rx); cases q; exact PySem.W.kia_one PySem.W.kitx_int I.kIn True.intro e (fun z => nomatch z) h
  | str y => obtain ⟨t, q⟩ := (show ∃ t, u = Value.str y t from rx); cases q; exact PySem.W.kia_one PySem.W.kitx_str I.kIn True.intro e (fun z => nomatch z) h
  | flt y => obtain ⟨t, q⟩ := (show ∃ t, u = Value.float y t from rx); cases q; exact PySem.W.kia_one PySem.W.kitx_float I.kIn True.intro e (fun z => nomatch z) h
  | @lst a xs ea =>
    cases (show u = Value.ref a from rx)
    obtain ⟨_, _, n, _, h1⟩ := (show ObjOk X.prog X.w H s.heap a (.lst xs) from I.hok a _ ea)
    exact PySem.W.kia_one PySem.W.kitx_list I.kIn ⟨_, h1, rfl⟩ e (fun z => nomatch z) h
  | @frz a ob xs ea =>
    cases (show u = Value.ref a from rx)
    obtain ⟨_, _, _, n, _, h1⟩ := (show ObjOk X.prog X.w H s.heap a (.frz ob (.lst xs)) from I.hok a _ ea)
    exact PySem.W.kia_one PySem.W.kitx_list I.kIn ⟨_, h1, rfl⟩ e (fun z => nomatch z) h
  | @tup a xs ea =>
    cases (show u = Value.ref a from rx)
    obtain ⟨_, _, _, p⟩ := (show ObjOk X.prog X.w H s.heap a (.tup xs) from I.hok a _ ea)
    obtain ⟨o, h1, h2, _⟩ := p
    exact PySem.W.kia_one PySem.W.kitx_tuple I.kIn ⟨o, h1, h2⟩ e (fun z => nomatch z) h
  | @dK a kvs ea =>
    cases (show u = Value.ref a from rx)
    obtain ⟨_, _, vs, _, p⟩ := (show ObjOk X.prog X.w H s.heap a (.dK kvs) from I.hok a _ ea)
    obtain ⟨o, es, ep, h1, h2, _⟩ := p
    exact PySem.W.kia_one PySem.W.kitx_dict I.kIn ⟨o, h1, h2.1⟩ e (fun z => nomatch z) h
  | @dT a kvs ea =>
    cases (show u = Value.ref a from rx)
    obtain ⟨_, _, xs, _, o, es, ep, h1, h2, _⟩ := (show ObjOk X.prog X.w H s.heap a (.dT kvs) from I.hok a _ ea)
    exact PySem.W.kia_one PySem.W.kitx_dict I.kIn ⟨o, h1, h2.1⟩ e (fun z => nomatch z) h
  | @ins a C dx fs ea cl ha hn htk hm =>
    cases (show u = Value.ref a from rx)
    obtain ⟨mA, O, _⟩ := ins_get I.hok ea
    obtain ⟨od, J, _⟩ := O.look
    exact PySem.W.kia_one (PySem.W.kitx_own (cl.get _) cl.hd ha hn htk hm) I.kIn J e (fun z => nomatch z) h
end
end L2
namespace L2
open PySem PySem.Spec PyProof.Rows
structure Room (k : Nat) (A : Around) : Prop where
  hd : A.handled = none
  dp : A.depth + 3 * k + 5 < recursionLimit
  un : A.units + 16 * k + 200 < cLine
theorem Room.mono {j k : Nat} {A : Around} (r : Room k A) (h : j ≤ k) : Room j A := ⟨r.hd, by have := r.dp; omega, by have := r.un; omega⟩
theorem Room.deeper {k : Nat} {A : Around} (r : Room (k + 1) A) (env : Env) : Room k (A.deeper env) :=
  ⟨r.hd, by have := r.dp; show A.depth + 1 + 3 * k + 5 < _; omega, by have := r.un; show A.units + 3 + 16 * k + 200 < _; omega⟩
theorem make_depth {A : Around} {C : Addr} {us : List Value} {kw : List (Str × Value)} : (A.under (.builtin "type.__call__" ⟨.ref C :: us, kw⟩)).depth = A.depth + 1 := by
  first | rfl | simp [Around.under, Code.weight, Code.isCreation, Code.isGuard, Code.isCaller, Code.frames, Code.isFrame, guardIds]
theorem make_units {A : Around} {C : Addr} {us : List Value} {kw : List (Str × Value)} : (A.under (.builtin "type.__call__" ⟨.ref C :: us, kw⟩)).units = A.units + 1 := by
  first | rfl | simp [Around.under, Code.cUnits, Code.frames, Code.isFrame]
theorem Room.make {k : Nat} {A : Around} (r : Room (k + 1) A) (C : Addr) (us : List Value) (kw : List (Str × Value)) : Room k (A.under (.builtin "type.__call__" ⟨.ref C :: us, kw⟩)) :=
  ⟨r.hd, by have := r.dp; rw [make_depth]; omega, by have := r.un; rw [make_units]; omega⟩
theorem Room.depth {k : Nat} {A : Around} (r : Room k A) : A.depth < recursionLimit := by have := r.dp; omega
theorem Room.units {k : Nat} {A : Around} (r : Room k A) : A.units + 64 < cLine := by have := r.un; omega
def tNil : TA := fun _ H Q => Q [] H
def tCons (ta : TE) (tr : TA) : TA := fun σ H Q => ta σ H fun x H1 => tr σ H1 fun xs H2 => Q (x :: xs) H2
section
variable {X : Cx} {e : Expr} {es : List Expr} {te : TE} {t : TA} {pos : Pos}
theorem pa_nil : PA X [] tNil := fun _ _ _ _ H Q I h => Calls.spliced_nil ⟨[], H, I, .nil, h⟩
theorem pa_cons (ha : PE X e te) (hr : PA X es t) (hs : starEach (e :: es) X.env = (false, eval e X.env) :: starEach es X.env := by rfl) : PA X (e :: es) (tCons te t) := by
  intro pos pins s σ H Q I h
  rw [hs]
  show wpAny _ _ (spliced ((false, eval e X.env) :: backTo pos (starEach es X.env))) _ _ s
  refine Calls.spliced_cons (thn (ha pins s σ H _ I h) fun u s1 ⟨x, H1, I1, r1, q1⟩ => ?_)
  exact thn (hr pos pins s1 σ H1 _ I1 q1) fun us s2 ⟨xs, H2, I2, r2, q2⟩ => ⟨x :: xs, H2, I2, .cons r1 r2, q2⟩
def tTup (t : TA) : TE := fun σ H Q => t σ H fun xs H1 => xs.length ≤ sizeLine ∧ ∀ p, H1 p = none → Q (.ref p) (upd H1 p (.tup xs))
def tLst (t : TA) : TE := fun σ H Q => t σ H fun xs H1 => xs.length ≤ sizeLine ∧ ∀ p, H1 p = none → Q (.ref p) (upd H1 p (.lst xs))
theorem pe_tup {x1} (h : PA X es t) : PE X (.Tuple es x1 pos) (tTup t) := by
  intro pins s σ H Q I hq
  refine wpAny_Tuple_spliced (thn (h pos pins s σ H _ I hq) fun us s1 ⟨xs, H1, I1, r, z, q⟩ => ⟨by rw [← r.length]; exact z, ?_⟩)
  have hf : H1 s1.heap.objs.size = none := I1.hok.fresh (Nat.le_refl _)
  refine ⟨.ref s1.heap.objs.size, upd H1 s1.heap.objs.size (.tup xs), I1.laid (t' := s1.toks) (fun b u e => Heap.get?_push_of_some _ e) (Nat.le_refl _) ?_, rfl, q _ hf⟩
  exact ⟨z, us, r, ⟨_, Heap.get?_push_size _ rfl, rfl, _, rfl⟩⟩
theorem pe_lst (h : PA X es t) : PE X (.List es pos) (tLst t) := by
  intro pins s σ H Q I hq
  refine wpAny_List_spliced (thn (h pos pins s σ H _ I hq) fun us s1 ⟨xs, H1, I1, r, z, q⟩ => ⟨by rw [← r.length]; exact z, ?_⟩)
  have hf : H1 s1.heap.objs.size = none := I1.hok.fresh (Nat.le_refl _)
  refine ⟨.ref s1.heap.objs.size, upd H1 s1.heap.objs.size (.lst xs), I1.laid (t' := s1.toks) (fun b u e => Heap.get?_push_of_some _ e) (Nat.le_refl _) ?_, rfl, q _ hf⟩
  exact ⟨z, us, 0, r, Heap.get?_push_size _ rfl⟩
end
abbrev Sp := List V → Hp → VK → XK → Prop
abbrev CXT := List Env → Hp → Shared → XK → Value → Shared → Prop
structure Env0 (P : Program) (w : World) (K : PySem.W.Frag) (mg : Str → Option Value) (base : Heap) (A : Around) (outer : List Env) (s : Shared) (H : Hp) : Prop where
  frames : A.frames = some outer
  mod : Mod K mg base
  bs : ∀ b o, base.get? b = some o → s.heap.get? b = some o ∧ H b = none
  bsz : base.objs.size ≤ s.heap.objs.size
  funs : s.heap.FunFrames base outer
  frf : ∀ b ∈ frs outer, H b = none
  hok : HOk P w H s.heap
  bare : AllBare s.gens
def CE (outer : List Env) (P : Program) (w : World) (H : Hp) (s : Shared) (Q : VK) (u : Value) (s' : Shared) : Prop :=
  ∃ v H', s'.os = s.os ∧ AllBare s'.gens ∧ Un (frs outer) [] H H' s.heap s'.heap ∧ HOk P w H' s'.heap ∧ RelV v u ∧ Q v H'
def CR (CX : CXT) (outer : List Env) (P : Program) (w : World) (H : Hp) (s : Shared) (Q : VK) (E : XK) (r : Result) (s' : Shared) : Prop :=
  match r with
  | .ok (.ret u) => CE outer P w H s Q u s'
  | .ok _ => False
  | .error e => CX outer H s E e s'
structure FnOk (P : Program) (w : World) (K : PySem.W.Frag) (mg : Str → Option Value) (base : Heap) (CX : CXT) (k : Nat) (f : Addr) (fd : FuncData) (ps : List Str) (sp : Sp) : Prop where
  len : ∀ vs H Q E, sp vs H Q E → vs.length = ps.length
  run : ∀ (A : Around) (outer : List Env) (s : Shared) (H : Hp) (args : Args) (us : List Value) (vs : List V) (Q : VK) (E : XK), Room k A → Env0 P w K mg base A outer s H → BindsTo s fd args (ps.zip us) → Vals vs us → sp vs H Q E →
    codeAny (model P w) A (.call (.ref f) args) (CR CX outer P w H s Q E) s
theorem Env0.make {P : Program} {w : World} {K : PySem.W.Frag} {mg : Str → Option Value} {base : Heap} {A : Around} {outer : List Env} {s : Shared} {H : Hp} (e : Env0 P w K mg base A outer s H) (C : Addr) (us : List Value) (kw : List (Str × Value)) :
    Env0 P w K mg base (A.under (.builtin "type.__call__" ⟨.ref C :: us, kw⟩)) outer s H := ⟨by first | exact e.frames | (simpa [Around.under, Code.envs, Code.isFrame, pushEnvs] using e.frames), e.mod, e.bs, e.bsz, e.funs, e.frf, e.hok, e.bare⟩
section
variable {X : Cx} {pins : List (Addr × Obj)} {σ : St} {H : Hp} {s s' : Shared}
theorem Inv.env0 (I : Inv X pins σ H s) : Env0 X.prog X.w X.K X.mg X.base X.A X.stack s H :=
  ⟨I.ok.frames, I.ok.mod, I.bs, Nat.le_trans I.ok.bsz I.sz, I.stack, I.stkFree, I.hok, I.bare⟩
theorem Inv.after {Q : VK} {u : Value} (I : Inv X pins σ H s) (h : CE X.stack X.prog X.w H s Q u s') : EP X pins σ Q u s' := by
  obtain ⟨v, H', os, bare, un, hok, r, q⟩ := h
  obtain ⟨hh, g, d, t, os'⟩ := s'
  obtain rfl : os' = s.os := os
  exact ⟨v, H', I.call (h' := hh) (g' := g) (d' := d) (t' := t) (ch := []) un hok bare (fun b z => absurd z (by simp)), r, q⟩
end
def tCall (sp : Sp) (dvs : List V) (E : XK) (t : TA) : TE := fun σ H Q => t σ H fun vs H1 => sp (vs ++ dvs) H1 Q E
def tMake (C : Addr) (sp : Sp) (dvs : List V) (E : XK) (t : TA) : TE := fun σ H Q => t σ H fun vs H1 => ∀ x dx, H1 x = none → H1 dx = none → dx ≠ x →
  sp (.ref x :: (vs ++ dvs)) (upd (upd H1 dx (.own x)) x (.ins C dx [])) (fun v H2 => v = .non ∧ Q (.ref x) H2) E
def Binds (K : PySem.W.Frag) (fd : FuncData) (ps : List Str) (ds : List Value) : Prop :=
  ∀ (s : Shared) (us : List Value), K.In s.heap → (us ++ ds).length = ps.length → BindsTo s fd ⟨us, []⟩ (ps.zip (us ++ ds))
theorem Binds.all {K : PySem.W.Frag} {fd : FuncData} {ps : List Str} (h : ∀ us : List Value, us.length = ps.length → bindArgs fd ⟨us, []⟩ = pure (ps.zip us)) : Binds K fd ps [] := fun s us _ hl => by
  rw [List.append_nil] at hl ⊢
  exact .of_eq (h us hl)
def Passes (CX : CXT) (X : Cx) (E : XK) : Prop := ∀ (pins : List (Addr × Obj)) (σ : St) (H : Hp) (s : Shared) (e : Value) (s' : Shared), Inv X pins σ H s → CX X.stack H s E e s' → X.xe e s'
section
variable {X : Cx} {CX : CXT} {k : Nat} {f C : Addr} {fd : FuncData} {ps : List Str} {sp : Sp} {dvs : List V} {ds : List Value} {E : XK} {x m : Str} {p pos apos : Pos} {e o : Expr} {es : List Expr} {ta : TE} {t : TA}
theorem run_fn {pins : List (Addr × Obj)} {σ : St} {H : Hp} {s : Shared} {Q : VK} {us : List Value} {vs : List V} (F : FnOk X.prog X.w X.K X.mg X.base CX k f fd ps sp) (hr : Room k X.A) (hb : Binds X.K fd ps ds) (hd : Vals dvs ds) (hx : Passes CX X E)
    (I : Inv X pins σ H s) (r : Vals vs us) (h : sp (vs ++ dvs) H Q E) : wpAny (model X.prog X.w) X.A (call (.ref f) us) (EP X pins σ Q) X.xe s := by
  have r2 : Vals (vs ++ dvs) (us ++ ds) := r.append hd
  have hl : (us ++ ds).length = ps.length := by rw [← r2.length]; exact F.len _ _ _ _ h
  refine wpAny_call (codeAny_mono (F.run X.A X.stack s H ⟨us, []⟩ (us ++ ds) (vs ++ dvs) Q E hr I.env0 (hb s us I.kIn hl) r2 h) fun r s' hq => ?_)
  cases r with
  | error e => exact hx pins σ H s e s' I hq
  | ok fl =>
    cases fl with
    | ret u => exact I.after hq
    | next => exact False.elim hq
    | brk => exact False.elim hq
    | cont => exact False.elim hq
theorem pe_call (F : FnOk X.prog X.w X.K X.mg X.base CX k f fd ps sp) (hr : Room k X.A) (hg : Gl X x) (hm : X.mg x = some (.ref f)) (hk : PySem.W.keepIn X.K (.ref f) = true) (hb : Binds X.K fd ps ds) (hd : Vals dvs ds) (hx : Passes CX X E)
    (ha : PA X (e :: es) t) (hdb : (x == ("__debug__" : Str)) = false := by decide) (he : starEach (e :: es) X.env = (false, eval e X.env) :: starEach es X.env := by rfl) (hpl : (backTo pos (starEach es X.env)).any (·.1) = false := by rfl) :
    PE X (.Call (.Name x p) (e :: es) [] pos) (tCall sp dvs E t) := by
  intro pins s σ H Q I h
  refine wpAny_Call_Name_kw (ld_glob I hg hm ?_ hdb)
  refine PySem.W.callWith_K (h₀ := X.base) I.ok.mod.kin hk (thn (ha pos pins s σ H _ I h) fun us s1 ⟨vs, H1, I1, r, q⟩ => ⟨I1.kIn, ?_⟩) he hpl
  exact run_fn F hr hb hd hx I1 r q
structure Mk (K : PySem.W.Frag) (C f : Addr) : Prop where
  makes : PySem.W.makesIn K C = true
  init : PySem.W.findIn K (.ref C) "__init__" = some (some (.ref f))
  fn : PySem.W.isFn K (.ref f) = true
  kp : PySem.W.keepIn K (.ref C) = true
theorem run_make {pins : List (Addr × Obj)} {σ : St} {H : Hp} {s : Shared} {Q : VK} {us : List Value} {vs : List V} (M : Mk X.K C f) (F : FnOk X.prog X.w X.K X.mg X.base CX k f fd ps sp) (hr : Room (k + 1) X.A) (hb : Binds X.K fd ps ds) (hd : Vals dvs ds)
    (hx : Passes CX X E) (I : Inv X pins σ H s) (r : Vals vs us)
    (h : ∀ x dx, H x = none → H dx = none → dx ≠ x → sp (.ref x :: (vs ++ dvs)) (upd (upd H dx (.own x)) x (.ins C dx [])) (fun v H2 => v = .non ∧ Q (.ref x) H2) E) :
    wpAny (model X.prog X.w) X.A (call (.ref C) us) (EP X pins σ Q) X.xe s := by
  have hq := h (s.heap.objs.size + 1) s.heap.objs.size (I.hok.fresh (Nat.le_succ _)) (I.hok.fresh (Nat.le_refl _)) (Nat.ne_of_lt (Nat.lt_succ_self _))
  have I2 := Inv.made (C := C) I
  have r2 : Vals (V.ref (s.heap.objs.size + 1) :: (vs ++ dvs)) (Value.ref (s.heap.objs.size + 1) :: (us ++ ds)) := .cons rfl (r.append hd)
  have hl : (Value.ref (s.heap.objs.size + 1) :: us ++ ds).length = ps.length := by
    have e := r2.length
    rw [F.len _ _ _ _ hq] at e
    exact e.symm
  refine wpAny_call (make_map (f := f) I.kIn M.makes M.init (beq_iff_eq.mp M.fn) (codeAny_mono (F.run _ X.stack _ _ ⟨Value.ref (s.heap.objs.size + 1) :: us, []⟩ (Value.ref (s.heap.objs.size + 1) :: (us ++ ds)) _ _ E (hr.make C us [])
    (I2.env0.make C us []) (hb _ (Value.ref (s.heap.objs.size + 1) :: us) I2.kIn hl) r2 hq) fun r s' hq' => ?_))
  cases r with
  | error e => exact hx pins σ _ _ e s' I2 hq'
  | ok fl =>
    cases fl with
    | ret u =>
      obtain ⟨v, H', I3, rv, ev, q3⟩ := I2.after hq'
      subst ev
      exact ⟨rv, ⟨V.ref (s.heap.objs.size + 1), H', I3, rfl, q3⟩⟩
    | next => exact False.elim hq'
    | brk => exact False.elim hq'
    | cont => exact False.elim hq'
theorem pe_make (M : Mk X.K C f) (F : FnOk X.prog X.w X.K X.mg X.base CX k f fd ps sp) (hr : Room (k + 1) X.A) (hg : Gl X x) (hm : X.mg x = some (.ref C)) (hb : Binds X.K fd ps ds) (hd : Vals dvs ds) (hx : Passes CX X E)
    (ha : PA X (e :: es) t) (hdb : (x == ("__debug__" : Str)) = false := by decide) (he : starEach (e :: es) X.env = (false, eval e X.env) :: starEach es X.env := by rfl) (hpl : (backTo pos (starEach es X.env)).any (·.1) = false := by rfl) :
    PE X (.Call (.Name x p) (e :: es) [] pos) (tMake C sp dvs E t) := by
  intro pins s σ H Q I h
  refine wpAny_Call_Name_kw (ld_glob I hg hm ?_ hdb)
  refine PySem.W.callWith_K (h₀ := X.base) I.ok.mod.kin M.kp (thn (ha pos pins s σ H _ I h) fun us s1 ⟨vs, H1, I1, r, q⟩ => ⟨I1.kIn, ?_⟩) he hpl
  exact run_make M F hr hb hd hx I1 r q
end
section
variable {X : Cx} {CX : CXT} {k : Nat} {f C : Addr} {fd : FuncData} {ps ks : List Str} {sp : Sp} {E : XK} {x m : Str} {p pos apos kpos : Pos} {e o : Expr} {es : List Expr} {kws : List Keyword} {te ta : TE} {t tk : TA} {nm : Option Str}
structure KBinds (K : PySem.W.Frag) (fd : FuncData) (ps ks : List Str) (g : List Value → List Value → List Value) (gV : List V → List V → List V) : Prop where
  to : ∀ (s : Shared) (us ws : List Value), K.In s.heap → (g us ws).length = ps.length → BindsTo s fd ⟨us, ks.zip ws⟩ (ps.zip (g us ws))
  rel : ∀ {vs : List V} {us : List Value} {zs : List V} {ws : List Value}, Vals vs us → Vals zs ws → Vals (gV vs zs) (g us ws)
variable {g : List Value → List Value → List Value} {gV : List V → List V → List V}
end
structure FnScope (N P : List Str) (sc : Scope) : Prop where
  kind : sc.kind = .function
  co : sc.isCoroutine = false
  gen : sc.isGenerator = false
  nd : N.Nodup
  pre : N.take P.length = P
  par : ∀ x ∈ P, sc.names.lookup x = some .local ∨ sc.names.lookup x = some .cell
  nofree : ∀ y ∈ sc.names, y.2 ≠ .free
theorem bindL_out {kindOf : Str → Option NameKind} {x : Str} : ∀ {binds : List (Str × Value)} {m : Str → Option Value}, (∀ v, (x, v) ∉ binds) → bindL kindOf binds m x = m x
  | [], _, _ => rfl
  | (n, v) :: r, m, h => by
    unfold bindL
    rw [bindL_out fun w hw => h w (List.mem_cons_of_mem _ hw)]
    split
    · have : x ≠ n := by rintro rfl; exact h v List.mem_cons_self
      simp [this]
    · rfl
theorem bindC_out {kindOf : Str → Option NameKind} {x : Str} : ∀ {binds : List (Str × Value)} {m : Str → Option Value}, (∀ v, (x, v) ∉ binds) → bindC kindOf binds m x = m x
  | [], _, _ => rfl
  | (n, v) :: r, m, h => by
    unfold bindC
    rw [bindC_out fun w hw => h w (List.mem_cons_of_mem _ hw)]
    split
    · rfl
    · have : x ≠ n := by rintro rfl; exact h v List.mem_cons_self
      simp [this]
theorem bindL_get {kindOf : Str → Option NameKind} {x : Str} {v : Value} : ∀ {P : List Str} {vs : List Value} {i : Nat} {m : Str → Option Value}, P.Nodup → P[i]? = some x → vs[i]? = some v → kindOf x = some .local →
    bindL kindOf (P.zip vs) m x = some v
  | [], _, _, _, _, h, _, _ => by simp at h
  | _ :: _, [], _, _, _, _, h, _ => by simp at h
  | p :: P, w :: vs, 0, m, nd, h1, h2, hk => by
    simp at h1 h2; subst h1; subst h2
    show bindL kindOf ((p, w) :: P.zip vs) m p = _
    unfold bindL
    rw [bindL_out fun v hv => (List.nodup_cons.mp nd).1 (List.of_mem_zip hv).1, if_pos hk]
    simp
  | p :: P, w :: vs, i + 1, m, nd, h1, h2, hk => by
    show bindL kindOf ((p, w) :: P.zip vs) m x = _
    unfold bindL
    exact bindL_get (i := i) (List.nodup_cons.mp nd).2 (by simpa using h1) (by simpa using h2) hk
theorem bindC_get {kindOf : Str → Option NameKind} {x : Str} {v : Value} : ∀ {P : List Str} {vs : List Value} {i : Nat} {m : Str → Option Value}, P.Nodup → P[i]? = some x → vs[i]? = some v → kindOf x ≠ some .local →
    bindC kindOf (P.zip vs) m x = some v
  | [], _, _, _, _, h, _, _ => by simp at h
  | _ :: _, [], _, _, _, _, h, _ => by simp at h
  | p :: P, w :: vs, 0, m, nd, h1, h2, hk => by
    simp at h1 h2; subst h1; subst h2
    show bindC kindOf ((p, w) :: P.zip vs) m p = _
    unfold bindC
    rw [bindC_out fun v hv => (List.nodup_cons.mp nd).1 (List.of_mem_zip hv).1, if_neg hk]
    simp
  | p :: P, w :: vs, i + 1, m, nd, h1, h2, hk => by
    show bindC kindOf ((p, w) :: P.zip vs) m x = _
    unfold bindC
    exact bindC_get (i := i) (List.nodup_cons.mp nd).2 (by simpa using h1) (by simpa using h2) hk
def start (N : List Str) (vs : List V) : St := vs.map some ++ List.replicate (N.length - vs.length) none
def cxOf (CX : CXT) (P : Program) (w : World) (K : PySem.W.Frag) (mg : Str → Option Value) (base : Heap) (N : List Str) (qual : Str) (scope : Scope) (f : Addr) (cd : Value) (A : Around) (outer : List Env) (s : Shared) (H : Hp) (E : XK) : Cx where
  prog := P
  w := w
  K := K
  mg := mg
  base := base
  A := A.deeper (envOfC qual scope s.heap.objs.size f cd)
  N := N
  s₀ := s
  H₀ := H
  env := envOfC qual scope s.heap.objs.size f cd
  outer := outer
  stack := envOfC qual scope s.heap.objs.size f cd :: outer
  ex := []
  calm := true
  fn := fun _ => true
  pn := []
  xe := fun e s' => wpAny (model P w) (A.deeper (envOfC qual scope s.heap.objs.size f cd)) (leaving (envOfC qual scope s.heap.objs.size f cd) e) (fun _ s'' => CX outer H s E e s'') (fun e' s'' => CX outer H s E e' s'') s'
theorem cell_has {sc : Scope} {n : Nat} {x : Str} (h : sc.names.lookup x = some .cell) : ∃ c, (cellsFrom n sc.names []).lookup x = some c := by
  have q := PySem.W.cellsFrom_some sc.names n [] (.inl h)
  exact Option.isSome_iff_exists.mp q
theorem inv_start {CX : CXT} {P : Program} {w : World} {K : PySem.W.Frag} {mg : Str → Option Value} {base : Heap} {N ps : List Str} {qual : Str} {scope : Scope} {f : Addr} {cd : Value} {A : Around} {outer : List Env} {s s1 : Shared} {H : Hp} {E : XK} {us : List Value} {vs : List V}
    (S : FnScope N ps scope) (hd : A.handled = none) (e0 : Env0 P w K mg base A outer s H) (hl : vs.length = ps.length) (r : Vals vs us)
    (x : InCallC s s.heap.objs.size (bindL (envOfC qual scope s.heap.objs.size f cd).kindOf (ps.zip us) fun _ => none) (cellsFrom (s.heap.objs.size + 1) scope.names []) (bindC (envOfC qual scope s.heap.objs.size f cd).kindOf (ps.zip us) fun _ => none) s1) :
    Inv (cxOf CX P w K mg base N qual scope f cd A outer s H E) [] (start N vs) H s1 := by
  have hpl : ps.length ≤ N.length := by have := congrArg List.length S.pre; rw [List.length_take] at this; omega
  obtain ⟨h1, tk, rfl, hk⟩ := x.done
  have noA : ∀ b : Addr, b ∉ (cxOf CX P w K mg base N qual scope f cd A outer s H E).ex := fun b z => absurd (show b ∈ ([] : List Addr) from z) (by simp)
  refine ⟨⟨e0.mod, S.kind, rfl, rfl, Nat.le_refl _, fun y z c h1 h2 => ?_, fun y hy => ?_, fun y c _ h => ?_, fun _ => hd, Around.frames_deeper e0.frames, .inr ⟨rfl, rfl⟩, fun b z => absurd z (noA b), e0.bs, e0.bsz, fun b _ _ => noA b, fun b z => absurd z (noA b), e0.funs, e0.frf⟩,
    rfl, e0.bare, Un.kept hk, ⟨_, x.toInCall.ns, fun i y v h1 h2 h3 => ?_⟩, fun y c h => ⟨_, x.cell y c h⟩, e0.hok.fresh (Nat.le_refl _), fun y c h => ?_, fun p hp => absurd (show p ∈ ([] : List (Addr × Obj)) from hp) (by simp), e0.hok.kept hk, ?_⟩
  · exact name_of_addr x.apart (PySem.mem_of_lookup h1) (PySem.mem_of_lookup h2)
  · have hy : scope.names.lookup y = some .cell ∨ scope.names.lookup y = some .free := hy
    rcases hy with hy | hy
    · exact cell_has hy
    · exact absurd rfl (S.nofree _ (PySem.mem_of_lookup hy))
  · exact Nat.le_of_lt (x.above y c (PySem.mem_of_lookup h))
  · have hi : i < vs.length := by
      unfold start at h2
      by_cases hi : i < vs.length
      · exact hi
      · rw [List.getElem?_append_right (by simpa using hi)] at h2
        rw [List.getElem?_replicate] at h2
        split at h2 <;> cases h2
    have ha : vs[i]? = some v := by
      unfold start at h2
      rw [List.getElem?_append_left (by simpa using hi), List.getElem?_map] at h2
      cases e : vs[i]? with
      | none => rw [e] at h2; cases h2
      | some a => rw [e] at h2; cases h2; rfl
    obtain ⟨u, hu, rv⟩ := r.get ha
    have hp : ps[i]? = some y := by
      rw [← S.pre, List.getElem?_take_of_lt (by omega)]; exact h1
    have ndP : ps.Nodup := by rw [← S.pre]; exact S.nd.sublist (List.take_sublist _ _)
    refine ⟨u, rv, ?_⟩
    rcases S.par y (List.mem_of_getElem? hp) with k | k
    · exact .inl ⟨k, bindL_get ndP hp hu k⟩
    · obtain ⟨c, e⟩ := cell_has (n := s.heap.objs.size + 1) k
      refine .inr ⟨.inl k, c, e, ?_⟩
      have q := x.cell y c e
      rw [bindC_get ndP hp hu (by show scope.names.lookup y ≠ _; rw [k]; decide)] at q
      exact q
  · exact e0.hok.fresh (Nat.le_of_lt (x.above y c (PySem.mem_of_lookup h)))
  · unfold start
    show _ = N.length
    rw [List.length_append, List.length_map, List.length_replicate]
    omega
theorem fn_of {CX : CXT} {P : Program} {w : World} {K : PySem.W.Frag} {mg : Str → Option Value} {base : Heap} {k : Nat} {f : Addr} {name qual : Str} {params : Arguments} {body : List Stmt} {scope : Scope} {dV kV doc pm cdv ct oc : Value} {an od : Option Addr}
    {osl : Array (Option Value)} {N ps : List Str} {sp : Sp} (lk : K.lookup f = some ⟨oc, od, .func (PySem.W.fnOf name qual params body scope dV kV doc pm an cdv ct), osl⟩) (hcd : PySem.W.codeIn K cdv qual = true) (S : FnScope N ps scope)
    (len : ∀ vs H Q E, sp vs H Q E → vs.length = ps.length)
    (hbody : ∀ (A : Around) (outer : List Env) (s : Shared) (H : Hp) (vs : List V) (Q : VK) (E : XK), Room k (A.deeper (envOfC qual scope s.heap.objs.size f cdv)) → sp vs H Q E →
      ∃ t, PSs (cxOf CX P w K mg base N qual scope f cdv A outer s H E) body t ∧ t { nx := fun _ H' => Q .non H', rt := Q } (start N vs) H) :
    FnOk P w K mg base CX (k + 1) f (PySem.W.fnOf name qual params body scope dV kV doc pm an cdv ct) ps sp := by
  refine ⟨len, fun A outer s H args us vs Q E hr e0 hb r hsp => ?_⟩
  have hl := len _ _ _ _ hsp
  have KX : K.In s.heap := e0.mod.kin.keeps fun b o e => (e0.bs b o e).1
  have lim : s.heap.NoLimit := e0.mod.nolimit.keeps fun b o e => (e0.bs b o e).1
  have hkind : ∀ y ∈ ps.zip us, scope.names.lookup y.1 = some .local ∨ (scope.names.lookup y.1 = some .cell ∧ ((cellsFrom (s.heap.objs.size + 1) scope.names []).lookup y.1).isSome = true) := fun ⟨n, v⟩ hy => by
    rcases S.par n (List.of_mem_zip hy).1 with q | q
    · exact .inl q
    · exact .inr ⟨q, PySem.W.cellsFrom_some _ _ _ (.inl q)⟩
  refine codeAny_call_function hr.depth (KX _ _ lk) rfl S.co S.gen rfl (PySem.W.codeRec_of KX hcd) (hb _ _ _ _ ?_)
  refine wpAny_newFunctionEnv_cells S.kind hkind fun env he s1 x => ?_
  subst he
  refine ⟨lim.keeps x.toInCall.keep, codeAny_func ?_⟩
  obtain ⟨t, ht, hq⟩ := hbody A outer s H vs Q E (hr.deeper _) hsp
  have I : Inv (cxOf CX P w K mg base N qual scope f cdv A outer s H E) [] (start N vs) H s1 := inv_start S hr.hd e0 hl r x
  refine wpAny_mono (ht [] s1 (start N vs) H _ I hq) (fun fl s' hs => ?_) fun e s' hs => hs
  have fin : ∀ {σ' : St} {H' : Hp} {v : V} {u : Value}, Inv (cxOf CX P w K mg base N qual scope f cdv A outer s H E) [] σ' H' s' → RelV v u → Q v H' → CE outer P w H s Q u s' :=
    fun {σ' H' v u} J rv q => ⟨v, H', J.os, J.bare, J.base, J.hok, rv, q⟩
  cases fl with
  | ret u =>
    obtain ⟨v, σ', H', J, rv, q⟩ := hs
    exact fin J rv q
  | next =>
    obtain ⟨σ', H', J, q⟩ := hs
    exact fin (v := V.non) (u := Value.none) J rfl q
  | brk =>
    obtain ⟨_, _, _, q⟩ := hs
    exact False.elim q
  | cont =>
    obtain ⟨_, _, _, q⟩ := hs
    exact False.elim q
end L2
namespace L2
open PySem PySem.Spec PyProof.Rows
section
variable {X : Cx} {x : Str} {p pos : Pos} {e : Expr} {es : List Expr} {t : TA} {id T : String} {r : List V → Hp → VK → Prop}
def tCB (r : List V → Hp → VK → Prop) (t : TA) : TE := fun σ H Q => t σ H fun vs H1 => r vs H1 Q
theorem pe_callB (hc : CallR X (.builtin id) r) (hg : Gl X x) (hm : X.mg x = none) (hv : bootBuiltins x = some (.builtin id)) (ha : PA X (e :: es) t) (hn : x ≠ "__name__" := by decide) (hdb : (x == ("__debug__" : Str)) = false := by decide)
    (he : starEach (e :: es) X.env = (false, eval e X.env) :: starEach es X.env := by rfl) (hpl : (backTo pos (starEach es X.env)).any (·.1) = false := by rfl) : PE X (.Call (.Name x p) (e :: es) [] pos) (tCB r t) := by
  intro pins s σ H Q I h
  refine wpAny_Call_Name_kw (ld_blt I hg hm hv ?_ hn hdb)
  exact PyProof.Rows.callWith_builtin1 (thn (ha pos pins s σ H _ I h) fun us s1 ⟨vs, H1, I1, r1, q1⟩ => hc pins s1 σ H1 vs us Q I1 r1 q1) he hpl
theorem pe_callTy (hc : CallR X (.type T) r) (hg : Gl X x) (hm : X.mg x = none) (hv : bootBuiltins x = some (.type T)) (ha : PA X (e :: es) t) (hn : x ≠ "__name__" := by decide) (hdb : (x == ("__debug__" : Str)) = false := by decide)
    (he : starEach (e :: es) X.env = (false, eval e X.env) :: starEach es X.env := by rfl) (hpl : (backTo pos (starEach es X.env)).any (·.1) = false := by rfl) : PE X (.Call (.Name x p) (e :: es) [] pos) (tCB r t) := by
  intro pins s σ H Q I h
  refine wpAny_Call_Name_kw (ld_blt I hg hm hv ?_ hn hdb)
  exact PyProof.Rows.callWith_type1 (thn (ha pos pins s σ H _ I h) fun us s1 ⟨vs, H1, I1, r1, q1⟩ => hc pins s1 σ H1 vs us Q I1 r1 q1) he hpl
end
end L2
namespace HT
open PySem PyProof.Rows
section
open PySem.SeqAt
open PySem.AutoSeq1 (wpAny_loadPart')
open PySem.MeetsSeq PySem.MeetsSeq2 PySem.MeetsSeq3
end
section
variable {prog : Program} {w : World} {A : Around} {E : Value → Shared → Prop} {s : Shared}
def sIx (n d : Nat) : Option Int → Nat
  | none => d
  | some v => if v < 0 then (v + (n : Int)).toNat else min v.toNat n
theorem sIx_none (n d : Nat) : sIx n d none = d := rfl
theorem sIx_nat (n d k : Nat) : sIx n d (some (k : Int)) = min k n := by
  show (if (k : Int) < 0 then ((k : Int) + (n : Int)).toNat else min (k : Int).toNat n) = min k n
  rw [if_neg (by omega), Int.toNat_natCast]
theorem sIx_le (n d : Nat) (hd : d ≤ n) (o : Option Int) : sIx n d o ≤ n := by
  cases o with
  | none => exact hd
  | some v =>
    show (if v < 0 then (v + (n : Int)).toNat else min v.toNat n) ≤ n
    by_cases hv : v < 0
    · rw [if_pos hv]; omega
    · rw [if_neg hv]; exact Nat.min_le_right _ _
theorem clip_eq (v : Int) (n d : Nat) : (if v < 0 then max (v + (n : Int)) 0 else min v (n : Int)) = ((sIx n d (some v) : Nat) : Int) := by
  show (if v < 0 then max (v + (n : Int)) 0 else min v (n : Int)) = (((if v < 0 then (v + (n : Int)).toNat else min v.toNat n) : Nat) : Int)
  by_cases hv : v < 0
  · simp only [if_pos hv]; omega
  · simp only [if_neg hv]; omega
end
end HT
namespace L2
open PySem PySem.Spec PyProof.Rows
abbrev TO := St → Hp → (Option Int → Hp → Prop) → Prop
def PO (X : Cx) (e : Option Expr) (t : TO) : Prop :=
  ∀ (pins : List (Addr × Obj)) (s : Shared) (σ : St) (H : Hp) (Q : Option Int → Hp → Prop), Inv X pins σ H s → t σ H Q →
    wpAny (model X.prog X.w) X.A (evalPart e X.env) (fun u s' => ∃ o H', Inv X pins σ H' s' ∧ IsPart u o ∧ Q o H') X.xe s
def tNoPart : TO := fun _ H Q => Q none H
def tPart (t : TE) : TO := fun σ H Q => t σ H fun x H1 => ∃ i, x = .int i ∧ Q (some i) H1
section
variable {X : Cx} {e : Expr} {te : TE} {lo hi : Option Expr} {tl th : TO} {pos p2 : Pos}
theorem po_none : PO X none tNoPart := by
  intro pins s σ H Q I h
  rw [evalPart_none]
  exact wpAny_pure ⟨none, H, I, .none, h⟩
theorem po_some (h : PE X e te) : PO X (some e) (tPart te) := by
  intro pins s σ H Q I hw
  rw [evalPart_some]
  refine thn (h pins s σ H _ I hw) fun u s1 ⟨x, H1, I1, r1, q1⟩ => ?_
  obtain ⟨i, rfl, q⟩ := q1
  obtain ⟨t, rfl⟩ := r1
  exact ⟨some i, H1, I1, .int i t, q⟩
def SlR (X : Cx) (r : V → Option Int → Option Int → Hp → VK → Prop) : Prop :=
  ∀ (pins : List (Addr × Obj)) (s : Shared) (σ : St) (H : Hp) (x : V) (v vl vu : Value) (lo hi : Option Int) (sl : Addr) (Q : VK), Inv X pins σ H s → RelV x v → s.heap.IsSliceOf sl vl vu .none → IsPart vl lo → IsPart vu hi → r x lo hi H Q →
    ∃ T id, typeLookup (.type T) "__getitem__" = pure (some (.builtin id)) ∧ s.TypeIs v T ∧ wpAny (model X.prog X.w) X.A (getItem v (.ref sl)) (EP X pins σ Q) X.xe s
theorem SlR.or {r r' : V → Option Int → Option Int → Hp → VK → Prop} (h : SlR X r) (h' : SlR X r') : SlR X (fun x lo hi H Q => r x lo hi H Q ∨ r' x lo hi H Q) := by
  intro pins s σ H x v vl vu lo hi sl Q I rx hs pl pu q
  rcases q with q | q
  · exact h pins s σ H x v vl vu lo hi sl Q I rx hs pl pu q
  · exact h' pins s σ H x v vl vu lo hi sl Q I rx hs pl pu q
def tSl (r : V → Option Int → Option Int → Hp → VK → Prop) (te : TE) (tl th : TO) : TE := fun σ H Q => te σ H fun x H1 => tl σ H1 fun l H2 => th σ H2 fun u H3 => r x l u H3 Q
theorem pe_slice {r : V → Option Int → Option Int → Hp → VK → Prop} (hr : SlR X r) (he : PE X e te) (hl : PO X lo tl) (hu : PO X hi th) : PE X (.Subscript e (.Slice lo hi none p2) pos) (tSl r te tl th) := by
  intro pins s σ H Q I h
  refine Subscript_ (thn (he pins s σ H _ I h) fun v s1 ⟨x, H1, I1, r1, q1⟩ => ?_)
  refine wpAny_Slice (thn (hl pins s1 σ H1 _ I1 q1) fun vl s2 ⟨l, H2, I2, pl, q2⟩ => thn (hu pins s2 σ H2 _ I2 q2) fun vu s3 ⟨u, H3, I3, pu, q3⟩ => ?_)
  rw [evalPart_none]
  refine wpAny_pure ?_
  have I4 : Inv X pins σ H3 { s3 with heap := s3.heap.push { cls := .type "slice", data := .fields #[vl, vu, .none] } } := I3.kept (t' := s3.toks) fun b ob q => Heap.get?_push_of_some _ q
  obtain ⟨T, id, hT, ht, hg⟩ := hr pins { s3 with heap := s3.heap.push { cls := .type "slice", data := .fields #[vl, vu, .none] } } σ H3 x v vl vu l u s3.heap.objs.size Q I4 r1 (Heap.IsSliceOf.new ..) pl pu q3
  show wpAny (model X.prog X.w) X.A (subscriptTail e (.Slice lo hi none p2) v (.ref s3.heap.objs.size)) (EP X pins σ Q) X.xe { s3 with heap := s3.heap.push { cls := .type "slice", data := .fields #[vl, vu, .none] } }
  exact tail_any (ops := [.ref s3.heap.objs.size, v]) ht hT hg (by with_unfolding_all rfl)
def cutV (xs : List V) (lo hi : Option Int) : List V := (xs.drop (HT.sIx xs.length 0 lo)).take (HT.sIx xs.length xs.length hi - HT.sIx xs.length 0 lo)
theorem cutV_length (xs : List V) (lo hi : Option Int) : (cutV xs lo hi).length ≤ xs.length := by
  unfold cutV
  rw [List.length_take, List.length_drop]
  omega
end
end L2
namespace L2
open PySem PySem.Spec PyProof.Rows
def ixN (n : Nat) (i : Int) : Option Nat := if 0 ≤ i then (if i < n then some i.toNat else none) else if -(n : Int) ≤ i then some (i + n).toNat else none
def atI {α : Type} (xs : List α) (i : Int) : Option α := (ixN xs.length i).bind fun j => xs[j]?
theorem ixN_seq {n : Nat} {i : Int} {j : Nat} (h : ixN n i = some j) : seqIndex? i n = some j ∧ j < n ∧ -(n : Int) ≤ i ∧ i < n := by
  unfold ixN at h
  by_cases h0 : 0 ≤ i
  · rw [if_pos h0] at h
    by_cases h1 : i < n
    · rw [if_pos h1] at h
      have e : i.toNat = j := Option.some.inj h
      exact ⟨by rw [seqIndex_of h0 h1, e], by omega, by omega, h1⟩
    · rw [if_neg h1] at h; cases h
  · rw [if_neg h0] at h
    by_cases h1 : -(n : Int) ≤ i
    · rw [if_pos h1] at h
      have e : (i + n).toNat = j := Option.some.inj h
      exact ⟨by rw [seqIndex_neg (by omega) h1, e], by omega, h1, by omega⟩
    · rw [if_neg h1] at h; cases h
theorem atI_get {α : Type} {xs : List α} {i : Int} {v : α} (h : atI xs i = some v) : ∃ j, seqIndex? i xs.length = some j ∧ xs[j]? = some v ∧ j < xs.length ∧ -(xs.length : Int) ≤ i ∧ i < xs.length := by
  unfold atI at h
  cases e : ixN xs.length i with
  | none => rw [e] at h; cases h
  | some j =>
    rw [e] at h
    obtain ⟨h1, h2, h3, h4⟩ := ixN_seq e
    exact ⟨j, h1, h, h2, h3, h4⟩
theorem atI_nat {α : Type} {xs : List α} {j : Nat} {v : α} (h : xs[j]? = some v) : atI xs (j : Int) = some v := by
  have hj : j < xs.length := (List.getElem?_eq_some_iff.mp h).1
  have e : ixN xs.length (j : Int) = some j := by
    unfold ixN
    rw [if_pos (by omega), if_pos (by omega)]; simp
  unfold atI; rw [e]; exact h
def PlainIx (b : Expr) : Prop := ∀ o i, subscripted b false o i = operate [o, i] (getItem o i)
def IxR (X : Cx) (r : R2) : Prop :=
  ∀ (value slice : Expr) (pins : List (Addr × Obj)) (s : Shared) (σ : St) (H : Hp) (x y : V) (v u : Value) (Q : VK), Inv X pins σ H s → RelV x v → RelV y u → r x y H Q →
    subscripted slice false v u = operate [v, u] (getItem v u) → wpAny (model X.prog X.w) X.A (subscriptTail value slice v u) (EP X pins σ Q) X.xe s
def MtR (X : Cx) (id : String) (r : V → List V → Hp → VK → Prop) : Prop :=
  ∀ (pins : List (Addr × Obj)) (s : Shared) (σ : St) (H : Hp) (x : V) (xs : List V) (v : Value) (us : List Value) (Q : VK), Inv X pins σ H s → RelV x v → Vals xs us → r x xs H Q →
    wpAny (model X.prog X.w) X.A (call (.builtin id) (v :: us)) (EP X pins σ Q) X.xe s
section
variable {X : Cx} {a b : Expr} {ta tb : TE} {pos : Pos}
theorem IxR.or {r r' : R2} (h : IxR X r) (h' : IxR X r') : IxR X (fun x y H Q => r x y H Q ∨ r' x y H Q) := by
  intro value slice pins s σ H x y v u Q I rx ry q hs
  rcases q with q | q
  · exact h value slice pins s σ H x y v u Q I rx ry q hs
  · exact h' value slice pins s σ H x y v u Q I rx ry q hs
theorem pe_ix {r : R2} (hr : IxR X r) (ha : PE X a ta) (hb : PE X b tb) (hs : PlainIx b) : PE X (.Subscript a b pos) (tOp r ta tb) := by
  intro pins s σ H Q I h
  exact Subscript_ (binT ha hb I h fun v u s2 x y H2 I2 rx ry q => hr a b pins s2 σ H2 x y v u Q I2 rx ry q (hs _ _))
def rIxL (K : PySem.W.Frag) : R2 := fun x y H Q => ∃ p xs i v, x = .ref p ∧ y = .int i ∧ SqL K H p xs ∧ atI xs i = some v ∧ Q v H
def rIxT (K : PySem.W.Frag) : R2 := fun x y H Q => ∃ p xs i v, x = .ref p ∧ y = .int i ∧ SqT K H p xs ∧ atI xs i = some v ∧ Q v H
def rIxS : R2 := fun x y H Q => ∃ z i c, x = .str z ∧ y = .int i ∧ z.length ≤ sizeLine ∧ atI z.cps.toList i = some c ∧ Q (.str ⟨#[c]⟩) H
theorem ix_list : IxR X (rIxL X.K) := by
  intro value slice pins s σ H x y v u Q I rx ry h hs
  obtain ⟨p, xs, i, z, rfl, rfl, hq, he, q⟩ := h
  cases rx
  obtain ⟨t, rfl⟩ := ry
  obtain ⟨its, r, pl, hz⟩ := I.list hq
  obtain ⟨j, h1, h2, h3, h4, h5⟩ := atI_get he
  obtain ⟨w, ew, rw'⟩ := r.get h2
  have hl := r.length
  have hn := line63
  have fin : EP X pins σ Q w s := ⟨z, H, I, rw', q⟩
  by_cases h0 : 0 ≤ i
  · have hj : i.toNat = j := by
      rw [seqIndex_of h0 h5] at h1
      exact Option.some.inj h1
    exact item_listR pl.isList h0 (by omega) (by rw [hj]; simpa using ew) fin hs
  · have hj : (i + (its.toArray.size : Int)).toNat = j := by
      rw [seqIndex_neg (by omega) h4] at h1
      rw [List.size_toArray, ← hl]
      exact Option.some.inj h1
    exact subscriptTail_builtinR (x := w) pl.isList.typeIs slot_list_getitem.lookup
      (wpAny_getItem_list_neg (Q := fun r s' => r = w ∧ EP X pins σ Q r s') pl.isList (by omega) (by rw [List.size_toArray] <;> omega) (by omega) (by rw [hj]; simpa using ew) ⟨rfl, fin⟩) hs
theorem ix_tup : IxR X (rIxT X.K) := by
  intro value slice pins s σ H x y v u Q I rx ry h hs
  obtain ⟨p, xs, i, z, rfl, rfl, hq, he, q⟩ := h
  cases rx
  obtain ⟨t, rfl⟩ := ry
  obtain ⟨its, r, pl, hz⟩ := I.tuple hq
  obtain ⟨j, h1, h2, h3, h4, h5⟩ := atI_get he
  obtain ⟨w, ew, rw'⟩ := r.get h2
  have hl := r.length
  have hn := line63
  have fin : EP X pins σ Q w s := ⟨z, H, I, rw', q⟩
  exact subscriptTail_builtinR (x := w) pl.typeIs slot_tuple_getitem.lookup
    (getItem_tuple (j := j) (Q := fun r s' => r = w ∧ EP X pins σ Q r s') pl (by omega) (by omega) (by rw [List.size_toArray, ← hl]; exact h1) (by simpa using ew) ⟨rfl, fin⟩) hs
theorem ix_str : IxR X rIxS := by
  intro value slice pins s σ H x y v u Q I rx ry h hs
  obtain ⟨z, i, c, rfl, rfl, hz, he, q⟩ := h
  obtain ⟨t, rfl⟩ := rx
  obtain ⟨t', rfl⟩ := ry
  obtain ⟨j, h1, h2, h3, h4, h5⟩ := atI_get he
  have hl : z.cps.toList.length = z.length := by simp [Str.length]
  rw [hl] at h1 h4 h5
  have hn := line63
  exact tail_any (typeIs_str s z t) slot_str_getitem.lookup (getItem_str (c := c) (by
    have e1 : decide (i < -(2 ^ 63 : Int)) = false := decide_eq_false (by omega)
    have e2 : decide (i ≥ 2 ^ 63) = false := decide_eq_false (by omega)
    rw [e1, e2, Bool.or_false]) (by rw [h1]; simpa using h2) ⟨.str ⟨#[c]⟩, H, I.tok _, ⟨_, rfl⟩, q⟩) hs
def rIx (K : PySem.W.Frag) : R2 := fun x y H Q => rIxL K x y H Q ∨ rIxT K x y H Q ∨ rIxS x y H Q
theorem ix_seq : IxR X (rIx X.K) := ix_list.or (ix_tup.or ix_str)
theorem slice_bounds (lo hi : Option Int) (n : Nat) : (sliceBounds lo hi none n).1 = ((HT.sIx n 0 lo : Nat) : Int) ∧ (sliceBounds lo hi none n).2.1 = ((HT.sIx n n hi : Nat) : Int) ∧ (sliceBounds lo hi none n).2.2 = 1 := by
  refine ⟨?_, ?_, rfl⟩
  · cases lo with
    | none => simp [sliceBounds, HT.sIx]
    | some i =>
      simp only [sliceBounds, HT.sIx, Option.getD_none, show (1 : Int) > 0 by decide, if_true]
      by_cases h : i < 0
      · simp only [h, if_true] <;> omega
      · simp only [h, if_false] <;> omega
  · cases hi with
    | none => simp [sliceBounds, HT.sIx]
    | some i =>
      simp only [sliceBounds, HT.sIx, Option.getD_none, show (1 : Int) > 0 by decide, if_true]
      by_cases h : i < 0
      · simp only [h, if_true] <;> omega
      · simp only [h, if_false] <;> omega
theorem slicePick_cut (its : List Value) (lo hi : Option Int) : slicePick its.toArray lo hi none = ((its.drop (HT.sIx its.length 0 lo)).take (HT.sIx its.length its.length hi - HT.sIx its.length 0 lo)).toArray := by
  obtain ⟨h1, h2, h3⟩ := slice_bounds lo hi its.toArray.size
  unfold slicePick
  rw [h1, h2, h3]
  simp only [sliceRange_one, pick_run, List.size_toArray] <;> rfl
def rSlL (K : PySem.W.Frag) : V → Option Int → Option Int → Hp → VK → Prop := fun x lo hi H Q => ∃ a xs, x = .ref a ∧ SqL K H a xs ∧ ∀ p, H p = none → Q (.ref p) (upd H p (.lst (cutV xs lo hi)))
theorem sl_list : SlR X (rSlL X.K) := by
  intro pins s σ H x v vl vu lo hi sl Q I rx hs pl pu h
  obtain ⟨a, xs, rfl, hx, q⟩ := h
  cases rx
  obtain ⟨its, r, ht, hz⟩ := I.list hx
  have hlen := r.length
  refine ⟨"list", _, slot_list_getitem.lookup, ht.isList.typeIs, ?_⟩
  refine wpAny_getItem_list_slice ht.isList hs pl pu .none (by simp) ?_ (by rw [List.size_toArray] <;> omega)
  rw [slicePick_cut, ← hlen]
  refine ⟨.ref s.heap.objs.size, _, I.laid (t' := s.toks) (o := .lst (cutV xs lo hi)) (fun b ob q => Heap.get?_push_of_some _ q) (Nat.le_refl _) ?_, rfl, q _ (I.hok.fresh (Nat.le_refl _))⟩
  exact ⟨Nat.le_trans (cutV_length xs lo hi) hz, _, 0, (r.drop (HT.sIx xs.length 0 lo)).take (HT.sIx xs.length xs.length hi - HT.sIx xs.length 0 lo), Heap.get?_push_size _ rfl⟩
def flatV : V → Bool
  | .non => true
  | .bl _ => true
  | .int _ => true
  | .str _ => true
  | _ => false
def eqV : V → V → Bool
  | .non, .non => true
  | .bl a, .bl b => a == b
  | .bl a, .int b => (if a then 1 else 0) == b
  | .int a, .bl b => a == (if b then 1 else 0)
  | .int a, .int b => a == b
  | .str a, .str b => a == b
  | _, _ => false
theorem eqAt_V {A : Around} {s : Shared} {y x : V} {u v : Value} (ry : RelV y u) (rx : RelV x v) (fy : flatV y = true) (fx : flatV x = true) : SeqAt.EqAt A s u v (eqV y x) := by
  cases y with
  | non =>
    cases ry
    cases x with
    | non => cases rx; exact SeqAt.EqAt.same _
    | bl b => cases rx; exact SeqAt.EqAt.none_bool b
    | int b => obtain ⟨t, rfl⟩ := rx; exact SeqAt.EqAt.none_int b t
    | str b => obtain ⟨t, rfl⟩ := rx; exact SeqAt.EqAt.none_str b t
    | _ => exact absurd (show false = true from fx) Bool.false_ne_true
  | bl a =>
    cases ry
    cases x with
    | non => cases rx; exact SeqAt.EqAt.bool_none a
    | bl b => cases rx; exact SeqAt.EqAt.bool_bool a b
    | int b => obtain ⟨t, rfl⟩ := rx; exact SeqAt.EqAt.bool_int a b t
    | str b => obtain ⟨t, rfl⟩ := rx; exact SeqAt.EqAt.bool_str a b t
    | _ => exact absurd (show false = true from fx) Bool.false_ne_true
  | int a =>
    obtain ⟨t', rfl⟩ := ry
    cases x with
    | non => cases rx; exact SeqAt.EqAt.int_none a t'
    | bl b => cases rx; exact SeqAt.EqAt.int_bool a t' b
    | int b => obtain ⟨t, rfl⟩ := rx; exact SeqAt.EqAt.int_int a t' b t
    | str b => obtain ⟨t, rfl⟩ := rx; exact SeqAt.EqAt.int_str a t' b t
    | _ => exact absurd (show false = true from fx) Bool.false_ne_true
  | str a =>
    obtain ⟨t', rfl⟩ := ry
    cases x with
    | non => cases rx; exact SeqAt.EqAt.str_none a t'
    | bl b => cases rx; exact SeqAt.EqAt.str_bool a t' b
    | int b => obtain ⟨t, rfl⟩ := rx; exact SeqAt.EqAt.str_int a t' b t
    | str b => obtain ⟨t, rfl⟩ := rx; exact SeqAt.EqAt.str_str a t' b t
    | _ => exact absurd (show false = true from fx) Bool.false_ne_true
  | _ => exact absurd (show false = true from fy) Bool.false_ne_true
def eqU (x : V) (u : Value) : Bool := match u with
  | .none => eqV .non x
  | .bool b => eqV (.bl b) x
  | .int i _ => eqV (.int i) x
  | .str z _ => eqV (.str z) x
  | _ => false
theorem eqU_of {x y : V} {u : Value} (r : RelV y u) (f : flatV y = true) : eqU x u = eqV y x := by
  cases y with
  | non => cases r; rfl
  | bl b => cases r; rfl
  | int i => obtain ⟨t, rfl⟩ := r; rfl
  | str z => obtain ⟨t, rfl⟩ := r; rfl
  | _ => exact absurd (show false = true from f) Bool.false_ne_true
theorem any_eqU {x : V} : ∀ {xs : List V} {us : List Value}, Vals xs us → xs.all flatV = true → us.any (eqU x) = xs.any fun y => eqV y x
  | _, _, .nil, _ => rfl
  | y :: xs, u :: us, .cons r t, f => by
    rw [List.all_cons, Bool.and_eq_true] at f
    rw [List.any_cons, List.any_cons, eqU_of r f.1, any_eqU t f.2]
theorem mem_eqAt {A : Around} {s : Shared} {x : V} {v : Value} (rx : RelV x v) (fx : flatV x = true) : ∀ {xs : List V} {us : List Value}, Vals xs us → xs.all flatV = true → ∀ u ∈ us, SeqAt.EqAt A s u v (eqU x u)
  | _, _, .nil, _ => fun u hu => by cases hu
  | y :: xs, u :: us, .cons r t, f => fun u' hu => by
    rw [List.all_cons, Bool.and_eq_true] at f
    rcases List.mem_cons.mp hu with rfl | hu
    · rw [eqU_of r f.1]; exact eqAt_V r rx f.1 fx
    · exact mem_eqAt rx fx t f.2 u' hu
def inV (x : V) (xs : List V) : Bool := xs.any fun y => eqV y x
def rIn (K : PySem.W.Frag) (neg : Bool) : R2 := fun x y H Q => ∃ p xs, y = .ref p ∧ (SqL K H p xs ∨ SqT K H p xs) ∧ flatV x = true ∧ xs.all flatV = true ∧ Q (.bl (if neg then !inV x xs else inV x xs)) H
theorem op_in_seq : OpR X (compareOp .In) (rIn X.K false) := by
  intro pins s σ H x y v u Q I rx ry h
  obtain ⟨p, xs, rfl, hq, fx, fs, q⟩ := h
  cases ry
  rcases hq with hq | hq
  · obtain ⟨its, r, pl, hz⟩ := I.list hq
    refine SeqAt.in_listAt (eqU x) pl.isList (fun w hw => mem_eqAt rx fx r fs w (by simpa using hw)) ⟨.bl _, H, I, rfl, ?_⟩
    rw [show its.toArray.any (eqU x) = its.any (eqU x) by simp, any_eqU r fs]
    exact q
  · obtain ⟨its, r, pl, hz⟩ := I.tuple hq
    refine SeqAt.in_tupleAt (eqU x) pl (fun w hw => mem_eqAt rx fx r fs w (by simpa using hw)) ⟨.bl _, H, I, rfl, ?_⟩
    rw [show its.toArray.any (eqU x) = its.any (eqU x) by simp, any_eqU r fs]
    exact q
theorem op_notIn_seq : OpR X (compareOp .NotIn) (rIn X.K true) := by
  intro pins s σ H x y v u Q I rx ry h
  obtain ⟨p, xs, rfl, hq, fx, fs, q⟩ := h
  cases ry
  rcases hq with hq | hq
  · obtain ⟨its, r, pl, hz⟩ := I.list hq
    refine SeqAt.notIn_listAt (eqU x) pl.isList (fun w hw => mem_eqAt rx fx r fs w (by simpa using hw)) ⟨.bl _, H, I, rfl, ?_⟩
    rw [show its.toArray.any (eqU x) = its.any (eqU x) by simp, any_eqU r fs]
    exact q
  · obtain ⟨its, r, pl, hz⟩ := I.tuple hq
    refine SeqAt.notIn_tupleAt (eqU x) pl (fun w hw => mem_eqAt rx fx r fs w (by simpa using hw)) ⟨.bl _, H, I, rfl, ?_⟩
    rw [show its.toArray.any (eqU x) = its.any (eqU x) by simp, any_eqU r fs]
    exact q
theorem op_notIn_str : OpR X (compareOp .NotIn) (fun x y H Q => ∃ i j, x = .str i ∧ y = .str j ∧ Q (.bl (!(!(Builtin.Str.occurrences j i 0 j.length 1).isEmpty))) H) := by
  intro pins s σ H x y v u Q I rx ry h
  obtain ⟨i, j, rfl, rfl, q⟩ := h
  obtain ⟨t, rfl⟩ := rx
  obtain ⟨t', rfl⟩ := ry
  exact notIn_str ⟨.bl _, H, I, rfl, q⟩
theorem call_len_seq : CallR X (.builtin "len") (fun xs H Q => ∃ p ys, xs = [.ref p] ∧ (SqL X.K H p ys ∨ SqT X.K H p ys) ∧ Q (.int ys.length) H) := by
  intro pins s σ H xs us Q I r h
  obtain ⟨p, ys, rfl, hq, q⟩ := h
  obtain ⟨u, rfl, rx⟩ := vals1 r
  cases rx
  have hn := line63
  rcases hq with hq | hq
  · obtain ⟨its, r', pl, hz⟩ := I.list hq
    have hlen := r'.length
    exact Calls.call_len_list pl.isList (by simp only [List.size_toArray] <;> omega) ⟨.int ys.length, H, I.tok _, ⟨s.toks + 1, by rw [List.size_toArray, hlen]⟩, q⟩
  · obtain ⟨its, r', pl, hz⟩ := I.tuple hq
    have hlen := r'.length
    exact len_tuple pl (by simp only [List.size_toArray] <;> omega) ⟨.int ys.length, H, I.tok _, ⟨s.toks + 1, by rw [List.size_toArray, hlen]⟩, q⟩
theorem call_len_str : CallR X (.builtin "len") (fun xs H Q => ∃ z, xs = [.str z] ∧ z.length ≤ sizeLine ∧ Q (.int z.length) H) := by
  intro pins s σ H xs us Q I r h
  obtain ⟨z, rfl, hz, q⟩ := h
  obtain ⟨u, rfl, t, rfl⟩ := vals1 r
  have hn := line63
  exact len_str (by omega) ⟨.int z.length, H, I.tok _, ⟨_, rfl⟩, q⟩
theorem CallR.or {f : Value} {r r' : List V → Hp → VK → Prop} (h : CallR X f r) (h' : CallR X f r') : CallR X f (fun xs H Q => r xs H Q ∨ r' xs H Q) := by
  intro pins s σ H xs us Q I rs q
  rcases q with q | q
  · exact h pins s σ H xs us Q I rs q
  · exact h' pins s σ H xs us Q I rs q
theorem call_list_of : CallR X (.type "list") (fun xs H Q => ∃ p ys, xs = [.ref p] ∧ (SqL X.K H p ys ∨ SqT X.K H p ys) ∧ ∀ l, H l = none → Q (.ref l) (upd H l (.lst ys))) := by
  intro pins s σ H xs us Q I r h
  obtain ⟨p, ys, rfl, hq, q⟩ := h
  obtain ⟨u, rfl, rx⟩ := vals1 r
  cases rx
  have fin : ∀ (its : List Value), Vals ys its → ys.length ≤ sizeLine → ∀ (h' : Heap) (c' : Nat), (∀ b o', s.heap.get? b = some o' → h'.get? b = some o') →
      h'.get? s.heap.objs.size = some { cls := .type "list", dict := none, data := .seq its.toArray c', slots := #[] } → EP X pins σ Q (.ref s.heap.objs.size) { s with heap := h' } := fun its r' hz h' c' kp e =>
    ⟨.ref s.heap.objs.size, _, I.laid (t' := s.toks) kp (Nat.le_refl _) (show ObjOk X.prog X.w _ h' _ (.lst ys) from ⟨hz, its, c', r', e⟩), rfl, q _ (I.hok.fresh (Nat.le_refl _))⟩
  rcases hq with hq | hq
  · obtain ⟨its, r', pl, hz⟩ := I.list hq
    have hlen := r'.length
    obtain ⟨o, ho, hc, n, hd⟩ := pl.isList
    exact call_list_seq p (.inl rfl) ho hc hd (fun h' c' kp e => fin its r' hz h' c' kp e) (by simp only [List.size_toArray] <;> omega)
  · obtain ⟨its, r', pl, hz⟩ := I.tuple hq
    have hlen := r'.length
    obtain ⟨o, ho, hc, n, hd⟩ := pl
    exact call_list_seq p (.inr rfl) ho hc hd (fun h' c' kp e => fin its r' hz h' c' kp e) (by simp only [List.size_toArray] <;> omega)
theorem call_tuple_of : CallR X (.type "tuple") (fun xs H Q => ∃ p ys, xs = [.ref p] ∧ ((SqL X.K H p ys ∧ ∀ l, H l = none → Q (.ref l) (upd H l (.tup ys))) ∨ (SqT X.K H p ys ∧ Q (.ref p) H))) := by
  intro pins s σ H xs us Q I r h
  obtain ⟨p, ys, rfl, h⟩ := h
  obtain ⟨u, rfl, rx⟩ := vals1 r
  cases rx
  rcases h with ⟨hq, q⟩ | ⟨hq, q⟩
  · obtain ⟨its, r', pl, hz⟩ := I.list hq
    have hlen := r'.length
    refine call_tuple_list pl.isList (fun h' kp => ?_) (by simp only [List.size_toArray] <;> omega)
    have I1 : Inv X pins σ H { s with heap := h' } := I.kept (t' := s.toks) kp
    have I2 : Inv X pins σ (upd H h'.objs.size (.tup ys)) { s with heap := h'.push { cls := .type "tuple", data := .seq its.toArray } } :=
      I1.laid (t' := s.toks) (fun b o e => Heap.get?_push_of_some _ e) (Nat.le_refl _) (show ObjOk X.prog X.w _ _ _ (.tup ys) from ⟨hz, its, r', IsTup.new _ _⟩)
    exact ⟨.ref h'.objs.size, _, I2, rfl, q _ (I1.hok.fresh (Nat.le_refl _))⟩
  · obtain ⟨its, r', pl, hz⟩ := I.tuple hq
    exact call_tuple_same pl ⟨.ref p, H, I, rfl, q⟩
def tyV (K : PySem.W.Frag) (T : String) (x : V) (H : Hp) : Prop := match x with
  | .str _ => T = "str"
  | .int _ => T = "int"
  | .ref p => (T = "list" ∧ ∃ xs, SqL K H p xs) ∨ (T = "tuple" ∧ ∃ o, K.lookup p = some o ∧ o.cls = .type "tuple" ∧ o.dict = none) ∨
      (T = "dict" ∧ ((∃ kvs, H p = some (.dK kvs)) ∨ ∃ kvs, H p = some (.dT kvs))) ∨ (T = "set" ∧ ∃ S n, H p = some (.set S n))
  | _ => False
theorem tyV_is {pins : List (Addr × Obj)} {σ : St} {H : Hp} {s : Shared} {T : String} {x : V} {v : Value} (I : Inv X pins σ H s) (r : RelV x v) (ty : tyV X.K T x H) :
    s.TypeIs v T ∧ ∀ a, v = .ref a → ∃ ob, s.heap.get? a = some ob ∧ ob.dict = none := by
  cases x with
  | str z =>
    obtain ⟨t, rfl⟩ := r
    cases (show T = "str" from ty)
    exact ⟨typeIs_str s z t, fun _ e => nomatch e⟩
  | int i =>
    obtain ⟨t, rfl⟩ := r
    cases (show T = "int" from ty)
    exact ⟨typeIs_int s i t, fun _ e => nomatch e⟩
  | ref p =>
    cases r
    rcases ty with ⟨rfl, xs, hq⟩ | ⟨rfl, o, hk, hc, hd⟩ | ⟨rfl, hk⟩ | ⟨rfl, S, n, hk⟩
    · obtain ⟨its, _, pl, _⟩ := I.list hq
      refine ⟨pl.isList.typeIs, fun a e => ?_⟩
      cases e
      obtain ⟨o, n, e, c, hd, _⟩ := pl
      exact ⟨o, e, hd⟩
    · refine ⟨⟨o, I.kIn p o hk, hc⟩, fun a e => ?_⟩
      cases e
      exact ⟨o, I.kIn _ o hk, hd⟩
    · have z : ∃ o, s.heap.get? p = some o ∧ o.ExactDict := by
        rcases hk with ⟨kvs, hk⟩ | ⟨kvs, hk⟩
        · obtain ⟨_, _, _, _, o, _, _, e, ex, _⟩ := I.hok p _ hk
          exact ⟨o, e, ex⟩
        · obtain ⟨_, _, _, _, o, _, _, e, ex, _⟩ := I.hok p _ hk
          exact ⟨o, e, ex⟩
      obtain ⟨o, e, ex⟩ := z
      refine ⟨⟨o, e, ex.1⟩, fun a e2 => ?_⟩
      cases e2
      exact ⟨o, e, ex.2.1⟩
    · obtain ⟨o, _, _, _, e, ex, _⟩ := I.hok p _ hk
      refine ⟨⟨o, e, ex.1⟩, fun a e2 => ?_⟩
      cases e2
      exact ⟨o, e, ex.2.1⟩
  | _ => exact False.elim ty
def tBM (K : PySem.W.Frag) (T : String) (r : V → List V → Hp → VK → Prop) (to : TE) (t : TA) : TE := fun σ H Q => to σ H fun x H1 => tyV K T x H1 ∧ t σ H1 fun xs H2 => r x xs H2 Q
variable {o e : Expr} {es : List Expr} {to : TE} {t : TA} {name : Str} {apos cpos : Pos} {T id : String} {r : V → List V → Hp → VK → Prop}
theorem pe_bm (pa : PlainAttrs T) (slot : Slot T name id) (hty : typeOf (.builtin id) = pure (.type "method_descriptor")) (hm : MtR X id r) (ho : PE X o to) (ha : PA X (e :: es) t)
    (hbase : attributeBase o name X.env (eval o X.env) = eval o X.env := by rfl)
    (hfew : ((backTo cpos (starEach (e :: es) X.env)).all (fun x => !x.1) && (backToKw cpos (keywordEach [] X.env)).all (fun x => x.1.isSome)
      && decide ((e :: es).length + ([] : List Keyword).length + (if ([] : List Keyword).isEmpty then 0 else 1) < 30)) = true := by rfl)
    (hline : (apos.endLine == cpos.line) = true := by rfl) (hs : starEach (e :: es) X.env = (false, eval e X.env) :: starEach es X.env := by rfl) (hplain : (backTo cpos (starEach es X.env)).any (·.1) = false := by rfl) :
    PE X (.Call (.Attribute o name apos) (e :: es) [] cpos) (tBM X.K T r to t) := by
  intro pins s σ H Q I h
  refine wpAny_Call_method_late hbase hfew hline rfl (thn (ho pins s σ H _ I h) fun v s1 ⟨x, H1, I1, r1, ty, q1⟩ => ?_)
  obtain ⟨h1, h2⟩ := tyV_is I1 r1 ty
  refine ⟨T, id, pa, slot, hty, h1, h2, ?_⟩
  have hA := ha cpos pins s1 σ H1 _ I1 q1
  rw [hs] at hA ⊢
  refine Calls.callWith_builtin (by show (false || (backTo cpos (starEach es X.env)).any (·.1)) = false; rw [hplain] <;> rfl) (Calls.evalArgs_plain ?_)
  exact thn hA fun us s2 ⟨vs, H2, I2, r2, q2⟩ => hm pins s2 σ H2 x vs v us Q I2 r1 r2 q2
end
end L2
namespace L2
open PySem PySem.Spec PyProof.Rows
def MtM (X : Cx) (id : String) (r : V → List V → Hp → VK → Prop) : Prop :=
  ∀ (pins : List (Addr × Obj)) (s : Shared) (σ : St) (H : Hp) (x : V) (xs : List V) (v : Value) (us : List Value) (Q : VK), Inv X pins σ H s → RelV x v → Vals xs us → r x xs H Q →
    wpAny (model X.prog X.w) X.A (call (.builtin id) (v :: us)) (EP X pins σ Q) X.xe s
theorem Vals.one : ∀ {x : V} {us : List Value}, Vals [x] us → ∃ u, us = [u] ∧ RelV x u
  | _, _, .cons r .nil => ⟨_, rfl, r⟩
theorem Vals.two : ∀ {x y : V} {us : List Value}, Vals [x, y] us → ∃ u v, us = [u, v] ∧ RelV x u ∧ RelV y v
  | _, _, _, .cons r (.cons q .nil) => ⟨_, _, rfl, r, q⟩
theorem Vals.rep {xs : List V} {us : List Value} (h : Vals xs us) : ∀ k : Nat, Vals (List.replicate k xs).flatten (List.replicate k us).flatten
  | 0 => .nil
  | k + 1 => by
    rw [List.replicate_succ, List.replicate_succ, List.flatten_cons, List.flatten_cons]
    exact Vals.append h (Vals.rep h k)
theorem foldl_rep (its : List Value) : ∀ (k : Nat) (acc : List Value),
    List.foldl (fun x1 x2 => x1 ++ x2) acc.toArray (List.replicate k its.toArray) = (acc ++ (List.replicate k its).flatten).toArray
  | 0, acc => by simp
  | k + 1, acc => by
    have e : acc.toArray ++ its.toArray = (acc ++ its).toArray := by simp
    have e2 : (acc ++ its) ++ (List.replicate k its).flatten = acc ++ (List.replicate (k + 1) its).flatten := by
      rw [List.replicate_succ, List.flatten_cons, List.append_assoc]
    rw [← e2, ← foldl_rep its k (acc ++ its), ← e, List.replicate_succ, List.foldl_cons]
section
variable {X : Cx} {pins : List (Addr × Obj)} {σ : St} {H : Hp} {s : Shared} {l b : Addr} {xs ys zs : List V}
theorem Inv.lset {its its' : List Value} {n : Nat} {f : Array Value → Array Value} {t' : Nat} (I : Inv X pins σ H s) (hH : H l = some (.lst xs))
    (e : s.heap.get? l = some { cls := .type "list", data := .seq its.toArray n }) (hf : f its.toArray = its'.toArray) (hv : Vals ys its') (hz : ys.length ≤ sizeLine) :
    Inv X pins σ (upd H l (.lst ys)) { s with heap := s.heap.update l (Obj.mapSeq f), toks := t' } := by
  have q := PySem.IsL.update e f
  rw [hf] at q
  refine I.write (x := l) (e := l) (by rw [hH]; exact trivial) (.inl rfl) (fun b' u hb hu => (Heap.get?_update_other s.heap (Obj.mapSeq f) (Ne.symm hb)).trans hu) ⟨_, q⟩ ?_
  exact ⟨hz, its', _, hv, q⟩
theorem Inv.lnew {its : List Value} {t' : Nat} (I : Inv X pins σ H s) (hv : Vals ys its) (hz : ys.length ≤ sizeLine) :
    Inv X pins σ (upd H s.heap.objs.size (.lst ys)) { s with heap := s.heap.push { cls := .type "list", data := .seq its.toArray }, toks := t' } :=
  I.laid (fun _ _ q => Heap.get?_push_of_some _ q) (Nat.le_refl _) ⟨hz, its, 0, hv, Heap.get?_push_size _ rfl⟩
theorem Inv.fresh (I : Inv X pins σ H s) : H s.heap.objs.size = none := I.hok.fresh (Nat.le_refl _)
theorem Inv.lstM (I : Inv X pins σ H s) (hH : H l = some (.lst xs)) : xs.length ≤ sizeLine ∧ ∃ (its : List Value) (n : Nat), Vals xs its ∧ xs.length = its.length ∧ s.heap.get? l = some { cls := .type "list", data := .seq its.toArray n } := by
  obtain ⟨z, its, n, r, e⟩ := I.hok l _ hH
  exact ⟨z, its, n, r, r.length, e⟩
theorem notLongL {n : Nat} (h : n ≤ sizeLine) : Builtin.List.listTooLong n = false := by
  unfold Builtin.List.listTooLong
  exact decide_eq_false (by omega)
end
section
variable {X : Cx}
def rAppend : V → List V → Hp → VK → Prop := fun x vs H Q => ∃ l xs y, x = .ref l ∧ vs = [y] ∧ H l = some (.lst xs) ∧ xs.length < sizeLine ∧ Q .non (upd H l (.lst (xs ++ [y])))
theorem mt_append : MtM X "list.append" rAppend := by
  intro pins s σ H x vs v us Q I rx rv h
  obtain ⟨l, xs, y, rfl, rfl, hH, hz, q⟩ := h
  cases rx
  obtain ⟨u, rfl, ru⟩ := rv.one
  obtain ⟨z, its, n, r, hl, e⟩ := I.lstM hH
  refine call_meets F.slot_list_append ⟨_, e, rfl⟩ F.entry_list_append (F.args_list_append_2 _ _) (PySem.list_append l its.toArray n u (by rw [List.size_toArray]; omega)) ⟨e, ?_⟩
  refine ⟨.non, _, I.lset (its' := its ++ [u]) hH e (by simp) (r.append (.cons ru .nil)) ?_, rfl, q⟩
  rw [List.length_append, List.length_singleton]
  omega
def rExtend : V → List V → Hp → VK → Prop := fun x vs H Q => ∃ l b xs zs, x = .ref l ∧ vs = [.ref b] ∧ H l = some (.lst xs) ∧ H b = some (.lst zs) ∧ xs.length + zs.length ≤ sizeLine ∧ Q .non (upd H l (.lst (xs ++ zs)))
theorem mt_extend : MtM X "list.extend" rExtend := by
  intro pins s σ H x vs v us Q I rx rv h
  obtain ⟨l, b, xs, zs, rfl, rfl, hH, hB, hz, q⟩ := h
  cases rx
  obtain ⟨u, rfl, ru⟩ := rv.one
  cases ru
  obtain ⟨z, its, n, r, hl, e⟩ := I.lstM hH
  obtain ⟨z2, its2, n2, r2, hl2, e2⟩ := I.lstM hB
  have hsz : its.toArray.size + its2.toArray.size ≤ sizeLine := by rw [List.size_toArray, List.size_toArray]; omega
  have hlong : ¬ (!its.toArray.isEmpty && Builtin.List.listTooLong (its.toArray.size + its2.toArray.size)) = true := by
    rw [notLongL hsz, Bool.and_false]
    exact Bool.false_ne_true
  refine call_meets F.slot_list_extend ⟨_, e, rfl⟩ F.entry_list_extend (F.args_list_extend_2 _ _)
    (AutoSeq1.list_extend_list_list_0 l its.toArray n b its2.toArray n2 hlong (by rw [List.size_toArray]; omega) (by omega)) ⟨e, e2, ?_⟩
  refine ⟨.non, _, I.lset (its' := its ++ its2) hH e (by simp) (r.append r2) ?_, rfl, q⟩
  rw [List.length_append]
  omega
def rCat : R2 := fun x y H Q => ∃ l b xs zs, x = .ref l ∧ y = .ref b ∧ H l = some (.lst xs) ∧ H b = some (.lst zs) ∧ xs.length + zs.length ≤ sizeLine ∧ ∀ p, H p = none → Q (.ref p) (upd H p (.lst (xs ++ zs)))
theorem op_cat : OpR X (binaryOp .Add) rCat := by
  intro pins s σ H x y v u Q I rx ry h
  obtain ⟨l, b, xs, zs, rfl, rfl, hH, hB, hz, q⟩ := h
  cases rx
  cases ry
  obtain ⟨z, its, n, r, hl, e⟩ := I.lstM hH
  obtain ⟨z2, its2, n2, r2, hl2, e2⟩ := I.lstM hB
  refine PySem.P.add_list e e2 ?_ (by rw [List.size_toArray, List.size_toArray]; omega)
  have ea : its.toArray ++ its2.toArray = (its ++ its2).toArray := by simp
  rw [ea]
  exact ⟨.ref _, _, I.lnew (t' := s.toks) (r.append r2) (by rw [List.length_append]; omega), rfl, q _ I.fresh⟩
def rRep : R2 := fun x y H Q => ∃ l k xs, x = .ref l ∧ y = .int k ∧ H l = some (.lst xs) ∧ -(2 ^ 63) ≤ k ∧ k < 2 ^ 63 ∧ xs.length * k.toNat ≤ sizeLine ∧
  ∀ p, H p = none → Q (.ref p) (upd H p (.lst (List.replicate k.toNat xs).flatten))
theorem len_rep {α : Type} (xs : List α) (k : Nat) : (List.replicate k xs).flatten.length = k * xs.length := by
  induction k with
  | zero => simp
  | succ k ih => rw [List.replicate_succ, List.flatten_cons, List.length_append, ih, Nat.succ_mul, Nat.add_comm]
theorem op_rep : OpR X (binaryOp .Mult) rRep := by
  intro pins s σ H x y v u Q I rx ry h
  obtain ⟨l, k, xs, rfl, rfl, hH, h1, h2, hz, q⟩ := h
  cases rx
  obtain ⟨t, rfl⟩ := ry
  obtain ⟨z, its, n, r, hl, e⟩ := I.lstM hH
  have hlen : its.toArray.size * k.toNat ≤ sizeLine := by rw [List.size_toArray, ← hl]; exact hz
  have hcap : ¬ its.toArray.size * k.toNat > (2 ^ 63 - 1) / 8 := by
    have : (sizeLine : Nat) ≤ (2 ^ 63 - 1) / 8 := by decide
    omega
  have hfit : ¬ (!Builtin.List.listFitsIndex k) = true := by
    rw [fitsIndex_both h1 h2]
    exact Bool.false_ne_true
  have hlong : ¬ Builtin.List.listTooLong (its.toArray.size * k.toNat) = true := by
    rw [notLongL hlen]
    exact Bool.false_ne_true
  have hnew : List.foldl (fun x1 x2 => x1 ++ x2) #[] (List.replicate (if its.toArray.isEmpty = true then 0 else k.toNat) its.toArray) = (List.replicate k.toNat its).flatten.toArray := by
    have f0 : ∀ m : Nat, List.foldl (fun x1 x2 => x1 ++ x2) #[] (List.replicate m its.toArray) = (List.replicate m its).flatten.toArray := fun m => by
      have := foldl_rep its m []
      rw [List.nil_append] at this
      exact this
    rw [f0]
    cases its with
    | nil => simp
    | cons a r' => rw [if_neg (by simp)]
  refine wpAny_binaryOp_repeat_ref (T := "list") (U := "int") (by decide) ⟨_, e, rfl⟩ (fun s' => typeIs_int s' k t) noFill_list_mul F.fills_int_mul F.slot_int_rmul repeat_list F.slot_int_index.lookup
    (call_meets F.slot_int_rmul (typeIs_int s k t) F.entry_int_rmul (F.args_int_rmul_2 _ _) (int___rmul___int_list k t l its.toArray n)
      ⟨e, rfl, ⟨_, e, rfl⟩, call_meets F.slot_list_mul ⟨_, e, rfl⟩ F.entry_list_mul (F.args_list_mul_2 _ _) (AutoListH.list___mul___list_int_3 l its.toArray n k t hfit hcap hlong) ⟨e, ?_⟩⟩)
  rw [hnew]
  exact ⟨.ref _, _, I.lnew (t' := s.toks) (r.rep k.toNat) (by rw [len_rep, Nat.mul_comm]; exact hz), rfl, q _ I.fresh⟩
end
section
variable {prog : Program} {w : World} {A : Around} {E : Value → Shared → Prop} {s : Shared}
set_option maxRecDepth 100000 in
end
section
variable {X : Cx}
end
end L2
namespace Att
open PySem PySem.W PySem.Calls PyProof.Rows
theorem ints_of_wellAll {P : Params} {h : Heap} : ∀ (ns : List Int) (vs : List Value), WellAll P h vs (ns.map WData.int) → IntsAre vs ns := by
  intro ns
  induction ns with
  | nil =>
    intro vs w
    rw [List.map_nil] at w
    cases w
    exact .nil
  | cons n ns ih =>
    intro vs w
    rw [List.map_cons] at w
    cases w with
    | cons a b =>
      cases a
      exact .cons _ _ (ih _ b)
theorem script_of {l : OpenLaw} {n : Nat} (hn : l.most = some n) {P : Params} {h : Heap} {args : List WData} {vals : List Value}
    (hpre : l.row.toRowW.claim.pre args = true) (hwl : WellAll P h vals args) :
    ∃ a vs ns, vals = [Value.ref a] ∧ args = [WData.list (ns.map WData.int)] ∧ h.get? a = some { cls := .type "list", data := .seq vs.toArray } ∧ IntsAre vs ns ∧ ns.length ≤ n := by
  have hsh : WShape.hasAll [] args [.list .int] = true := (pre_splitW hpre).1
  have hc : l.pre.holds [] { args := args } = true := (pre_splitW hpre).2
  obtain ⟨d, r, rfl, h1, h2⟩ := hasAllW_cons hsh
  obtain rfl := hasAllW_nil h2
  obtain ⟨xs, rfl, h3⟩ := hasW_list h1
  obtain ⟨ns, rfl⟩ := items_int h3
  have hlen : ns.length ≤ n := by
    unfold OpenLaw.pre at hc
    have h4 : (WTm.not (.lt (.lit (.int (n : Int))) (.len (.arg 0)))).holds [] { args := [.list (ns.map .int)] } = true := by
      have h4 := (holds_andW hc).1
      rw [hn] at h4
      exact h4
    have h5 := condW_of h4 (w_not (w_lt w_lit (w_len_list (w_arg rfl))))
    rw [List.length_map] at h5
    refine Nat.le_of_not_lt fun q => ?_
    have q' : (n : Int) < ((ns.length : Nat) : Int) := by omega
    first
      | (rw [decide_eq_true q'] at h5; exact absurd h5 (by decide))
      | (simp at h5; omega)
  cases hwl with
  | cons w1 w2 =>
    cases w2
    cases w1 with
    | list ho hall => exact ⟨_, _, ns, rfl, rfl, ho, ints_of_wellAll ns _ hall, hlen⟩
theorem post_true (l : OpenLaw) (args : List WData) : l.row.toRowW.claim.post args (.bool true) args = true :=
  postW_of (r := l.row.toRowW) (X := (true == true))
    (show WShape.has [] (.bool true) .bool = true by first | rfl | decide | simp [WShape.has, WShape.arms, WShape.armsAll])
    (show (WTm.eq .res (.lit (.bool true))).value [] { args := args, res := some (.bool true), after := args } = some (.bool (true == true)) from w_eq_bool (w_res rfl) w_lit) rfl
theorem attach_call {l : OpenLaw} {n : Nat} {q : Program} {loose : List Str} {XP : (Str → Option Value) → Heap → Prop} {YP : World → Heap → Prop} {d : DefRec}
    (hn : l.most = some n) (hdf : d.params.defaults = [])
    (call : ∀ (w : World) (s₀ s₁ : Shared) (mg mb : Str → Option Value) (fa : Addr) (o : Obj) (pm cd doc : Value) (a : Addr) (vs : List Value) (ns : List Int),
      Ground q loose [] XP w s₀ mg mb s₁.heap → YP w s₁.heap →
      s₁.heap.get? fa = some o → o.data = .func (docDef d.name d.params d.body d.scope pm cd doc) → s₁.heap.CodeRec cd d.name → mg d.name = some (.ref fa) →
      s₁.heap.get? a = some { cls := .type "list", data := .seq vs.toArray } → IntsAre vs ns → ns.length ≤ n → s₁.gens = #[] →
      codeAny (model l.prog w) callerA (.call (.ref fa) ⟨[.ref a], []⟩) (fun r s' => r = .ok (.ret (.bool true)) ∧ OldK s₁.heap s'.heap ∧ s'.os = s₁.os ∧ AllBare s'.gens) s₁) :
    WalkO q loose XP YP l.row.toRowW d [] (fun f vs => PySem.call f vs) := by
  intro w s₀ s₁ mg mb G Y fa o pm cd doc dV kV ho hd hcd hD hmg hg args vals as hpre hlay hrd hwl hlo
  obtain rfl : dV = .none := Dflts.none hD hdf
  obtain rfl : kV = .none := Dflts.noKw hD
  obtain ⟨a, vs, ns, rfl, rfl, hobj, hints, hlen⟩ := script_of hn hpre hwl
  refine enter_call (codeAny_mono (call w s₀ s₁ mg mb fa o pm cd doc a vs ns G Y ho (fd_plain hd) hcd hmg hobj hints hlen hg) fun r s' hq => ?_)
  obtain ⟨rfl, h2, h3, h4⟩ := hq
  exact ⟨.inl ⟨.bool true, .bool true, [], rfl, fun _ => rfl, .bool true, post_true l _, fun _ => ⟨List.Pairwise.nil, fun _ hm => (nomatch hm)⟩⟩, h2, h3, h4⟩
section
variable {prog : Program} {w : World} {A : Around} {E : Value → Shared → Prop} {s : Shared} {K : Frag}
end
end Att
namespace L2
open PySem PySem.Spec PyProof.Rows
theorem vals_ints : ∀ {vs : List Value} {ns : List Int}, IntsAre vs ns → Vals (ns.map V.int) vs
  | _, _, .nil => .nil
  | _, _, .cons n t h => .cons ⟨t, rfl⟩ (vals_ints h)
def Only (H : Hp) : Prop := ∀ b, H b = none ∨ ∃ o xs, H b = some (.frz o (.lst xs))
theorem law_call {P : Program} {w : World} {K : PySem.W.Frag} {mg mb : Str → Option Value} {CX : CXT} {k : Nat} {fa a : Addr} {fd : FuncData} {x : Str} {sp : Sp} {s₁ : Shared} {vs : List Value} {ns : List Int}
    (KX : K.In s₁.heap) (hns : s₁.heap.Ns mainGlobals mg) (hb : s₁.heap.Ns builtinsNs mb) (hbb : ∀ x : Str, x ≠ "__name__" → mb x = bootBuiltins x) (hlim : s₁.heap.NoLimit) (hg : s₁.gens = #[])
    (ha : s₁.heap.get? a = some { cls := .type "list", data := .seq vs.toArray }) (hi : IntsAre vs ns) (hl : ns.length ≤ sizeLine) (hr : Room k callerA)
    (F : ∀ base : Heap, K.In base → base.Ns mainGlobals mg → FnOk P w K mg base CX k fa fd [x] sp) (hbind : ∀ (s : Shared) (u : Value), BindsTo s fd ⟨[u], []⟩ [(x, u)])
    (hsp : ∀ H : Hp, Only H → SqL K H a (ns.map V.int) → sp [.ref a] H (fun v _ => v = .bl true) fun _ _ _ => False)
    (hCX : ∀ H e s', CX [] H s₁ (fun _ _ _ => False) e s' → False) :
    codeAny (model P w) callerA (.call (.ref fa) ⟨[.ref a], []⟩) (fun r s' => r = .ok (.ret (.bool true)) ∧ OldK s₁.heap s'.heap ∧ s'.os = s₁.os ∧ AllBare s'.gens) s₁ := by
  have rv := vals_ints hi
  have lenV := hi.length
  have core : ∀ H : Hp, Only H → SqL K H a (ns.map V.int) → HOk P w H s₁.heap → (∀ b, H b ≠ none → b = a) → (H a ≠ none → K.lookup a = none) →
      codeAny (model P w) callerA (.call (.ref fa) ⟨[.ref a], []⟩) (fun r s' => r = .ok (.ret (.bool true)) ∧ OldK s₁.heap s'.heap ∧ s'.os = s₁.os ∧ AllBare s'.gens) s₁ := by
    intro H hO hS hok hA hK
    have base_of : ∀ {b : Addr} {o : Obj}, s₁.heap.get? b = some o → H b = none → (hidT s₁.heap H).get? b = some o := fun e n => hidT_get e n
    have noA : ∀ {b : Addr} {o : Obj} {es : Array DictEntry} {ep : Nat}, s₁.heap.get? b = some o → o.data = .dict es ep → H b = none := fun {b o es ep} e d => by
      cases q : H b with
      | none => rfl
      | some u =>
        have e' : b = a := hA b (by rw [q]; simp)
        subst e'
        rw [ha] at e; cases e
        have d' : Data.seq vs.toArray _ = Data.dict es ep := d
        cases d'
    have nsK : ∀ {b : Addr} {m : Str → Option Value}, s₁.heap.Ns b m → (hidT s₁.heap H).Ns b m := fun {b m} ⟨o, es, ep, e, d, r⟩ => ⟨o, es, ep, base_of e (noA e d), d, r⟩
    have hKb : K.In (hidT s₁.heap H) := fun b o e => base_of (KX b o e) (by
      cases q : H b with
      | none => rfl
      | some u =>
        have e' : b = a := hA b (by rw [q]; simp)
        subst e'
        rw [hK (by rw [q]; simp)] at e; cases e)
    have hM : Mod K mg (hidT s₁.heap H) := ⟨hKb, nsK hns, ⟨mb, nsK hb, hbb⟩, let ⟨mc, h1, h2⟩ := hlim; ⟨mc, nsK h1, h2⟩⟩
    have e0 : Env0 P w K mg (hidT s₁.heap H) callerA [] s₁ H := ⟨rfl, hM, fun b o e => of_hidT e, Nat.le_of_eq (hidT_size _ _), trivial, fun b hb => absurd (show b ∈ ([] : List Addr) from hb) (by simp), hok, .of_eq hg⟩
    refine codeAny_mono ((F _ hKb (nsK hns)).run callerA [] s₁ H ⟨[.ref a], []⟩ [.ref a] [.ref a] _ _ hr e0 (hbind s₁ (.ref a)) (.cons rfl .nil) (hsp H hO hS)) fun r s' h => ?_
    cases r with
    | error e => exact (hCX H e s' h).elim
    | ok fl =>
      cases fl with
      | next => exact False.elim h
      | brk => exact False.elim h
      | cont => exact False.elim h
      | ret u =>
        obtain ⟨v, H', os, bare, un, hok', r', q⟩ := h
        have q' : v = .bl true := q
        subst q'
        obtain rfl : u = Value.bool true := r'
        refine ⟨rfl, OldK.of_keep fun b o e => ?_, os, bare⟩
        cases q : H b with
        | none => exact un.keep b o e q (by intro z; exact absurd (show b ∈ ([] : List Addr) from z) (by simp)) (by simp)
        | some u =>
          rcases hO b with z | ⟨ob, xs, z⟩
          · rw [q] at z; cases z
          · have z2 := un.frzs b ob _ z
            obtain ⟨e1, _⟩ := hok b _ z
            obtain ⟨e2, _⟩ := hok' b _ z2
            rw [e] at e1; cases e1
            exact e2
  cases hk : K.lookup a with
  | some o =>
    have e := KX a o hk
    rw [ha] at e
    cases e
    refine core (fun _ => none) (fun _ => .inl rfl) (.inr ⟨_, vs.toArray, _, hk, rfl, rfl, rfl, by rw [List.size_toArray, lenV]; exact hl, by simpa using rv⟩) (fun b u z => by have z' : (none : Option HO) = some u := z; cases z') (fun b z => absurd rfl z) fun z => absurd rfl z
  | none =>
    refine core (fun b => if b = a then some (.frz { cls := .type "list", data := .seq vs.toArray } (.lst (ns.map V.int))) else none) (fun b => ?_) (.inl (.inr ⟨{ cls := .type "list", data := .seq vs.toArray }, if_pos rfl⟩)) (fun b u z => ?_) (fun b z => ?_) fun _ => hk
    · by_cases hb : b = a
      · exact .inr ⟨_, _, if_pos hb⟩
      · exact .inl (if_neg hb)
    · by_cases hb : b = a
      · have z' := (if_pos hb).symm.trans z
        cases z'
        subst hb
        exact ⟨ha, by rw [List.length_map]; exact hl, vs, _, rv, ha⟩
      · have z' := (if_neg hb).symm.trans z
        cases z'
    · by_cases hb : b = a
      · exact hb
      · exact absurd (if_neg hb) z
end L2
namespace L2
open PySem PySem.Spec PyProof.Rows
theorem walk_of {l : PySem.W.OpenLaw} {n k : Nat} {q : Program} {loose : List Str} {XP : (Str → Option Value) → Heap → Prop} {YP : World → Heap → Prop} {d : DefRec} {K : Params → PySem.W.Frag} {CX : World → CXT} {sp : World → Sp} {x : Str}
    (hn : l.most = some n) (hn2 : n ≤ sizeLine) (hdf : d.params.defaults = []) (hr : Room k callerA)
    (hY : ∀ (w : World) (h : Heap), YP w h → (K w.params).In h)
    (F : ∀ (w : World) (mg : Str → Option Value) (fa : Addr) (h : Heap), (K w.params).In h → h.Ns mainGlobals mg → mg d.name = some (.ref fa) →
      ∃ fd : FuncData, (∀ (s : Shared) (u : Value), BindsTo s fd ⟨[u], []⟩ [(x, u)]) ∧
        ∀ base : Heap, (K w.params).In base → base.Ns mainGlobals mg → FnOk l.prog w (K w.params) mg base (CX w) k fa fd [x] (sp w))
    (hsp : ∀ (w : World) (H : Hp) (a : Addr) (ns : List Int), ns.length ≤ n → Only H → SqL (K w.params) H a (ns.map V.int) → sp w [.ref a] H (fun v _ => v = .bl true) fun _ _ _ => False)
    (hCX : ∀ (w : World) (H : Hp) (s : Shared) (e : Value) (s' : Shared), CX w [] H s (fun _ _ _ => False) e s' → False) :
    PySem.W.WalkO q loose XP YP l.row.toRowW d [] (fun f vs => PySem.call f vs) := by
  refine Att.attach_call hn hdf fun w s₀ s₁ mg mb fa o pm cd doc a vs ns G Y ho hd hcd hmg hobj hints hlen hg => ?_
  have KX := hY w _ Y
  obtain ⟨fd, hb, hF⟩ := F w mg fa _ KX G.T.g hmg
  exact law_call KX G.T.g G.T.b G.T.builtins G.T.nolimit hg hobj hints (Nat.le_trans hlen hn2) hr hF hb (fun H hO hS => hsp w H a ns hlen hO hS) fun H e s' => hCX w H s₁ e s'
end L2
namespace L2
open PySem PySem.Spec PyProof.Rows
def inClass (s : Stmt) (j : Nat) : Stmt := match s with
  | .ClassDef _ _ _ body _ _ _ _ _ _ _ => body.getD j (.Pass ⟨0, 0, 0, 0⟩)
  | _ => .Pass ⟨0, 0, 0, 0⟩
def defArgs (s : Stmt) : Arguments := match s with
  | .FunctionDef _ a _ _ _ _ _ _ _ _ => a
  | _ => { posonlyargs := [], args := [], vararg := none, kwonlyargs := [], kw_defaults := [], kwarg := none, defaults := [] }
def defBody (s : Stmt) : List Stmt := match s with
  | .FunctionDef _ _ b _ _ _ _ _ _ _ => b
  | _ => []
def defScope (s : Stmt) : Scope := match s with
  | .FunctionDef _ _ _ _ _ _ sc _ _ _ => sc
  | _ => { kind := .function, names := [], isGenerator := false, isCoroutine := false }
abbrev CX0 : CXT := fun _ _ _ _ _ _ => False
abbrev E0 : XK := fun _ _ _ => False
theorem pass0 {X : Cx} : Passes CX0 X E0 := fun _ _ _ _ _ _ _ h => h.elim
structure Fun (K : PySem.W.Frag) (x qual : Str) (st : Stmt) (f : Addr) (fd : FuncData) : Prop where
  ex : ∃ (oc : Value) (od : Option Addr) (kV doc pm : Value) (an : Option Addr) (cdv ct : Value) (osl : Array (Option Value)),
    fd = PySem.W.fnOf x qual (defArgs st) (defBody st) (defScope st) .none kV doc pm an cdv ct ∧ K.lookup f = some ⟨oc, od, .func fd, osl⟩ ∧ PySem.W.codeIn K cdv qual = true
  kp : PySem.W.keepIn K (.ref f) = true
section
variable {P : Program} {w : World} {K : PySem.W.Frag} {mg : Str → Option Value} {base : Heap}
theorem Fun.ok {x qual : Str} {st : Stmt} {f : Addr} {fd : FuncData} {N ps : List Str} {k : Nat} {sp : Sp} (F : Fun K x qual st f fd) (S : FnScope N ps (defScope st)) (len : ∀ vs H Q E, sp vs H Q E → vs.length = ps.length)
    (hbody : ∀ (cdv : Value) (A : Around) (outer : List Env) (s : Shared) (H : Hp) (vs : List V) (Q : VK) (E : XK), Room k (A.deeper (envOfC qual (defScope st) s.heap.objs.size f cdv)) → sp vs H Q E →
      ∃ t, PSs (cxOf CX0 P w K mg base N qual (defScope st) f cdv A outer s H E).nox (defBody st) t ∧ t { nx := fun _ H' => Q .non H', rt := Q } (start N vs) H) : FnOk P w K mg base CX0 (k + 1) f fd ps sp := by
  obtain ⟨oc, od, kV, doc, pm, an, cdv, ct, osl, rfl, lk, hcd⟩ := F.ex
  refine fn_of lk hcd S len fun A outer s H vs Q E hr hsp => ?_
  obtain ⟨t, h, q⟩ := hbody cdv A outer s H vs Q E hr hsp
  exact ⟨t, h.nox, q⟩
theorem Fun.binds {x qual : Str} {st : Stmt} {f : Addr} {fd : FuncData} {ps : List Str} (F : Fun K x qual st f fd)
    (h : ∀ (kV doc pm : Value) (an : Option Addr) (cdv ct : Value) (us : List Value), us.length = ps.length → bindArgs (PySem.W.fnOf x qual (defArgs st) (defBody st) (defScope st) .none kV doc pm an cdv ct) ⟨us, []⟩ = pure (ps.zip us)) : Binds K fd ps [] := by
  obtain ⟨oc, od, kV, doc, pm, an, cdv, ct, osl, rfl, lk, hcd⟩ := F.ex
  exact .all (h kV doc pm an cdv ct)
theorem fun_mk {x qual : Str} {st : Stmt} {f : Addr} {oc : Value} {od an : Option Addr} {osl : Array (Option Value)} {kV doc pm cdv ct : Value} (l : K.lookup f = some ⟨oc, od, .func (PySem.W.fnOf x qual (defArgs st) (defBody st) (defScope st) .none kV doc pm an cdv ct), osl⟩)
    (c : PySem.W.codeIn K cdv qual = true) (k : PySem.W.keepIn K (.ref f) = true) : Fun K x qual st f (PySem.W.fnOf x qual (defArgs st) (defBody st) (defScope st) .none kV doc pm an cdv ct) := ⟨⟨oc, od, kV, doc, pm, an, cdv, ct, osl, rfl, l, c⟩, k⟩
end
section
variable {X : Cx}
end
theorem iteF {A B : Prop} (h : B) : if false = true then A else B := by
  rw [if_neg Bool.false_ne_true]
  exact h
theorem iteT {A B : Prop} (h : A) : if true = true then A else B := by
  rw [if_pos rfl]
  exact h
theorem ite2 {c A B : Prop} [Decidable c] (h1 : c → A) (h2 : ¬ c → B) : if c then A else B := by
  by_cases h : c
  · rw [if_pos h]
    exact h1 h
  · rw [if_neg h]
    exact h2 h
def Same (H H' : Hp) : Prop := ∀ b o, H b = some o → H' b = some o
theorem Same.refl (H : Hp) : Same H H := fun _ _ h => h
theorem Same.trans {H H1 H2 : Hp} (a : Same H H1) (b : Same H1 H2) : Same H H2 := fun c o h => b c o (a c o h)
theorem Same.free {H H' : Hp} (e : Same H H') {l : Addr} (h : H' l = Option.none) : H l = Option.none := by
  cases q : H l with
  | none => rfl
  | some o =>
    rw [e l o q] at h
    cases h
theorem Same.seq {K : PySem.W.Frag} {H H' : Hp} {a : Addr} {xs : List V} (e : Same H H') (h : SqL K H a xs) : SqL K H' a xs := by
  rcases h with (h | ⟨o, h⟩) | h
  · exact .inl (.inl (e _ _ h))
  · exact .inl (.inr ⟨o, e _ _ h⟩)
  · exact .inr h
end L2

set_option Elab.async false
set_option linter.all false
set_option maxRecDepth 100000
namespace L2
open PySem PySem.Spec PyProof.Rows
section
variable {P : Program} {w : World}
def CXE (P : Program) (w : World) : CXT := fun outer H s E e s' => ∃ (ea : Addr) (cls a0 : Value) (B : Heap) (H' : Hp),
  e = .ref ea ∧ s'.os = s.os ∧ AllBare s'.gens ∧ Un (frs outer) [] H H' s.heap s'.heap ∧ Heap.FlyingW B outer ea cls a0 s'.heap ∧ HOk P w H' B ∧
  (∀ b o, s.heap.get? b = some o → H b = none → b ∉ frs outer → B.get? b = some o) ∧ (∀ b o, s.heap.get? b = some o → b ∉ frs outer → ∃ o', B.get? b = some o') ∧ E cls none H'
structure Lies (X : Cx) (pins : List (Addr × Obj)) (σ : St) (H : Hp) (B : Heap) (s : Shared) : Prop where
  inv : Inv X pins σ H s
  hok : HOk X.prog X.w H B
  old : ∀ b o, X.s₀.heap.get? b = some o → X.H₀ b = none → b ∉ X.fs → b ∉ X.ex → B.get? b = some o
  there : ∀ b o, X.s₀.heap.get? b = some o → b ∉ X.fs → b ∉ X.ex → ∃ o', B.get? b = some o'
  pin : ∀ p ∈ X.pn ++ pins, B.get? p.1 = some p.2
variable {X : Cx} {pins : List (Addr × Obj)} {σ : St} {H H' : Hp} {s s' : Shared} {ea : Addr} {cls : Value} {B : Heap}
theorem Inv.neL (I : Inv X pins σ H s) {b : Addr} {o : Obj} (e : X.s₀.heap.get? b = some o) : b ≠ X.env.locals := Nat.ne_of_lt (Nat.lt_of_lt_of_le (Heap.lt_size e) I.ok.above)
theorem Inv.fly (I : Inv X pins σ H s) {E : XK} {e : Value} (h : CXE X.prog X.w X.stack H s E e s') : ∃ ea cls a0 B H', e = .ref ea ∧ Lies X pins σ H' B s' ∧ Heap.FlyingW B X.stack ea cls a0 s'.heap ∧ E cls none H' := by
  obtain ⟨ea, cls, a0, B, H', rfl, os, bare, un, fl, hok, old, there, hE⟩ := h
  refine ⟨ea, cls, a0, B, H', rfl, ⟨I.call' os un (hok.kept fl.1) bare (fun b z => absurd z (by simp)), hok, fun b o e n hf hx => ?_, fun b o e hf hx => ?_, fun p hp => ?_⟩, fl, hE⟩
  · refine old b o (I.base.keep b o e n hf hx) (I.base.free b o e n hx) fun z => ?_
    rcases List.mem_cons.mp (I.stkSub b z) with q | q
    · exact I.neL e q
    · exact hf q
  · obtain ⟨o', e'⟩ := I.base.there b o e hx
    refine there b o' e' fun z => ?_
    rcases List.mem_cons.mp (I.stkSub b z) with q | q
    · exact I.neL e q
    · exact hf q
  · obtain ⟨e, n, ne, nf, _⟩ := I.pin p hp
    refine old p.1 p.2 e n fun z => ?_
    rcases List.mem_cons.mp (I.stkSub _ z) with q | q
    · exact ne q
    · exact nf q
theorem Lies.move (F : Lies X pins σ H B s) {h' : Heap} {tk : Nat} (hB : B.StaysIn h') (up : s.heap.UpToSlots h') : Inv X pins σ H { s with heap := h', toks := tk } := by
  have I := F.inv
  have frame : ∀ b, b ∈ X.fs → ∀ o, s.heap.get? b = some o → (∃ o₀, X.s₀.heap.get? b = some o₀) → ∃ sl, h'.get? b = some { o with slots := sl } := fun b hb o e _ => by
    obtain ⟨_, o1, e1, d1⟩ := I.funs.mem hb
    rw [e] at e1; cases e1
    exact up b o e d1
  have cellK : ∀ c v, s.heap.IsCell c v → h'.IsCell c v := fun c v ⟨o, ho, hd⟩ => by
    obtain ⟨sl, e⟩ := up c o ho fun vs q => by rw [hd] at q; cases q
    exact ⟨_, e, hd⟩
  refine ⟨I.ok, I.os, I.bare, ⟨fun b o e n hf hx => hB b o (F.old b o e n hf hx), fun b o e n hf hx => ?_, I.base.free, fun b o e hx => ?_, I.base.tups, I.base.frzs, I.base.tbls⟩, ?_, fun x c e => ?_, I.free, I.freeC, fun p hp => ?_, F.hok.kept hB, I.len⟩
  · obtain ⟨sl, e1⟩ := I.base.slot b o e n hf hx
    obtain ⟨sl', e2⟩ := frame b hf _ e1 ⟨o, e⟩
    exact ⟨sl', e2⟩
  · by_cases hf : b ∈ X.fs
    · obtain ⟨o', e1⟩ := I.base.there b o e hx
      obtain ⟨sl', e2⟩ := frame b hf _ e1 ⟨o, e⟩
      exact ⟨_, e2⟩
    · obtain ⟨o', e'⟩ := F.there b o e hf hx
      exact ⟨o', hB b o' e'⟩
  · obtain ⟨m, hn, hl⟩ := I.loc
    refine ⟨m, up.ns hn, fun i x v e1 e2 e3 => ?_⟩
    obtain ⟨u, r, l⟩ := hl i x v e1 e2 e3
    refine ⟨u, r, ?_⟩
    rcases l with l | ⟨k, c, e, z⟩
    · exact .inl l
    · exact .inr ⟨k, c, e, cellK c _ z⟩
  · obtain ⟨v, z⟩ := I.cell x c e
    exact ⟨v, cellK c v z⟩
  · obtain ⟨_, r⟩ := I.pin p hp
    exact ⟨hB _ _ (F.pin p hp), r⟩
end
end L2

set_option Elab.async false
set_option linter.all false
set_option maxRecDepth 100000
namespace L2
open PySem PySem.Spec PyProof.Rows
section
variable {P : Program} {w : World} {K : PySem.W.Frag} {mg : Str → Option Value} {base : Heap} {N : List Str} {qual : Str} {scope : Scope} {f : Addr} {cd : Value} {A : Around} {outer : List Env} {s₀ : Shared} {H₀ : Hp} {E : XK}
theorem pass_on : Passes (CXE P w) (cxOf (CXE P w) P w K mg base N qual scope f cd A outer s₀ H₀ E) E := by
  intro pins σ H s e s' I h
  obtain ⟨ea, cls, a0, B, H', rfl, F, fl, hE⟩ := I.fly h
  show wpAny _ _ (leaving _ _) _ _ _
  refine wpAny_leaves_onW I.ok.frames rfl fl fun h' fl' up => ?_
  have J := F.move (tk := s'.toks) fl'.1 up
  exact ⟨ea, cls, a0, B, H', rfl, J.os, J.bare, J.base, fl', F.hok, fun b o e n hf => F.old b o e n hf (by simp [cxOf]), fun b o e hf => F.there b o e hf (by simp [cxOf]), hE⟩
theorem HOk.hide {H : Hp} {h : Heap} {l : List Addr} (x : HOk P w H h) (n : ∀ b ∈ l, H b = none) : HOk P w H (PySem.W.hideAll h l) := fun a o e =>
  (x a o e).stay (fun b u hb q => PySem.W.hideAll_get l q fun hm => by
    have z := n b hm
    rcases hb with rfl | hb
    · rw [e] at z; cases z
    · rw [hb] at z; cases z) (fun _ q => q) fun _ _ q => q
theorem exc_obj {C : Addr} {bmB : List Value} {newId : String} (q : PySem.W.excIn K C bmB newId = true) : ∃ nm qn N bs bm hd sn sub ab col dd k0 k1 k2 k3 k5,
    K.lookup C = some (excClassObj nm qn C N bs bm hd sn sub ab col dd k0 k1 k2 k3 k5 newId) ∧ PySem.W.nsOkIn K N = true ∧ PySem.W.nsIn K N "__init__" = some none ∧ PySem.W.tailIn K bmB bm = true := by
  unfold PySem.W.excIn at q
  split at q
  · rename_i dd cd sl ho
    split at q
    · rename_i C' bm k0 k1 k2 k3 n k5 hm hs
      simp only [Bool.and_eq_true, beq_iff_eq, Bool.not_eq_true'] at q
      obtain ⟨⟨⟨⟨⟨rfl, rfl⟩, hdel⟩, ht⟩, hok⟩, hni⟩ := q
      obtain ⟨nm, bs, mro, ns, qn, hd, sn, sub, ab, col, del⟩ := cd
      dsimp only at hm hdel hok hni
      subst hm hdel
      have hsl : sl = #[k0, k1, k2, k3, some (.builtin n), k5] := by
        obtain ⟨l⟩ := sl
        simp only at hs
        rw [hs]
      subst hsl
      exact ⟨nm, qn, ns, bs, bm, hd, sn, sub, ab, col, dd, k0, k1, k2, k3, k5, ho, hok, hni, ht⟩
    · cases q
  · cases q
theorem ns_of_K {N : Addr} (hok : PySem.W.nsOkIn K N = true) {h : Heap} (X : K.In h) : ∃ mN, (∀ h', K.In h' → h'.Ns N mN) ∧ ∀ x, PySem.W.nsIn K N x = some none → mN x = none := by
  have i := PySem.W.isNs_of_in X hok
  refine ⟨h.nsMap N, fun h' X' => ?_, fun x e => PySem.W.nsMap_none_of_in X hok e⟩
  obtain ⟨o, es, ep, ho, r⟩ := Heap.Ns.of_isNs i
  refine ⟨o, es, ep, ?_, r⟩
  unfold PySem.W.nsOkIn at hok
  split at hok
  · rename_i q
    have e := X _ _ q
    rw [ho] at e; cases e
    exact X' _ _ q
  · cases hok
def Throws (X : Cx) (W : St → XK) : Prop := ∀ (pins : List (Addr × Obj)) (σ : St) (H : Hp) (s : Shared) (ea : Addr) (h' : Heap) (C : Addr) (args : List Value), Inv X pins σ H s → Heap.MadeExcOf s.heap h' ea (.ref C) args → W σ (.ref C) none H → X.xe (.ref ea) { s with heap := h' }
def tRaise (W : St → XK) (C : Addr) (ta : TA) : TS := fun _ σ H => ta σ H fun vs H1 => vs.length ≤ sizeLine ∧ W σ (.ref C) none H1
theorem ps_raise {X : Cx} {W : St → XK} {C : Addr} {x : Str} {np cpos pos : Pos} {e : Expr} {es : List Expr} {t : TA} (ht : Throws X W) (hc : X.calm = true)
    (q : PySem.W.excIn X.K C [.type "ValueError", .type "Exception", .type "BaseException", .type "object"] "ValueError.__new__" = true) (hm : X.mg x = some (.ref C)) (ha : PA X (e :: es) t) (hg : Gl X x := by rfl)
    (hd : (x == ("__debug__" : Str)) = false := by decide) (he : starEach (e :: es) X.env = (false, eval e X.env) :: starEach es X.env := by rfl)
    (hpl : (backTo cpos (starEach es X.env)).any (·.1) = false := by rfl) :
    PS X (.Raise (some (.Call (.Name x np) (e :: es) [] cpos)) none pos) (tRaise W C t) := by
  intro pins s σ H D I h
  obtain ⟨nm, qn, NN, bs, bm, hdc, sn, sub, ab, col, dd, k0, k1, k2, k3, k5, lk, hok, hni, tl⟩ := exc_obj q
  obtain ⟨mN, hN, hno⟩ := ns_of_K hok I.kIn
  have hb : bm.contains (.type "BaseException") = true := (PySem.W.tail_of_in I.kIn tl).hasType F.excBase_ValueError.hasBase
  refine wpAny_Raise_call_subT (nm := nm) (q := qn) (C := C) (N := NN) (bs := bs) (hdct := hdc) (sn := sn) (sub := sub) (ab := ab) (col := col) (dd := dd) (k0 := k0) (k1 := k1) (k2 := k2) (k3 := k3) (k5 := k5) (mN := mN) F.excBase_ValueError hb (I.ok.hd hc) (by rw [he]; show (false || _) = false; exact hpl) (hno _ hni) (ld_glob I hg hm ⟨rfl, ?_⟩ hd)
  have key := ha cpos pins s σ H _ I h
  rw [he] at key ⊢
  refine Calls.evalArgs_plain (wpAny_mono key (fun us s2 ⟨vs, H1, I1, r, hl, hE⟩ => ?_) fun _ _ z => z)
  exact ⟨rfl, (by rw [← r.length]; exact hl), I1.kIn _ _ lk, hN _ I1.kIn, PySem.W.tail_of_in I1.kIn tl, fun h' ea mx => ht pins σ H1 s2 ea h' C _ I1 mx hE⟩
theorem Inv.lies {X : Cx} {pins : List (Addr × Obj)} {σ : St} {H : Hp} {s : Shared} (I : Inv X pins σ H s) : Lies X pins σ H (PySem.W.hideAll s.heap (frs X.stack)) s := by
  have nl : ∀ {b : Addr} {o : Obj}, X.s₀.heap.get? b = some o → b ∉ X.fs → b ∉ frs X.stack := fun {b o} e nf z => by
    rcases List.mem_cons.mp (I.stkSub b z) with y | y
    · exact I.neL e y
    · exact nf y
  refine ⟨I, I.hok.hide I.stkFree, fun b o e n hf hx => PySem.W.hideAll_get _ (I.base.keep b o e n hf hx) (nl e hf), fun b o e hf hx => ?_, fun p hp => ?_⟩
  · obtain ⟨o', e'⟩ := I.base.there b o e hx
    exact ⟨o', PySem.W.hideAll_get _ e' (nl e hf)⟩
  · obtain ⟨e, n, ne, nf, _⟩ := I.pin p hp
    refine PySem.W.hideAll_get _ e fun z => ?_
    rcases List.mem_cons.mp (I.stkSub _ z) with y | y
    · exact ne y
    · exact nf y
theorem throws_def : Throws (cxOf (CXE P w) P w K mg base N qual scope f cd A outer s₀ H₀ E) (fun _ => E) := by
  intro pins σ H s2 ea h' C args I mx hE
  have L := I.lies
  have hin : ∀ env ∈ (cxOf (CXE P w) P w K mg base N qual scope f cd A outer s₀ H₀ E).stack, ∀ b, env.frame = some b → b ∈ frs (cxOf (CXE P w) P w K mg base N qual scope f cd A outer s₀ H₀ E).stack := fun env he b hb => List.mem_filterMap.mpr ⟨env, he, hb⟩
  show wpAny _ _ (leaving _ _) _ _ _
  refine wpAny_leaves_madeW (s := { s2 with heap := h' }) (base := PySem.W.hideAll s2.heap (frs (cxOf (CXE P w) P w K mg base N qual scope f cd A outer s₀ H₀ E).stack)) (h := s2.heap) I.ok.frames rfl (fun b o z => PySem.W.of_hideAll _ z) (PySem.W.funFrames_hide I.stack hin) mx fun h'' t fl tup tn up => ?_
  have J := L.move (tk := s2.toks) fl.1 ((Heap.UpToSlots.of_keeps mx.keeps).trans up)
  exact ⟨ea, .ref C, .ref t, _, H, rfl, J.os, J.bare, J.base, fl, L.hok, fun b o e n hf => L.old b o e n hf (by simp [cxOf]), fun b o e hf => L.there b o e hf (by simp [cxOf]), hE⟩
end
end L2

set_option Elab.async false
set_option linter.all false
set_option maxRecDepth 100000
namespace L2
open PySem PySem.Spec PyProof.Rows
section
variable {X : Cx} {pins : List (Addr × Obj)} {σ : St} {H : Hp} {s : Shared}
def excO (ea : Addr) (cls : Value) : HO := .ext fun h => ∃ o vs, h.get? ea = some o ∧ o.cls = cls ∧ o.data = .fields vs
end
end L2

set_option Elab.async false
set_option linter.all false
set_option maxRecDepth 100000
namespace L2
open PySem PySem.Spec PySem.Calls PyProof.Rows PySem.W PySem.Builtin PySem.Builtin.ObjectAttr PySem.Builtin.Getset_descriptor
open Sem (wp)
def ExcAt (ea : Addr) (cls : Value) (h : Heap) : Prop := ∃ o vs, h.get? ea = some o ∧ o.cls = cls ∧ o.data = .fields vs
structure ExcCls (K : Frag) (C : Addr) : Prop where
  cls : (clsIn K C).isSome = true
  ga : findIn K (.ref C) "__getattribute__" = some (some (.builtin "BaseException.__getattribute__"))
  gt : findIn K (.ref C) "__getattr__" = some none
  cl : findIn K (.ref C) "__class__" = some (some (.builtin "object.__class__"))
  ob : subIn K (.ref C) (.type "object") = some true
  be : subIn K (.ref C) (.type "BaseException") = some true
section
variable {prog : Program} {w : World} {A : Around} {E : Value → Shared → Prop} {K : Frag} {C ea : Addr} {h : Heap} {g : Array GenState} {d : Drawn} {t : Nat} {os : OsState} {o : Obj}
theorem exc_type {M : Model} (hx : h.get? ea = some o) (hc : o.cls = .ref C) : Looks M h (typeOf (.ref ea)) (.ref C) := hc ▸ (Looks.ld hx).andThen .now
theorem exc_class_get {R : Result → Shared → Prop} (X : K.In h) (c : ExcCls K C) (hx : h.get? ea = some o) (hc : o.cls = .ref C) (hq : R (.ok (.ret (.ref C))) ⟨h, g, d, t, os⟩) :
    codeAny (model prog w) A (.call (.builtin "getset_descriptor.__get__") ⟨[.builtin "object.__class__", .ref ea, .ref C], []⟩) R ⟨h, g, d, t, os⟩ := by
  have L0 := exc_type (M := model prog w) hx hc
  have L1 := looks_subIn (M := model prog w) X c.ob
  refine codeAny_call_builtin KF.slot_gs.plain KF.entry_gs (KF.slot_gs.check _ _ _ _ _ _ _ _ KF.type_class (KF.args_gs _ _ _) ?_)
  unfold Builtin.«getset_descriptor.__get__» descrGet
  rw [dga_obj]
  refine wpAny_bind (wpAny_pure ?_)
  unfold descrGetter descrCheckInstance descrNameAndClass isInstance
  simp only [KF.owner_class]
  repeat lk
  refine ⟨Code.quiet_builtin _ (by decide +kernel), codeAny_builtin KF.entry_class ?_⟩
  unfold Builtin.«object.__class__» shownTypeOf
  repeat lk
  exact hq
theorem exc_check_ga {M : Model} {nameV : Value} {Q : Unit → Shared → Prop} (X : K.In h) (c : ExcCls K C) (hx : h.get? ea = some o) (hc : o.cls = .ref C) (hq : Q () ⟨h, g, d, t, os⟩) :
    wpAny M A (checkBuiltinCall "BaseException.__getattribute__" ⟨[.ref ea, nameV], []⟩) Q E ⟨h, g, d, t, os⟩ := by
  have hk : builtinKind "BaseException.__getattribute__" = some .slot := by decide +kernel
  have hsplit : splitId "BaseException.__getattribute__" = some ("BaseException", "__getattribute__") := by decide +kernel
  have L0 := exc_type (M := M) hx hc
  have L1 := looks_subIn (M := M) X c.be
  have ha := F.args_bexc_ga (.ref ea) nameV
  have LI : Looks M h (isInstance (.ref ea) (.type "BaseException")) true := L0.andThen L1
  simp only [checkBuiltinCall, hk, hsplit]
  refine wpAny_bind (LI.at ?_)
  repeat (first | assumption | lk | wp_step)
theorem exc_entry {tk : Tok} {Q : Fin → Shared → Prop} (X : K.In h) (c : ExcCls K C) (hx : h.get? ea = some o) (hc : o.cls = .ref C) (hq : Q (.done (.ret (.ref C))) ⟨h, g, d, t, os⟩) :
    wpAny (model prog w) A (Builtin.«object.__getattribute__» ⟨[.ref ea, .str "__class__" tk], []⟩) Q E ⟨h, g, d, t, os⟩ := by
  have hT5 : (⟨h, g, d, t, os⟩ : Shared).TypeIs (.builtin "object.__class__") "getset_descriptor" := F.typeOf_object_class
  have L2 := looks_findIn (M := model prog w) X c.cl
  have f5 := F.typeOf_object_class
  have f6 := F.slot_gs_get.lookup
  have f7 := F.slot_gs_set.lookup
  repeat (any_goals (first | assumption | (with_reducible refine wpAny_loadPart_at hx ?_; rw [hc]) | with_reducible refine L2.at ?_ | wp_step))
  refine exc_class_get X c hx hc ?_
  repeat (any_goals (first | assumption | wp_step))
theorem exc_by {tk : Tok} {Q : Value → Shared → Prop} (X : K.In h) (c : ExcCls K C) (hx : h.get? ea = some o) (hc : o.cls = .ref C) (hq : Q (.ref C) ⟨h, g, d, t, os⟩) :
    wpAny (model prog w) A (getAttrBy (.ref ea) (.str "__class__" tk) false) Q E ⟨h, g, d, t, os⟩ := by
  have f3 := F.attr_ValueError.ga.bind (.ref ea)
  have hx2 : (Value.builtin "BaseException.__getattribute__" == Value.builtin "object.__getattribute__") = false := by decide +kernel
  have hx1 : (onTheHeap (Value.ref C) && Value.builtin "BaseException.__getattribute__" == Value.builtin "object.__getattribute__") = false := by rw [hx2]; rfl
  have L2 := looks_findIn (M := model prog w) X c.ga
  have L3 := looks_findIn (M := model prog w) X c.gt
  repeat (any_goals (first | assumption | (with_reducible refine wpAny_loadPart_at hx ?_; rw [hc]) | with_reducible refine L2.at ?_ | with_reducible refine L3.at ?_ | wp_step))
  refine codeAny_call_builtin F.attr_ValueError.ga.plain F.entry_bexc_ga (exc_check_ga X c hx hc (exc_entry X c hx hc ?_))
  repeat (any_goals (first | assumption | wp_step))
theorem exc_attr {Q : Option Value → Shared → Prop} (X : K.In h) (c : ExcCls K C) (hx : h.get? ea = some o) (hc : o.cls = .ref C) (hq : Q (some (.ref C)) ⟨h, g, d, t + 1, os⟩) : wpAny (model prog w) A (getAttr? (.ref ea) "__class__") Q E ⟨h, g, d, t, os⟩ := by
  unfold getAttr? getAttrBy?
  repeat (any_goals (first | assumption | with_reducible apply exc_by X c hx hc | wp_step))
theorem kitx_exc (c : ExcCls K C) : KitX K (.ref ea) (.ref C) (ExcAt ea (.ref C)) where
  ty := fun _ _ _ ⟨_, _, e, q, _⟩ => exc_type e q
  it := fun _ _ X _ => by
    obtain ⟨cdD, hcD⟩ := Option.isSome_iff_exists.mp c.cls
    unfold clsIn at hcD
    split at hcD
    · rename_i c' d' cd' sl' ho
      intro A' Q' E' s' k q
      unfold isType loadHead
      exact wpAny_bind (wpAny_loadPart (k _ _ (X _ _ ho)) (wpAny_pure q))
    · cases hcD
  ne := fun h tp dd its n sl X htp => by
    obtain ⟨cdD, hcD⟩ := Option.isSome_iff_exists.mp c.cls
    refine Bool.eq_false_iff.mpr fun q => ?_
    have e : C = tp := Value.ref.inj (beq_iff_eq.mp q)
    subst e
    unfold clsIn at hcD
    split at hcD
    · rename_i c' d' cd' sl' ho
      have z := (X _ _ ho).symm.trans htp
      cases z
    · cases hcD
  ca := fun {prog w A E Q s} X ⟨o, vs, e, q, _⟩ k => by
    obtain ⟨h, g, d, t, os⟩ := s
    exact exc_attr X c e q k
end
end L2

set_option Elab.async false
set_option linter.all false
set_option maxRecDepth 100000
namespace L2
open PySem PySem.Spec PyProof.Rows
mutual
inductive Is (K : PySem.W.Frag) (H : Hp) : V → PyData → Prop
  | non : Is K H .non .none
  | bl (b : Bool) : Is K H (.bl b) (.bool b)
  | int (i : Int) : Is K H (.int i) (.int i)
  | str (x : Str) : Is K H (.str x) (.str x)
  | lst {a : Addr} {xs : List V} {ds : List PyData} : SqL K H a xs → IsAll K H xs ds → Is K H (.ref a) (.list ds)
  | tup {a : Addr} {xs : List V} {ds : List PyData} : SqT K H a xs → IsAll K H xs ds → Is K H (.ref a) (.tuple ds)
inductive IsAll (K : PySem.W.Frag) (H : Hp) : List V → List PyData → Prop
  | nil : IsAll K H [] []
  | cons {x : V} {xs : List V} {d : PyData} {ds : List PyData} : Is K H x d → IsAll K H xs ds → IsAll K H (x :: xs) (d :: ds)
end
theorem Same.tup {K : PySem.W.Frag} {H H' : Hp} {a : Addr} {xs : List V} (e : Same H H') (h : SqT K H a xs) : SqT K H' a xs := by
  rcases h with (h | ⟨o, h⟩) | h
  · exact .inl (.inl (e _ _ h))
  · exact .inl (.inr ⟨o, e _ _ h⟩)
  · exact .inr h
section
variable {X : Cx} {pins : List (Addr × Obj)} {σ : St} {H H' : Hp} {s : Shared} {K : PySem.W.Frag}
mutual
theorem Is.same : ∀ (d : PyData) {x : V}, Is K H x d → Same H H' → Is K H' x d
  | .none, _, r, _ => by cases r; exact .non
  | .bool _, _, r, _ => by cases r; exact .bl _
  | .int _, _, r, _ => by cases r; exact .int _
  | .str _, _, r, _ => by cases r; exact .str _
  | .list ds, _, r, e => by cases r with | lst h1 h2 => exact .lst (e.seq h1) (IsAll.same ds h2 e)
  | .tuple ds, _, r, e => by cases r with | tup h1 h2 => exact .tup (e.tup h1) (IsAll.same ds h2 e)
  | .dict _, _, r, _ => nomatch r
theorem IsAll.same : ∀ (ds : List PyData) {xs : List V}, IsAll K H xs ds → Same H H' → IsAll K H' xs ds
  | [], _, r, _ => by cases r; exact .nil
  | d :: ds, _, r, e => by cases r with | cons h1 h2 => exact .cons (Is.same d h1 e) (IsAll.same ds h2 e)
end
mutual
theorem Is.reads : ∀ (d : PyData) {x : V} {u : Value}, Inv X pins σ H s → Is X.K H x d → RelV x u → ∃ as, Reads s.heap u d as
  | .none, _, _, _, r, q => by cases r; cases q; exact ⟨_, .none⟩
  | .bool _, _, _, _, r, q => by cases r; cases q; exact ⟨_, .bool _⟩
  | .int _, _, _, _, r, q => by cases r; obtain ⟨t, rfl⟩ := q; exact ⟨_, .int _ _⟩
  | .str _, _, _, _, r, q => by cases r; obtain ⟨t, rfl⟩ := q; exact ⟨_, .str _ _⟩
  | .list ds, _, _, I, r, q => by
    cases r with
    | lst h1 h2 =>
      cases q
      obtain ⟨its, rv, ⟨o, n, e, c, _, d⟩, _⟩ := I.list h1
      obtain ⟨as, ra⟩ := IsAll.reads ds I h2 rv
      exact ⟨_, .list e c d (by simpa using ra)⟩
  | .tuple ds, _, _, I, r, q => by
    cases r with
    | tup h1 h2 =>
      cases q
      obtain ⟨its, rv, ⟨o, e, c, n, d⟩, _⟩ := I.tuple h1
      obtain ⟨as, ra⟩ := IsAll.reads ds I h2 rv
      exact ⟨_, .tuple e c d (by simpa using ra)⟩
  | .dict _, _, _, _, r, _ => nomatch r
theorem IsAll.reads : ∀ (ds : List PyData) {xs : List V} {us : List Value}, Inv X pins σ H s → IsAll X.K H xs ds → Vals xs us → ∃ as, ReadsAll s.heap us ds as
  | [], _, _, _, r, q => by cases r; cases q; exact ⟨_, .nil⟩
  | d :: ds, _, _, I, r, q => by
    cases r with
    | cons h1 h2 =>
      cases q with
      | cons q1 q2 =>
        obtain ⟨as, ra⟩ := Is.reads d I h1 q1
        obtain ⟨bs, rb⟩ := IsAll.reads ds I h2 q2
        exact ⟨_, .cons ra rb⟩
end
def rEqD (K : PySem.W.Frag) (neg : Bool) : R2 := fun x y H Q => ∃ d d', Is K H x d ∧ Is K H y d' ∧ d.canLay0 = true ∧ d'.canLay0 = true ∧ d.depth ≤ 32 ∧ Q (.bl (if neg then !PyData.eqv d d' else PyData.eqv d d')) H
theorem op_eqD (hu : X.A.units + 64 < cLine) : OpR X (compareOp .Eq) (rEqD X.K false) := by
  intro pins s σ H x y v u Q I rx ry ⟨d, d', h1, h2, c1, c2, hd, q⟩
  obtain ⟨as, ra⟩ := Is.reads d I h1 rx
  obtain ⟨bs, rb⟩ := Is.reads d' I h2 ry
  exact SeqAt.rcAt_reads ra rb c1 c2 (by have := Nat.min_le_left d.depth d'.depth; omega) _ _ _ _ ⟨.bl _, H, I, rfl, q⟩
theorem op_neD (hu : X.A.units + 64 < cLine) : OpR X (compareOp .NotEq) (rEqD X.K true) := by
  intro pins s σ H x y v u Q I rx ry ⟨d, d', h1, h2, c1, c2, hd, q⟩
  obtain ⟨as, ra⟩ := Is.reads d I h1 rx
  obtain ⟨bs, rb⟩ := Is.reads d' I h2 ry
  exact SeqAt.rcNeAt_reads ra rb c1 c2 (by have := Nat.min_le_left d.depth d'.depth; omega) _ _ _ _ ⟨.bl _, H, I, rfl, q⟩
end
end L2

set_option Elab.async false
set_option linter.all false
set_option maxRecDepth 100000
namespace L2
open PySem PySem.Spec PyProof.Rows
def cutC {α : Type} (cs : List α) (lo hi : Option Int) : List α := (cs.drop (HT.sIx cs.length 0 lo)).take (HT.sIx cs.length cs.length hi - HT.sIx cs.length 0 lo)
def cutS (z : Str) (lo hi : Option Int) : Str := ⟨(cutC z.cps.toList lo hi).toArray⟩
theorem cutS_length (z : Str) (lo hi : Option Int) : (cutS z lo hi).length ≤ z.length := by
  show ((cutC z.cps.toList lo hi).toArray).size ≤ z.cps.size
  rw [List.size_toArray]
  unfold cutC
  rw [List.length_take, List.length_drop]
  simp only [Array.length_toList]
  omega
theorem sIx_hi_le (n : Nat) (o : Option Int) : HT.sIx n n o ≤ n := HT.sIx_le n n (Nat.le_refl _) o
theorem sIx_lo_le (n : Nat) (o : Option Int) : HT.sIx n 0 o ≤ n := HT.sIx_le n 0 (Nat.zero_le _) o
theorem range_gen (a b : Nat) : sliceRange (a : Int) (b : Int) 1 = (List.range (b - a)).map (fun k => a + k) := by
  unfold sliceRange
  simp only [show ((1 : Int) > 0) from by decide, if_true]
  by_cases hlt : (a : Int) < b
  · have e3 : (((b : Int) - a + 1 - 1) / 1).toNat = b - a := by simp <;> omega
    simp only [hlt, if_true, e3]
    refine List.map_congr_left fun k _ => ?_
    omega
  · have : b - a = 0 := by omega
    simp [hlt, this]
theorem idx_gen (lo hi : Option Int) (n : Nat) : Builtin.Str.strSliceIndices lo hi 1 n = (List.range (HT.sIx n n hi - HT.sIx n 0 lo)).map (fun k => HT.sIx n 0 lo + k) := by
  have key : ∀ (v : Int) (d : Nat), max (0 : Int) (min (if v < 0 then v + (n : Int) else v) (n : Int)) = ((HT.sIx n d (some v) : Nat) : Int) := by
    intro v d
    rw [← HT.clip_eq v n d]
    by_cases hv : v < 0
    · rw [if_pos hv, if_pos hv]; omega
    · rw [if_neg hv, if_neg hv]; omega
  rw [← range_gen]
  cases lo with
  | none =>
    cases hi with
    | none => rfl
    | some b =>
      show sliceRange 0 (max (0 : Int) (min (if b < 0 then b + (n : Int) else b) (n : Int))) 1 = _
      rw [key b n]
      rfl
  | some a =>
    cases hi with
    | none =>
      show sliceRange (max (0 : Int) (min (if a < 0 then a + (n : Int) else a) (n : Int))) (n : Int) 1 = _
      rw [key a 0]
      rfl
    | some b =>
      show sliceRange (max (0 : Int) (min (if a < 0 then a + (n : Int) else a) (n : Int))) (max (0 : Int) (min (if b < 0 then b + (n : Int) else b) (n : Int))) 1 = _
      rw [key a 0, key b n]
theorem picked_cut (z : Str) (lo hi : Option Int) : (Builtin.Str.strSliceIndices lo hi 1 z.length).filterMap (z.cps[·]?) = cutC z.cps.toList lo hi := by
  rw [idx_gen]
  have h1 := sIx_hi_le z.length hi
  have h2 := sIx_lo_le z.length lo
  have hl : z.cps.toList.length = z.length := by simp [Str.length]
  unfold cutC
  rw [hl]
  by_cases hc : HT.sIx z.length 0 lo ≤ HT.sIx z.length z.length hi
  · have := PySem.StrLaws.picks z.cps.toList (HT.sIx z.length z.length hi - HT.sIx z.length 0 lo) (HT.sIx z.length 0 lo) (by rw [hl]; omega)
    simpa using this
  · have e : HT.sIx z.length z.length hi - HT.sIx z.length 0 lo = 0 := by omega
    rw [e]
    simp
theorem cut_whole (z : Str) (lo hi : Option Int) (h : (Builtin.Str.strSliceIndices lo hi 1 z.length).length = z.length) : cutS z lo hi = z := by
  rw [idx_gen, List.length_map, List.length_range] at h
  have h1 := sIx_hi_le z.length hi
  have h2 := sIx_lo_le z.length lo
  have hl : z.cps.toList.length = z.length := by simp [Str.length]
  unfold cutS cutC
  rw [hl]
  by_cases h0 : z.length = 0
  · have : z.cps.toList = [] := List.length_eq_zero_iff.mp (by omega)
    rw [this]
    cases z with | mk c => cases c; simp_all
  · have e1 : HT.sIx z.length 0 lo = 0 := by omega
    have e2 : HT.sIx z.length z.length hi = z.length := by omega
    rw [e1, e2, List.drop_zero, Nat.sub_zero, List.take_of_length_le (by omega)]
section
variable {X : Cx}
def rSlS : V → Option Int → Option Int → Hp → VK → Prop := fun x lo hi H Q => ∃ z, x = .str z ∧ z.length ≤ sizeLine ∧ Q (.str (cutS z lo hi)) H
theorem sl_str : SlR X rSlS := by
  intro pins s σ H x v vl vu lo hi sl Q I rx hs pl pu h
  obtain ⟨z, rfl, hz, q⟩ := h
  obtain ⟨t, rfl⟩ := rx
  refine ⟨"str", _, F.slot_str_getitem.lookup, typeIs_str s z t, ?_⟩
  obtain ⟨l, hl, hl2⟩ : ∃ l, vl = partValue l ∧ l.map (·.1) = lo := by
    cases pl with
    | none => exact ⟨none, rfl, rfl⟩
    | int i t => exact ⟨some (i, t), rfl, rfl⟩
  obtain ⟨u, hu, hu2⟩ : ∃ u, vu = partValue u ∧ u.map (·.1) = hi := by
    cases pu with
    | none => exact ⟨none, rfl, rfl⟩
    | int i t => exact ⟨some (i, t), rfl, rfl⟩
  subst hl hu
  refine wpAny_getItem_str_slice (l := l) (u := u) (st := none) hs rfl ?_
  unfold sliceMade slicePicked
  simp only [Option.map_none, Option.getD_none, hl2, hu2, beq_self_eq_true, Bool.true_and]
  by_cases hc : ((Builtin.Str.strSliceIndices lo hi 1 z.length).length == z.length) = true
  · rw [if_pos hc]
    rw [cut_whole z lo hi (beq_iff_eq.mp hc)] at q
    exact ⟨.str z, H, I, ⟨t, rfl⟩, q⟩
  · rw [if_neg hc, picked_cut]
    exact ⟨Nat.le_trans (cutS_length z lo hi) hz, .str _, H, I.tok _, ⟨_, rfl⟩, q⟩
def repS (z : Str) (n : Int) : Str := ⟨(List.replicate n.toNat z.cps.toList).flatten.toArray⟩
def rMulS : R2 := fun x y H Q => ∃ z n, x = .str z ∧ y = .int n ∧ 0 ≤ n ∧ n < 2 ^ 40 ∧ z.length * n.toNat ≤ sizeLine ∧ Q (.str (repS z n)) H
end
end L2

set_option Elab.async false
set_option linter.all false
set_option maxRecDepth 100000
namespace PySem.SeqAt
open AutoSeq1 (wpAny_loadPart')
open MeetsSeq MeetsSeq2 MeetsSeq3 SeqRoads2
end PySem.SeqAt
namespace L2
open PySem PySem.Spec PyProof.Rows
section
variable {X : Cx}
theorem op_mulS : OpR X (binaryOp .Mult) rMulS := by
  intro pins s σ H x y v u Q I rx ry ⟨z, n, e1, e2, h0, hn, hz, q⟩
  subst e1 e2
  obtain ⟨t, rfl⟩ := rx
  obtain ⟨t', rfl⟩ := ry
  have fold : ∀ (k : Nat) (acc : List Nat), ((List.replicate k z.cps).foldl (· ++ ·) acc.toArray) = (acc ++ (List.replicate k z.cps.toList).flatten).toArray := by
    intro k
    induction k with
    | zero => intro acc; simp
    | succ k ih =>
      intro acc
      rw [List.replicate_succ, List.foldl_cons, List.replicate_succ, List.flatten_cons]
      have e : acc.toArray ++ z.cps = (acc ++ z.cps.toList).toArray := by simp
      rw [e, ih, List.append_assoc]
  have f0 := fold n.toNat []
  simp only [List.nil_append] at f0
  have len : (repS z n).length = z.length * n.toNat := by
    show (List.flatten _).toArray.size = _
    rw [List.size_toArray, List.length_flatten, List.map_replicate, List.sum_replicate_nat]
    simp [Str.length, Nat.mul_comm]
  have sl : sizeLine ≤ 2 ^ 40 := by rw [sizeLine_eq]; decide
  refine P.mul_str (by simp; omega) (fun h1 _ => ?_) (fun _ _ => ?_) ?_
  · have hn0 : 0 < n := by omega
    have : ((z.length : Int)) ≤ (2 ^ 63 - 1) / n := by
      rw [Int.le_ediv_iff_mul_le hn0]
      have : ((z.length * n.toNat : Nat) : Int) ≤ 2 ^ 40 := by omega
      rw [Int.natCast_mul, Int.toNat_of_nonneg h0] at this
      omega
    omega
  · unfold Builtin.Str.tooLong
    rw [decide_eq_false_iff_not]
    omega
  · by_cases h1 : n < 1
    · have e : n = 0 := by omega
      subst e
      rw [if_pos h1]
      have e2 : repS z 0 = Str.empty := rfl
      rw [e2] at q
      exact ⟨by decide, .str _, H, I.tok _, ⟨_, rfl⟩, q⟩
    · rw [if_neg h1]
      by_cases h2 : (n == 1 || z.length == 0) = true
      · rw [if_pos h2]
        have e2 : repS z n = z := by
          rcases Bool.or_eq_true_iff.mp h2 with h | h
          · have e : n = 1 := beq_iff_eq.mp h
            subst e
            show (⟨(List.replicate 1 z.cps.toList).flatten.toArray⟩ : Str) = z
            simp
          · have e : z.length = 0 := beq_iff_eq.mp h
            have e' : z.cps.toList = [] := List.length_eq_zero_iff.mp (by simpa [Str.length] using e)
            unfold repS
            rw [e']
            cases z with | mk c => cases c; simp_all
        rw [e2] at q
        exact ⟨.str _, H, I, ⟨_, rfl⟩, q⟩
      · rw [if_neg h2]
        have e2 : (⟨(List.replicate n.toNat z.cps).foldl (· ++ ·) #[]⟩ : Str) = repS z n := by
          unfold repS
          rw [← f0]
        rw [e2]
        exact ⟨by rw [len]; exact hz, .str _, H, I.tok _, ⟨_, rfl⟩, q⟩
def Its (z : Str) : It := ⟨fun i _ => i < z.cps.size, fun i H x H' => H' = H ∧ ∃ c, z.cps.toList[i]? = some c ∧ x = .str ⟨#[c]⟩, fun i _ => z.cps.size ≤ i⟩
theorem turn_str {P : Program} {w : World} {K : PySem.W.Frag} {tg : Expr} (z : Str) (t : Tok) (it : Addr) : Turn P w K tg (Its z) [it] it (fun i h => h.IsStrIter it "str_ascii_iterator" z t i) where
  mem := by simp
  obj := fun i h st b hb => by
    have e : b = it := by simpa using hb
    subst e
    obtain ⟨o, e, c, d⟩ := st
    exact ⟨o, e, fun v z => by rw [d] at z; cases z⟩
  keep := fun i h h' ⟨o, e, r⟩ k => ⟨o, k it (by simp) o e, r⟩
  item := by
    intro X hP hw hK hc i pins s σ H E I hf st hg
    subst hP hw hK
    obtain ⟨f0, f1, f2, f3, f4, f5⟩ := hf it (by simp)
    have hx : z.cps[i]? = some z.cps[i] := Array.getElem?_eq_getElem hg
    refine wpAny_pyNext_ascii_item st hx fun h' st' sb => ?_
    have I1 : Inv X pins σ H { s with heap := h', toks := s.toks + 1 } := I.turned (t' := s.toks + 1) (fun b o hb e => (sb.2 b hb).trans e) f0 f1 f3 f4 f5
    obtain ⟨o, e, c, d⟩ := id st'
    exact ⟨_, rfl, go_of (s := { s with heap := h', toks := s.toks + 1 }) e c d (by decide) ⟨.str _, H, I1, ⟨_, rfl⟩, ⟨rfl, z.cps[i], by rw [Array.getElem?_toList]; exact hx, rfl⟩, st', fun b hb => (hf b hb).1⟩⟩
  done := by
    intro X hP hw hK hc i pins s σ H E I hf st hg
    subst hP hw hK
    obtain ⟨f0, f1, f2, f3, f4, f5⟩ := hf it (by simp)
    exact wpAny_pyNext_ascii_end (I.ok.hd hc) st (Array.getElem?_eq_none hg) fun h' eb => ⟨rfl, I.turned (t' := s.toks) (fun b o hb e => eb b o hb e) f0 f1 f3 f4 f5⟩
  self := fun _ _ _ _ _ st h => wpAny_pyIter_striter_ascii st h
def iStr (tl : TE) : TI := fun σ H R => tl σ H fun x H1 => ∃ z, x = .str z ∧ z.cps.all (· < 128) = true ∧ R (Its z) H1
theorem pi_str {tg l : Expr} {tl : TE} (hl : PE X l tl) : PI X tg l (iStr tl) := by
  intro pins s σ H R I h
  refine thn (hl pins s σ H _ I h) fun v s1 ⟨x, H1, I1, r1, q1⟩ => ?_
  obtain ⟨z, rfl, ha, q⟩ := q1
  obtain ⟨t, rfl⟩ := r1
  refine wpAny_pyIter_ascii ha ?_
  have I2 : Inv X pins σ H1 { s1 with heap := s1.heap.push { cls := .type "str_ascii_iterator", data := .fields #[.str z t, .int 0 0] } } := I1.kept (t' := s1.toks) fun b ob q => Heap.get?_push_of_some _ q
  exact ⟨_, [s1.heap.objs.size], _, Its z, H1, rfl, I2, turn_str z t _, ⟨_, Heap.get?_push_size _ rfl, rfl, rfl⟩, fun b hb => by
    have e : b = s1.heap.objs.size := by simpa using hb
    subst e
    exact I1.fpOk (Nat.le_refl _) (I1.hok.fresh (Nat.le_refl _)), q⟩
theorem call_int_text : CallR X (.type "int") (fun xs H Q => ∃ z n, xs = [.str z] ∧ PySem.intText? z = some n ∧ z.length ≤ 640 ∧ Q (.int n) H) := by
  intro pins s σ H xs us Q I r ⟨z, n, e, hn, hl, q⟩
  subst e
  obtain ⟨u, rfl, t, rfl⟩ := r.one
  exact PySem.W.KIN.call_text hn hl ⟨.int n, H, I.tok _, ⟨_, rfl⟩, q⟩
inductive TyX (K : PySem.W.Frag) (H : Hp) : V → Value → Prop where
  | of {x : V} {t : Value} (h : TyOf K H x t) : TyX K H x t
  | exc {a C : Addr} (e : H a = some (excO a (.ref C))) (c : ExcCls K C) : TyX K H (.ref a) (.ref C)
theorem isinst_x {pins : List (Addr × Obj)} {σ : St} {H : Hp} {s : Shared} {A : Around} {E : Value → Shared → Prop} {Q : Value → Shared → Prop} {c : Value} {b : Bool} {x : V} {u t : Value} (I : Inv X pins σ H s) (rx : RelV x u) (ty : TyX X.K H x t) (e : PySem.W.kitOne X.K t c = some b) (h : ∀ tk, Q (.bool b) { s with toks := tk }) :
    wpAny (model X.prog X.w) A (call (.builtin "isinstance") [u, c]) Q E s := by
  cases ty with
  | of ty => exact isinst_ok I rx ty e h
  | @exc a C ea ec =>
    cases (show u = Value.ref a from rx)
    obtain ⟨p, _⟩ := (show ObjOk X.prog X.w H s.heap a (excO a (.ref C)) from I.hok a _ ea)
    exact PySem.W.kia_one (kitx_exc ec) I.kIn p e (fun z => nomatch z) h
def clsV : V → Option Value
  | .ref a => some (.ref a)
  | .ty n => some (.type n)
  | _ => none
theorem clsV_rel {c : V} {u v : Value} (e : clsV c = some v) (r : RelV c u) : u = v := by
  cases c <;> simp only [clsV] at e <;> first | (cases e; done) | (cases e; exact r)
theorem call_isi : CallR X (.builtin "isinstance") (fun xs H Q => ∃ x c t v b, xs = [x, c] ∧ TyX X.K H x t ∧ clsV c = some v ∧ PySem.W.kitOne X.K t v = some b ∧ Q (.bl b) H) := by
  intro pins s σ H xs us Q I r ⟨x, c, t, v, b, e, ty, hc, hk, q⟩
  subst e
  obtain ⟨u, w, rfl, ru, rw'⟩ := r.two
  cases clsV_rel hc rw'
  exact isinst_x I ru ty hk fun tk => ⟨.bl b, H, I.tok _, rfl, q⟩
theorem clsV_all : ∀ {cs : List V} {us vs : List Value}, cs.mapM clsV = some vs → Vals cs us → us = vs
  | [], _, vs, e, r => by cases r; simp at e; exact e.symm
  | c :: cs, _, vs, e, r => by
    cases r with
    | cons r1 r2 =>
      simp only [List.mapM_cons, Option.bind_eq_bind, Option.bind_eq_some_iff, Option.pure_def, Option.some.injEq] at e
      obtain ⟨v, hv, vs', hvs, rfl⟩ := e
      rw [clsV_rel hv r1, clsV_all hvs r2]
theorem call_isiT : CallR X (.builtin "isinstance") (fun xs H Q => ∃ a C p cs vs b, xs = [.ref a, .ref p] ∧ H a = some (excO a (.ref C)) ∧ ExcCls X.K C ∧ H p = some (.tup cs) ∧ cs.mapM clsV = some vs ∧ PySem.W.kitAny X.K (.ref C) vs = some b ∧ Q (.bl b) H) := by
  intro pins s σ H xs us Q I r ⟨a, C, p, cs, vs, b, e, ea, ec, hp, hc, hk, q⟩
  subst e
  obtain ⟨u, w, rfl, ru, rw'⟩ := r.two
  cases (show u = Value.ref a from ru)
  cases (show w = Value.ref p from rw')
  obtain ⟨p1, _⟩ := (show ObjOk X.prog X.w H s.heap a (excO a (.ref C)) from I.hok a _ ea)
  obtain ⟨_, its, rv, ⟨cls, dd, data, sl⟩, e1, c1, n, d1⟩ := (show ObjOk X.prog X.w H s.heap p (.tup cs) from I.hok p _ hp)
  simp only at c1 d1
  subst c1 d1
  cases clsV_all hc rv
  exact PySem.W.kia_tup (kitx_exc ec) I.kIn p1 e1 hk (fun z => nomatch z) fun tk => ⟨.bl b, H, I.tok _, rfl, q⟩
theorem pe_fRepr {e : Expr} {te : TE} {pos : Pos} (he : PE X e te) : PE X (.FormattedValue e 114 none pos) (fun σ H Q => te σ H fun x H1 => ∃ z, x = .str z ∧ (PySem.reprText z).length ≤ sizeLine ∧ Q (.str (PySem.reprText z)) H1) := by
  intro pins s σ H Q I h
  refine wpAny_FormattedValue_repr (thn (he pins s σ H _ I h) fun v s1 ⟨x, H1, I1, r1, q1⟩ => ?_)
  obtain ⟨z, rfl, hz, q⟩ := q1
  obtain ⟨t, rfl⟩ := r1
  refine wpAny_pyReprObj_gives (typeIs_str _ _ _) F.slot_str_repr F.entry_str_repr (F.args_str_repr_1 _) (gives_str_repr z t) ?_ rfl hz
  exact wpAny_formatField_str ⟨.str _, H1, I1.tok _, ⟨_, rfl⟩, q⟩ ⟨.str _, H1, I1.tok _, ⟨_, rfl⟩, q⟩ hz
abbrev TJ := Str → St → Hp → (Str → Hp → Prop) → Prop
def PJ (X : Cx) (es : List Expr) (t : TJ) : Prop := ∀ (acc : Str) (pins : List (Addr × Obj)) (s : Shared) (σ : St) (H : Hp) (Q : Str → Hp → Prop), Inv X pins σ H s → t acc σ H Q →
  Joins (model X.prog X.w) X.A X.xe (evalEach es X.env) acc (fun out s₁ => ∃ H', Inv X pins σ H' s₁ ∧ Q out H') s
theorem pj_nil : PJ X [] (fun acc _ H Q => Q acc H) := fun _ _ _ _ H _ I h => ⟨H, I, h⟩
theorem pj_cons {e : Expr} {es : List Expr} {te : TE} {tj : TJ} (he : PE X e te) (hs : PJ X es tj) (hh : evalEach (e :: es) X.env = eval e X.env :: evalEach es X.env := by rfl) :
    PJ X (e :: es) (fun acc σ H Q => te σ H fun x H1 => ∃ y, x = .str y ∧ (acc ++ y).length ≤ sizeLine ∧ tj (acc ++ y) σ H1 Q) := by
  intro acc pins s σ H Q I h
  rw [hh]
  refine thn (he pins s σ H _ I h) fun v s1 ⟨x, H1, I1, r1, q1⟩ => ?_
  obtain ⟨y, rfl, hz, q⟩ := q1
  obtain ⟨t, rfl⟩ := r1
  exact ⟨y, t, rfl, hz, hs _ pins s1 σ H1 Q I1 q⟩
theorem Joins.imp {M : Model} {A : Around} {E : Value → Shared → Prop} {Q Q' : Str → Shared → Prop} (hq : ∀ x s, Q x s → Q' x s) : ∀ {l : List (Sem Value)} {acc : Str} {s : Shared}, Joins M A E l acc Q s → Joins M A E l acc Q' s
  | [], _, _, h => hq _ _ h
  | x :: rest, acc, s, h => thn (t := x) h fun v s1 ⟨y, t, e, hz, r⟩ => ⟨y, t, e, hz, Joins.imp hq r⟩
theorem pe_joined {e e' : Expr} {es : List Expr} {tj : TJ} {pos : Pos} (h : PJ X (e :: e' :: es) tj) : PE X (.JoinedStr (e :: e' :: es) pos) (fun σ H Q => tj Str.empty σ H fun out H1 => out.length ≤ sizeLine ∧ Q (.str out) H1) := by
  intro pins s σ H Q I hw
  refine wpAny_JoinedStr (Joins.imp (fun out s1 ⟨H1, I1, hz, q⟩ => ?_) (h Str.empty pins s σ H _ I hw))
  exact ⟨hz, .str out, H1, I1.tok _, ⟨_, rfl⟩, q⟩
end
end L2

set_option Elab.async false
set_option linter.all false
set_option maxRecDepth 100000
namespace L2
open PySem PySem.Spec PyProof.Rows
section
variable {P : Program} {w : World} {K : PySem.W.Frag} {mg : Str → Option Value} {base : Heap}
theorem Fun.okX {x qual : Str} {st : Stmt} {f : Addr} {fd : FuncData} {N ps : List Str} {k : Nat} {sp : Sp} (F : Fun K x qual st f fd) (S : FnScope N ps (defScope st)) (len : ∀ vs H Q E, sp vs H Q E → vs.length = ps.length)
    (hbody : ∀ (cdv : Value) (A : Around) (outer : List Env) (s : Shared) (H : Hp) (vs : List V) (Q : VK) (E : XK), Room k (A.deeper (envOfC qual (defScope st) s.heap.objs.size f cdv)) → sp vs H Q E →
      ∃ t, PSs (cxOf (CXE P w) P w K mg base N qual (defScope st) f cdv A outer s H E) (defBody st) t ∧ t { nx := fun _ H' => Q .non H', rt := Q } (start N vs) H) : FnOk P w K mg base (CXE P w) (k + 1) f fd ps sp := by
  obtain ⟨oc, od, kV, doc, pm, an, cdv, ct, osl, rfl, lk, hcd⟩ := F.ex
  exact fn_of lk hcd S len fun A outer s H vs Q E hr hsp => hbody cdv A outer s H vs Q E hr hsp
def FnIn (P : Program) (w : World) (K : PySem.W.Frag) (mg : Str → Option Value) (base : Heap) (CX : CXT) (k : Nat) (x : Str) (ps : List Str) (sp : Sp) : Prop :=
  ∃ f fd, mg x = some (.ref f) ∧ PySem.W.keepIn K (.ref f) = true ∧ Binds K fd ps [] ∧ FnOk P w K mg base CX k f fd ps sp
end
section
variable {X : Cx} {CX : CXT} {k : Nat} {x : Str} {ps : List Str} {sp : Sp} {p pos : Pos} {e : Expr} {es : List Expr} {t : TA}
theorem pe_fn {E : XK} (D : FnIn X.prog X.w X.K X.mg X.base CX k x ps sp) (hr : Room k X.A) (hx : Passes CX X E) (ha : PA X (e :: es) t) (hg : Gl X x := by rfl)
    (hdb : (x == ("__debug__" : Str)) = false := by decide) (he : starEach (e :: es) X.env = (false, eval e X.env) :: starEach es X.env := by rfl) (hpl : (backTo pos (starEach es X.env)).any (·.1) = false := by rfl) :
    PE X (.Call (.Name x p) (e :: es) [] pos) (tCall sp [] E t) := by
  obtain ⟨f, fd, h1, h2, h3, h4⟩ := D
  exact pe_call h4 hr hg h1 h2 h3 .nil hx ha hdb he hpl
theorem pass_no {P : Program} {w : World} : Passes (CXE P w) X E0 := fun _ _ _ _ _ _ _ h => by
  obtain ⟨_, _, _, _, _, _, _, _, _, _, _, _, _, z⟩ := h
  exact z.elim
end
end L2

set_option Elab.async false
set_option linter.all false
set_option maxRecDepth 100000
namespace L2
open PySem PySem.Spec PyProof.Rows
section
variable {X : Cx}
theorem op_addG : OpR X (binaryOp .Add) (fun x y H Q => (∃ i j, x = .int i ∧ y = .int j ∧ Q (.int (i + j)) H) ∨ (∃ i j, x = .str i ∧ y = .str j ∧ i.length + j.length ≤ sizeLine ∧ Q (.str (i ++ j)) H) ∨ rCat x y H Q) := op_add.or (op_add_str.or op_cat)
theorem op_mulG : OpR X (binaryOp .Mult) (fun x y H Q => (∃ i j, x = .int i ∧ y = .int j ∧ CMul i j ∧ Q (.int (i * j)) H) ∨ rMulS x y H Q ∨ rRep x y H Q) := op_mul.or (op_mulS.or op_rep)
theorem op_eqG (hu : X.A.units + 64 < cLine) : OpR X (compareOp .Eq) (fun x y H Q => rEq x y H Q ∨ rEqD X.K false x y H Q) := op_eq.or (op_eqD hu)
theorem op_neG (hu : X.A.units + 64 < cLine) : OpR X (compareOp .NotEq) (fun x y H Q => rNe x y H Q ∨ rEqD X.K true x y H Q) := op_ne.or (op_neD hu)
def inS (i j : Str) : Bool := !(Builtin.Str.occurrences j i 0 j.length 1).isEmpty
theorem op_inG : OpR X (compareOp .In) (fun x y H Q => (∃ i j, x = .str i ∧ y = .str j ∧ Q (.bl (inS i j)) H) ∨ rIn X.K false x y H Q) := op_in_str.or op_in_seq
theorem op_notInG : OpR X (compareOp .NotIn) (fun x y H Q => (∃ i j, x = .str i ∧ y = .str j ∧ Q (.bl (!inS i j)) H) ∨ rIn X.K true x y H Q) := op_notIn_str.or op_notIn_seq
theorem call_lenG : CallR X (.builtin "len") (fun xs H Q => (∃ z, xs = [.str z] ∧ z.length ≤ sizeLine ∧ Q (.int z.length) H) ∨ ∃ p ys, xs = [.ref p] ∧ (SqL X.K H p ys ∨ SqT X.K H p ys) ∧ Q (.int ys.length) H) := call_len_str.or call_len_seq
theorem call_isiG : CallR X (.builtin "isinstance") (fun xs H Q => (∃ x c t v b, xs = [x, c] ∧ TyX X.K H x t ∧ clsV c = some v ∧ PySem.W.kitOne X.K t v = some b ∧ Q (.bl b) H) ∨
  ∃ a C p cs vs b, xs = [.ref a, .ref p] ∧ H a = some (excO a (.ref C)) ∧ ExcCls X.K C ∧ H p = some (.tup cs) ∧ cs.mapM clsV = some vs ∧ PySem.W.kitAny X.K (.ref C) vs = some b ∧ Q (.bl b) H) := call_isi.or call_isiT
theorem call_intG : CallR X (.type "int") (fun xs H Q => ∃ z n, xs = [.str z] ∧ PySem.intText? z = some n ∧ z.length ≤ 640 ∧ Q (.int n) H) := call_int_text
theorem sl_G : SlR X (fun x lo hi H Q => rSlS x lo hi H Q ∨ rSlL X.K x lo hi H Q) := sl_str.or sl_list
end
end L2

set_option Elab.async false
set_option linter.all false
set_option maxRecDepth 100000
namespace L2
open PySem PySem.Spec PyProof.Rows
theorem atI_in {α : Type} {xs : List α} {k : Int} (h0 : 0 ≤ k) (h : k < xs.length) : ∃ v, atI xs k = some v ∧ xs[k.toNat]? = some v := by
  have hlt : k.toNat < xs.length := by omega
  refine ⟨xs[k.toNat], ?_, List.getElem?_eq_getElem hlt⟩
  unfold atI ixN
  rw [if_pos h0, if_pos h]
  exact List.getElem?_eq_getElem hlt
theorem atI_int {ns : List Int} {k : Int} (h0 : 0 ≤ k) (h : k < ns.length) : atI (ns.map V.int) k = some (.int (ns.getD k.toNat 0)) := by
  obtain ⟨v, e1, e2⟩ := atI_in (xs := ns.map V.int) h0 (by simpa using h)
  have hlt : k.toNat < ns.length := by omega
  rw [List.getElem?_map, List.getElem?_eq_getElem hlt] at e2
  cases e2
  rw [e1]
  simp [List.getD, List.getElem?_eq_getElem hlt]
theorem Same.upd {H H' : Hp} {p : Addr} {o : HO} (s : Same H H') (h : H' p = none) : Same H (upd H' p o) := fun b o' e => by
  have e' := s b o' e
  rw [upd_ne (ne_of_none e' h)]
  exact e'
theorem Same.updN {H H' : Hp} {p : Addr} {o : HO} (s : Same H H') (h : H p = none) : Same H (L2.upd H' p o) := fun b o' e => by
  rw [upd_ne (ne_of_none e h)]
  exact s b o' e
end L2

set_option Elab.async false
set_option linter.all false
set_option maxRecDepth 100000
namespace L2
open PySem PySem.Spec PyProof.Rows
structure Nm (sc : Scope) (x : Str) : Prop where
  loc : sc.names.lookup x = some .local
  db : (x == ("__debug__" : Str)) = false
  cd : (x == ("__classdict__" : Str)) = false
structure Gm (sc : Scope) (x : Str) : Prop where
  gl : sc.names.lookup x = some .globalImplicit
  db : (x == ("__debug__" : Str)) = false
  nn : x ≠ "__name__"
theorem bt_len : bootBuiltins "len" = some (.builtin "len") := by decide +kernel
theorem bt_isinstance : bootBuiltins "isinstance" = some (.builtin "isinstance") := by decide +kernel
theorem bt_int : bootBuiltins "int" = some (.type "int") := by decide +kernel
theorem bt_bool : bootBuiltins "bool" = some (.type "bool") := by decide +kernel
theorem bt_str : bootBuiltins "str" = some (.type "str") := by decide +kernel
theorem bt_list : bootBuiltins "list" = some (.type "list") := by decide +kernel
theorem bt_tuple : bootBuiltins "tuple" = some (.type "tuple") := by decide +kernel
theorem bt_set : bootBuiltins "set" = some (.type "set") := by decide +kernel
theorem bt_min : bootBuiltins "min" = some (.builtin "min") := by decide +kernel
theorem bt_sorted : bootBuiltins "sorted" = some (.builtin "sorted") := by decide +kernel
theorem bt_all : bootBuiltins "all" = some (.builtin "all") := by decide +kernel
section
variable {X : Cx} {x : Str} {pos p : Pos}
theorem pvN (i : Nat) (n : Nm X.env.scope x) (hN : X.N[i]? = some x := by rfl) : PE X (.Name x pos) (tVar i) := pe_var hN (Or.inl n.loc) n.db n.cd
theorem pg_nm (i : Nat) (nd : X.N.Nodup) (n : Nm X.env.scope x) (hN : X.N[i]? = some x := by rfl) : PG X (.Name x pos) (gName i) := pg_name nd hN (Or.inl n.loc) (Or.inr n.loc)
theorem ps_nm (i : Nat) {e : Expr} {te : TE} {pos' : Pos} (nd : X.N.Nodup) (n : Nm X.env.scope x) (he : PE X e te) (hN : X.N[i]? = some x := by rfl) (hs : swapsWith e (some (.Name x pos')) pos.line X.env = pure false := by rfl) :
    PS X (.Assign [.Name x pos'] e pos) (tAsg te (gName i)) := ps_set nd hN (Or.inl n.loc) he hs (Or.inr n.loc)
theorem pe_gm {v : V} {u : Value} (g : Gm X.env.scope x) (hm : X.mg x = some u) (r : RelV v u) : PE X (.Name x pos) (tC v) := pe_glob g.gl hm r g.db
theorem pe_gb {v : V} {u : Value} (g : Gm X.env.scope x) (hm : X.mg x = none) (hv : bootBuiltins x = some u) (r : RelV v u) : PE X (.Name x pos) (tC v) := pe_bltn g.gl hm hv r g.nn g.db
variable {e : Expr} {es : List Expr} {t : TA} {id T : String} {r : List V → Hp → VK → Prop}
theorem pe_cb (hc : CallR X (.builtin id) r) (g : Gm X.env.scope x) (hm : X.mg x = none) (hv : bootBuiltins x = some (.builtin id)) (ha : PA X (e :: es) t)
    (he : starEach (e :: es) X.env = (false, eval e X.env) :: starEach es X.env := by rfl) (hpl : (backTo pos (starEach es X.env)).any (·.1) = false := by rfl) : PE X (.Call (.Name x p) (e :: es) [] pos) (tCB r t) := pe_callB hc g.gl hm hv ha g.nn g.db he hpl
theorem pe_ct (hc : CallR X (.type T) r) (g : Gm X.env.scope x) (hm : X.mg x = none) (hv : bootBuiltins x = some (.type T)) (ha : PA X (e :: es) t)
    (he : starEach (e :: es) X.env = (false, eval e X.env) :: starEach es X.env := by rfl) (hpl : (backTo pos (starEach es X.env)).any (·.1) = false := by rfl) : PE X (.Call (.Name x p) (e :: es) [] pos) (tCB r t) := pe_callTy hc g.gl hm hv ha g.nn g.db he hpl
theorem pe_fd {CX : CXT} {k : Nat} {ps : List Str} {sp : Sp} {E : XK} (D : FnIn X.prog X.w X.K X.mg X.base CX k x ps sp) (g : Gm X.env.scope x) (hr : Room k X.A) (hx : Passes CX X E) (ha : PA X (e :: es) t)
    (he : starEach (e :: es) X.env = (false, eval e X.env) :: starEach es X.env := by rfl) (hpl : (backTo pos (starEach es X.env)).any (·.1) = false := by rfl) :
    PE X (.Call (.Name x p) (e :: es) [] pos) (tCall sp [] E t) := pe_fn D hr hx ha g.gl g.db he hpl
theorem pi_r1 {tg b : Expr} {ta : TA} (g : Gm X.env.scope "range") (hm : X.mg "range" = none) (ha : PA X [b] ta) (hs : starEach [b] X.env = [(false, eval b X.env)] := by rfl) : PI X tg (.Call (.Name "range" p) [b] [] pos) (iRng1 ta) := pi_range1 g.gl hm ha hs
theorem ps_rs {W : St → XK} {C : Addr} {np cpos : Pos} (ht : Throws X W) (g : Gm X.env.scope x) (hc : X.calm = true) (q : PySem.W.excIn X.K C [.type "ValueError", .type "Exception", .type "BaseException", .type "object"] "ValueError.__new__" = true) (hm : X.mg x = some (.ref C)) (ha : PA X (e :: es) t)
    (he : starEach (e :: es) X.env = (false, eval e X.env) :: starEach es X.env := by rfl) (hpl : (backTo cpos (starEach es X.env)).any (·.1) = false := by rfl) :
    PS X (.Raise (some (.Call (.Name x np) (e :: es) [] cpos)) none pos) (tRaise W C t) := ps_raise ht hc q hm ha g.gl g.db he hpl
end
end L2

set_option Elab.async false
set_option linter.all false
set_option maxRecDepth 100000
namespace L2
open PySem PySem.Spec PyProof.Rows
def constOf : Expr → Option V
  | .Constant (.int i) _ _ => some (.int i)
  | .Constant (.str x) _ _ => some (.str x)
  | .Constant (.bool b) _ _ => some (.bl b)
  | .Constant .none _ _ => some .non
  | _ => none
def constsOf : List Expr → Option (List V)
  | [] => some []
  | e :: es => match constOf e, constsOf es with
    | some v, some vs => some (v :: vs)
    | _, _ => none
section
variable {X : Cx}
theorem pe_const {e : Expr} {v : V} (h : constOf e = some v) : PE X e (tC v) := by
  unfold constOf at h
  split at h <;> first | (cases h; first | exact pe_int | exact pe_str | exact pe_bl | exact pe_non) | cases h
theorem star_const {e : Expr} {v : V} (h : constOf e = some v) (es : List Expr) : starEach (e :: es) X.env = (false, eval e X.env) :: starEach es X.env := by
  unfold constOf at h
  split at h <;> first | rfl | cases h
theorem pa_consts : ∀ {es : List Expr} {vs : List V}, constsOf es = some vs → PA X es (fun _ H Q => Q vs H)
  | [], vs, h => by
    cases h
    exact pa_nil
  | e :: es, vs, h => by
    unfold constsOf at h
    split at h
    · rename_i v vs' h1 h2
      cases h
      exact pa_cons (pe_const h1) (pa_consts h2) (star_const h1 es)
    · cases h
end
end L2

set_option Elab.async false
set_option linter.all false
set_option maxRecDepth 100000
namespace L2
open PySem PySem.Spec PyProof.Rows
theorem relab {env : Env} {x : Str} : ∀ {ns : List (Str × NameKind)}, (ns.map fun (n, k) => if (k == NameKind.free && env.scope.kind == .function && env.kindOf n == some .cell) then (n, NameKind.cell) else (n, k)).lookup x
    = (ns.lookup x).map fun k => if (k == NameKind.free && env.scope.kind == .function && env.kindOf x == some .cell) then NameKind.cell else k
  | [] => rfl
  | (n, k) :: r => by
    have ih := @relab env x r
    rw [List.map_cons]
    cases q : x == n with
    | true =>
      have e : x = n := beq_iff_eq.mp q
      subst e
      rw [List.lookup_cons, List.lookup_cons, q]
      by_cases hc : (k == NameKind.free && env.scope.kind == .function && env.kindOf x == some .cell) = true
      · simp only [hc, if_true, q, Option.map_some]
      · simp only [hc, if_false, q, Option.map_some, Bool.false_eq_true]
    | false =>
      rw [List.lookup_cons, List.lookup_cons, q]
      by_cases hc : (k == NameKind.free && env.scope.kind == .function && env.kindOf n == some .cell) = true
      · simp only [hc, if_true, q]; exact ih
      · simp only [hc, if_false, q, Bool.false_eq_true]; exact ih
theorem relab_free {sc : Scope} {env : Env} {x : Str} (h : sc.names.lookup x = some .free) : (relabel sc env).names.lookup x = some .cell ∨ (relabel sc env).names.lookup x = some .free := by
  have e : (relabel sc env).names.lookup x = _ := relab
  rw [h] at e
  rw [e, Option.map_some]
  by_cases hc : (NameKind.free == NameKind.free && env.scope.kind == .function && env.kindOf x == some .cell) = true
  · rw [if_pos hc]; exact .inl rfl
  · rw [if_neg hc]; exact .inr rfl
theorem relab_other {sc : Scope} {env : Env} {x : Str} {k : NameKind} (h : sc.names.lookup x = some k) (hk : (k == NameKind.free) = false) : (relabel sc env).names.lookup x = some k := by
  have e : (relabel sc env).names.lookup x = _ := relab
  rw [h, Option.map_some, hk] at e
  exact e
theorem relab_back {sc : Scope} {env : Env} {x : Str} (hn : ∀ y ∈ sc.names, y.2 ≠ .cell) (h : (relabel sc env).names.lookup x = some .cell ∨ (relabel sc env).names.lookup x = some .free) : sc.names.lookup x = some .free := by
  have e : (relabel sc env).names.lookup x = _ := relab
  cases q : sc.names.lookup x with
  | none => rw [q] at e; rw [e] at h; rcases h with z | z <;> cases z
  | some k =>
    rw [q, Option.map_some] at e
    cases k with
    | free => rfl
    | cell => exact absurd rfl (hn _ (PySem.mem_of_lookup q))
    | _ => rw [e] at h; rcases h with z | z <;> cases z
theorem clos_ok {env : Env} : ∀ (ns : List (Str × NameKind)) (cs : List (Str × Addr)), (∀ y ∈ ns, y.2 = .free → ∃ c, env.cells.lookup y.1 = some c) → (∀ x c, cs.lookup x = some c → env.cells.lookup x = some c) →
    ∃ cl, (forIn ns cs fun (x : Str × NameKind) (r : List (Str × Addr)) => if (x.2 == .free) = true then do let c ← cellOf env x.1; pure (ForInStep.yield ((x.1, c) :: r)) else pure (ForInStep.yield r) : Sem (List (Str × Addr))) = pure cl ∧
      (∀ x c, cl.lookup x = some c → env.cells.lookup x = some c) ∧ (∀ y ∈ ns, y.2 = .free → ∃ c, cl.lookup y.1 = some c) ∧ ∀ x c, cs.lookup x = some c → ∃ c', cl.lookup x = some c'
  | [], cs, _, h2 => ⟨cs, rfl, h2, fun y hy => by simp at hy, fun x c e => ⟨c, e⟩⟩
  | (n, k) :: r, cs, h1, h2 => by
    rw [List.forIn_cons]
    by_cases hk : k = .free
    · subst hk
      obtain ⟨c, hc⟩ := h1 (n, .free) List.mem_cons_self rfl
      have hc : env.cells.lookup n = some c := hc
      obtain ⟨cl, e, p1, p2, p3⟩ := clos_ok r ((n, c) :: cs) (fun y hy => h1 y (List.mem_cons_of_mem _ hy)) (fun x c' e => by
        rw [List.lookup_cons] at e
        cases q : x == n with
        | true => rw [q] at e; cases e; rw [beq_iff_eq.mp q]; exact hc
        | false => rw [q] at e; exact h2 x c' e)
      refine ⟨cl, ?_, p1, fun y hy hf => ?_, fun x c' e => ?_⟩
      · have : cellOf env n = pure c := by unfold cellOf; rw [hc]
        simp only [beq_self_eq_true, if_true, this, pure_bind]
        exact e
      · rcases List.mem_cons.mp hy with z | z
        · subst z; exact p3 n c (by rw [List.lookup_cons, beq_self_eq_true])
        · exact p2 y z hf
      · cases q : x == n with
        | true => exact p3 x c (by rw [List.lookup_cons, q])
        | false => exact p3 x c' (by rw [List.lookup_cons, q]; exact e)
    · have hb : (k == NameKind.free) = false := beq_eq_false_iff_ne.mpr hk
      obtain ⟨cl, e, p1, p2, p3⟩ := clos_ok r cs (fun y hy => h1 y (List.mem_cons_of_mem _ hy)) h2
      refine ⟨cl, ?_, p1, fun y hy hf => ?_, p3⟩
      · simp only [hb, Bool.false_eq_true, if_false, pure_bind]
        exact e
      · rcases List.mem_cons.mp hy with z | z
        · subst z; exact absurd hf hk
        · exact p2 y z hf
theorem clos_mk {env : Env} {sc : Scope} (h : ∀ y ∈ sc.names, y.2 = .free → ∃ c, env.cells.lookup y.1 = some c) :
    ∃ cl, closureFor sc env = pure cl ∧ (∀ x c, cl.lookup x = some c → env.cells.lookup x = some c) ∧ ∀ y ∈ sc.names, y.2 = .free → ∃ c, cl.lookup y.1 = some c := by
  obtain ⟨cl, e, p1, p2, _⟩ := clos_ok sc.names [] h (fun x c e => by cases e)
  refine ⟨cl, ?_, p1, p2⟩
  unfold closureFor
  show (forIn sc.names ([] : List (Str × Addr)) _ >>= fun r => pure r) = _
  rw [bind_pure]
  rw [← e]
end L2

set_option Elab.async false
set_option linter.all false
set_option maxRecDepth 100000
namespace L2
open PySem PySem.Spec PyProof.Rows
theorem calmed {α : Type} {M : Model} {A : Around} {t : Sem α} {Q Q' : α → Shared → Prop} {E : Value → Shared → Prop} {s : Shared} (h : wpAny M A t Q (fun _ _ => False) s) (hq : ∀ a s, Q a s → Q' a s) : wpAny M A t Q' E s := wpAny_mono h hq fun _ _ f => f.elim
def testsOf (ifs : List Expr) (env : Env) : Sem Bool := forIn ifs true fun c r => if r = true then do let ok ← isTrue c env (eval c env); pure (ForInStep.yield ok) else pure (ForInStep.yield r)
theorem comp_turns {prog : Program} {w : World} {A : Around} {R : Result → Shared → Prop} {s : Shared} {elt tg iter : Expr} {ifs : List Expr} {sc : Scope} {pos : Pos} {it acc : Value} {env : Env} (I : Nat → Shared → Prop)
    (turn : ∀ n s, I n s → wpAny (model prog w) A (pyNext it) (fun r s₁ => match r with
      | none => R (.ok .next) s₁
      | some v => wpAny (model prog w) A (letOwnedTupleGo tg it v) (fun _ s₂ => wpAny (model prog w) A (assign tg env v) (fun _ s₃ => wpAny (model prog w) A (testsOf ifs env) (fun ok s₄ =>
          if ok = true then wpAny (model prog w) A (eval elt env) (fun x s₅ => wpAny (model prog w) A (call (.builtin "list.append") [acc, x]) (fun _ s₆ => ∃ m, m < n ∧ I m s₆) (fun _ _ => False) s₅) (fun _ _ => False) s₄
          else ∃ m, m < n ∧ I m s₄) (fun _ _ => False) s₃) (fun _ _ => False) s₂) (fun _ _ => False) s₁) (fun _ _ => False) s)
    (n : Nat) (h : I n s) : codeAny (model prog w) A (.compLoop (.ListComp elt [⟨tg, iter, ifs, 0⟩] sc pos) 0 it acc env) R s := by
  refine codeAny_loop rfl I (fun n s hI => ?_) n h
  show wpAny _ A ((compTurn (.ListComp elt [⟨tg, iter, ifs, 0⟩] sc pos) 0 it acc env).onRaise _) _ _ s
  refine wpAny_noted ?_
  rw [compTurn_list]
  refine wpAny_bind (wpAny_standAt (wpAny_bind (calmed (turn n s hI) fun r s₁ h₁ => ?_)))
  match r, h₁ with
  | none, h₁ => exact wpAny_pure h₁
  | some v, h₁ =>
    refine wpAny_bind (calmed h₁ fun _ s₂ h₂ => wpAny_bind (calmed h₂ fun _ s₃ h₃ => wpAny_bind (calmed h₃ fun ok s₄ h₄ => ?_)))
    match ok, h₄ with
    | false, h₄ => exact wpAny_pure ⟨rfl, h₄⟩
    | true, h₄ => exact wpAny_bind (wpAny_bind (calmed h₄ fun x s₅ h₅ => wpAny_bind (calmed h₅ fun _ s₆ h₆ => wpAny_pure (wpAny_pure ⟨rfl, h₆⟩))))
structure CompSc (sc osc : Scope) (N' N : List Str) (srcs : List (Option Nat)) : Prop where
  kind : sc.kind = .function
  nocell : ∀ y ∈ sc.names, y.2 ≠ .cell
  one : ∀ y ∈ sc.names, y.2 = .local → sc.names.lookup y.1 = some .local
  frees : ∀ y ∈ sc.names, y.2 = .free → osc.names.lookup y.1 = some .cell ∨ osc.names.lookup y.1 = some .free
  nd : N'.Nodup
  len : srcs.length = N'.length
  out : ∀ i j : Nat, srcs[i]? = some (some j) → ∃ x, N'[i]? = some x ∧ N[j]? = some x ∧ sc.names.lookup x = some .free ∧ (osc.names.lookup x = some .cell ∨ osc.names.lookup x = some .free)
def srcSt (srcs : List (Option Nat)) (σ : St) : St := srcs.map fun o => o.bind fun j => (σ[j]?).join
def cxComp (X : Cx) (N' : List Str) (sc : Scope) (cl : List (Str × Addr)) (C : Addr) (fp : List Addr) (pins : List (Addr × Obj)) (s₂ : Shared) (H₂ : Hp) : Cx :=
  { prog := X.prog, w := X.w, K := X.K, mg := X.mg, base := X.base, A := X.A, N := N', s₀ := s₂, H₀ := H₂, env := compEnvC sc cl C X.env, outer := X.stack, stack := X.stack, ex := fp, fn := fun _ => false, calm := X.calm, pn := X.pn ++ pins, xe := fun _ _ => False }
section
variable {X : Cx} {N' : List Str} {sc : Scope} {srcs : List (Option Nat)} {cl : List (Str × Addr)} {C : Addr} {fp : List Addr} {pins : List (Addr × Obj)} {s₂ : Shared} {H₂ : Hp} {σ : St}
theorem cx_ok (S : CompSc sc X.env.scope N' X.N srcs) (I : Inv X pins σ H₂ s₂) (hcl : ∀ x c, cl.lookup x = some c → X.env.cells.lookup x = some c) (hcl2 : ∀ y ∈ sc.names, y.2 = .free → ∃ c, cl.lookup y.1 = some c)
    (hC : s₂.heap.objs.size ≤ C) (hfp : ∀ b ∈ fp, FpOk X pins H₂ b) (hfo : ∀ b ∈ fp, ∃ o, s₂.heap.get? b = some o) : (cxComp X N' sc cl C fp pins s₂ H₂).Ok where
  mod := I.ok.mod
  kind := S.kind
  glob := I.ok.glob
  blt := I.ok.blt
  above := hC
  inj := fun x y c h1 h2 => I.ok.inj x y c (hcl x c h1) (hcl y c h2)
  has := fun x hx => hcl2 _ (PySem.mem_of_lookup (relab_back S.nocell hx)) rfl
  cab := fun x c hf => by cases hf
  hd := I.ok.hd
  frames := I.ok.frames
  stk := .inl rfl
  exf := fun b hb => by
    obtain ⟨o, ho⟩ := hfo b hb
    exact ⟨Nat.ne_of_lt (Nat.lt_of_lt_of_le (Heap.lt_size ho) hC), fun x c e => (hfp b hb).2.2.2.2.1 x c (hcl x c e)⟩
  bs := I.bs
  bsz := Nat.le_trans I.ok.bsz I.sz
  noex := fun b o e hb => by
    rcases (hfp b hb).2.2.2.1 with z | z
    · exact I.ok.noex b o e z
    · exact absurd (Nat.lt_of_lt_of_le (Heap.lt_size (I.ok.bs b o e).1) z) (Nat.lt_irrefl _)
  exfs := fun b hb z => (List.mem_cons.mp (I.stkSub b z)).elim (hfp b hb).2.1 (hfp b hb).2.2.1
  funs := I.stack
  frf := I.stkFree
theorem comp_begin {D : Addr} {h₁ : Heap} {tk : Nat} {m : Str → Option Value} (S : CompSc sc X.env.scope N' X.N srcs) (I : Inv X pins σ H₂ s₂) (hcl : ∀ x c, cl.lookup x = some c → X.env.cells.lookup x = some c) (hcl2 : ∀ y ∈ sc.names, y.2 = .free → ∃ c, cl.lookup y.1 = some c)
    (hfp : ∀ b ∈ fp, FpOk X pins H₂ b) (hfo : ∀ b ∈ fp, ∃ o, s₂.heap.get? b = some o) (hD : D = s₂.heap.objs.size) (hC : C = s₂.heap.objs.size + 1) (hk : ∀ b o, (s₂.heap.push { cls := .type "list", data := .seq #[] }).get? b = some o → h₁.get? b = some o) (hns : h₁.Ns C m) :
    Inv (cxComp X N' sc cl C fp pins s₂ H₂) [] (srcSt srcs σ) (upd H₂ D (.lst [])) { s₂ with heap := h₁, toks := tk } := by
  subst hD
  have hCle : s₂.heap.objs.size ≤ C := by rw [hC]; exact Nat.le_succ _
  have ok := cx_ok S I hcl hcl2 hCle hfp hfo
  have I3 := I.lnew (ys := []) (its := []) (t' := tk) .nil (Nat.zero_le _)
  have I4 : Inv X pins σ (upd H₂ s₂.heap.objs.size (.lst [])) { s₂ with heap := h₁, toks := tk } := I3.kept (t' := tk) hk
  have old : ∀ b o, s₂.heap.get? b = some o → h₁.get? b = some o := fun b o e => hk b o (Heap.get?_push_of_some _ e)
  have neD : ∀ b o, s₂.heap.get? b = some o → b ≠ s₂.heap.objs.size := fun b o e => Nat.ne_of_lt (Heap.lt_size e)
  have cellOld : ∀ x c, cl.lookup x = some c → ∃ v o, s₂.heap.get? c = some o ∧ o.data = .cell v := fun x c e => by
    obtain ⟨v, o, ho, hd⟩ := I.cell x c (hcl x c e)
    exact ⟨v, o, ho, hd⟩
  refine ⟨ok, rfl, I.bare, Un.laid old (Nat.le_refl _) I.fresh, ⟨m, hns, fun i x v e1 e2 e3 => ?_⟩, fun x c e => ?_, ?_, fun x c e => ?_, fun p hp => ?_, I4.hok, ?_⟩
  · have e2' : (srcs[i]?).map (fun o => o.bind fun j => (σ[j]?).join) = some (some v) := by
      have := e2
      unfold srcSt at this
      rwa [List.getElem?_map] at this
    cases q : srcs[i]? with
    | none => rw [q] at e2'; cases e2'
    | some oj =>
      rw [q, Option.map_some] at e2'
      cases oj with
      | none => cases e2'
      | some j =>
        have e4 : (σ[j]?).join = some v := by simpa using e2'
        have e5 : σ[j]? = some (some v) := by
          cases z : σ[j]? with
          | none => rw [z] at e4; cases e4
          | some w => rw [z] at e4; rw [← e4]; rfl
        obtain ⟨x', n1, n2, n3, n4⟩ := S.out i j q
        have e1' : N'[i]? = some x := e1
        rw [n1] at e1'; cases e1'
        obtain ⟨m2, hn2, hl⟩ := I.loc
        have hv : Vis X.env.scope x := n4.elim (fun z => .inr (.inl z)) fun z => .inr (.inr z)
        obtain ⟨u, r, l⟩ := hl j x v n2 e5 hv
        refine ⟨u, r, .inr ⟨relab_free n3, ?_⟩⟩
        rcases l with ⟨k, _⟩ | ⟨_, c, ec, z⟩
        · have k' : X.env.scope.names.lookup x = some .local := k
          rcases n4 with z | z <;> rw [k'] at z <;> cases z
        · obtain ⟨c', ec'⟩ := hcl2 _ (PySem.mem_of_lookup n3) rfl
          have := hcl x c' ec'
          rw [ec] at this; cases this
          obtain ⟨o, ho, hd⟩ := z
          exact ⟨c, ec', o, old c o ho, hd⟩
  · obtain ⟨v, o, ho, hd⟩ := cellOld x c e
    exact ⟨v, o, old c o ho, hd⟩
  · show upd H₂ s₂.heap.objs.size (.lst []) C = none
    rw [upd_ne (by rw [hC]; exact Nat.succ_ne_self _)]
    exact I.hok.fresh hCle
  · obtain ⟨v, o, ho, hd⟩ := cellOld x c e
    show upd H₂ s₂.heap.objs.size (.lst []) c = none
    rw [upd_ne (neD c o ho)]
    exact I.freeC x c (hcl x c e)
  · have hp' : p ∈ X.pn ++ pins := by simpa [cxComp] using hp
    obtain ⟨e, n, ne, nf, d⟩ := I.pin p hp'
    obtain ⟨_, n4, _⟩ := I4.pin p hp'
    exact ⟨old _ _ e, n4, Nat.ne_of_lt (Nat.lt_of_lt_of_le (Heap.lt_size e) hCle), fun z => (List.mem_cons.mp (I.stkSub _ z)).elim ne nf, d⟩
  · show (srcs.map _).length = N'.length
    rw [List.length_map]
    exact S.len
theorem comp_end {H' : Hp} {σ' : St} {s' : Shared} (I : Inv X pins σ H₂ s₂) (hfp : ∀ b ∈ fp, FpOk X pins H₂ b) (J : Inv (cxComp X N' sc cl C fp pins s₂ H₂) [] σ' H' s') : Inv X pins σ H' s' :=
  I.call' J.os J.base J.hok J.bare fun b hb => ⟨(hfp b hb).2.2.2.1, (hfp b hb).2.1, (hfp b hb).2.2.2.2.1, (hfp b hb).2.2.2.2.2⟩
def PTs (X : Cx) (ifs : List Expr) (t : TT) : Prop :=
  ∀ (pins : List (Addr × Obj)) (s : Shared) (σ : St) (H : Hp) (Q : Bool → Hp → Prop), Inv X pins σ H s → t σ H Q → wpAny (model X.prog X.w) X.A (testsOf ifs X.env) (TP X pins σ Q) X.xe s
def tNoTest : TT := fun _ H Q => Q true H
theorem pts_nil {X : Cx} : PTs X [] tNoTest := fun pins s σ H Q I h => wpAny_tests_nil ⟨H, I, h⟩
theorem pts_one {X : Cx} {c : Expr} {t : TT} (h : PT X c t) : PTs X [c] t := fun pins s σ H Q I q => wpAny_tests_one (h pins s σ H Q I q)
def tComp (srcs : List (Option Nat)) (wi : TI) (g : TG) (tt : TT) (te : TE) : TE := fun σ H Q => wi σ H fun J H1 => ∀ D, H1 D = none → ∃ W : Nat → Nat → St → Hp → Prop, (∃ m, W 0 m (srcSt srcs σ) (upd H1 D (.lst []))) ∧ ∀ i m σ' H', W i m σ' H' →
  (J.stop i H' ∧ Q (.ref D) H') ∨ (J.go i H' ∧ ∃ N : St → Hp → Prop, (∀ σ2 H2, N σ2 H2 → ∃ m', m' < m ∧ W (i + 1) m' σ2 H2) ∧ ∀ x H2, J.yld i H' x H2 → g x σ' H2 fun σ3 H3 => tt σ3 H3 fun b H4 =>
    if b = true then te σ3 H4 fun v H5 => ∃ ys, H5 D = some (.lst ys) ∧ ys.length < sizeLine ∧ N σ3 (upd H5 D (.lst (ys ++ [v]))) else N σ3 H4)
theorem comp_block {elt tg iter : Expr} {ifs : List Expr} {sc : Scope} {srcs : List (Option Nat)} {N' : List Str} {pos : Pos} {wi : TI} {g : TG} {tt : TT} {te : TE} {s : Shared} {H : Hp} {use : Option (Value → Sem Unit)} {Qv : Value → Shared → Prop} {Q : VK}
    (hc : X.calm = true) (S : CompSc sc X.env.scope N' X.N srcs) (hi : PI X tg iter wi)
    (hg : ∀ cl C fp pins s₂ H₂, PG (cxComp X N' sc cl C fp pins s₂ H₂) tg g) (ht : ∀ cl C fp pins s₂ H₂, PTs (cxComp X N' sc cl C fp pins s₂ H₂) ifs tt) (he : ∀ cl C fp pins s₂ H₂, PE (cxComp X N' sc cl C fp pins s₂ H₂) elt te)
    (hs : ∀ x, foldedSetIterable iter X.env x = pure x) (I : Inv X pins σ H s) (h : tComp srcs wi g tt te σ H Q)
    (post : ∀ D C H' s' m, (∀ h', Heap.SameBut C s'.heap h' → Inv X pins σ H' { s' with heap := h' }) → Inv X pins σ H' s' → s'.heap.Ns C m → (∀ x c, X.env.cells.lookup x = some c → c ≠ C) → X.env.locals ≠ C → H' C = none →
      (∀ σ' s'' h', Inv X pins σ' H' s'' → Heap.SameBut C s''.heap h' → Inv X pins σ' H' { s'' with heap := h' }) → Q (.ref D) H' → compPost (model X.prog X.w) X.A X.xe use Qv (.ref D) C (.ok .next) s') :
    wpAny (model X.prog X.w) X.A (comprehension (.ListComp elt [⟨tg, iter, ifs, 0⟩] sc pos) sc X.env (firstIterPos [⟨tg, iter, ifs, 0⟩] pos) (newList []) false (eval iter X.env) use) Qv X.xe s := by
  obtain ⟨cl, hclos, hcl, hcl2⟩ := clos_mk (env := X.env) (sc := sc) fun y hy hf => I.ok.has y.1 (S.frees y hy hf)
  refine wpAny_comprehension_free rfl hs hclos S.kind S.one (thn (hi pins s σ H _ I h) fun xv s₁ h₁ => thn h₁ fun itv s₂ h₂ => ?_)
  obtain ⟨it, fp, tn, J, H₂, e, I₂, T, st₂, f₂, rd⟩ := h₂
  subst e
  refine wpAny_newObj_type (wpAny_newFunctionEnv S.nocell (by intro y hy; simp at hy) (fun h₁ hns hsb => ?_) S.kind)
  dsimp only at hns hsb ⊢
  have hfo : ∀ b ∈ fp, ∃ o, s₂.heap.get? b = some o := fun b hb => let ⟨o, e, _⟩ := T.obj _ _ st₂ b hb; ⟨o, e⟩
  have hCe : (s₂.heap.push { cls := .type "list", dict := none, data := .seq ([] : List Value).toArray }).objs.size = s₂.heap.objs.size + 1 := Heap.size_push ..
  have hk : ∀ b o, (s₂.heap.push { cls := .type "list", data := .seq #[] }).get? b = some o → h₁.get? b = some o := fun b o e => hsb.extBut b o (Nat.ne_of_lt (Heap.lt_size e)) (Heap.get?_push_of_some _ e)
  have IB := comp_begin (tk := s₂.toks + ([] : List (Str × Value)).length) S I₂ hcl hcl2 f₂ hfo rfl hCe hk hns
  generalize (s₂.heap.push { cls := .type "list", dict := none, data := .seq ([] : List Value).toArray }).objs.size = C at hCe hns hsb IB ⊢
  generalize hD : s₂.heap.objs.size = D at IB hCe ⊢
  have hCle : s₂.heap.objs.size ≤ C := by rw [hD, hCe]; exact Nat.le_succ _
  obtain ⟨W, ⟨m0, w0⟩, turn⟩ := rd D (by rw [← hD]; exact I₂.fresh)
  have fpB : ∀ {H' : Hp}, (∀ b ∈ fp, H' b = none) → ∀ b ∈ fp, FpOk (cxComp X N' sc cl C fp pins s₂ H₂) [] H' b := fun hn b hb => by
    obtain ⟨z1, z2⟩ := (cx_ok S I₂ hcl hcl2 hCle f₂ hfo).exf b hb
    exact ⟨hn b hb, z1, (cx_ok S I₂ hcl hcl2 hCle f₂ hfo).exfs b hb, .inl hb, z2, fun p hp => (f₂ b hb).2.2.2.2.2 p (by simpa [cxComp] using hp)⟩
  have fr0 : ∀ b ∈ fp, (upd H₂ D (.lst [])) b = none := fun b hb => by
    obtain ⟨o, ho⟩ := hfo b hb
    rw [upd_ne (by rw [← hD]; exact Nat.ne_of_lt (Heap.lt_size ho))]
    exact (f₂ b hb).1
  have st0 : tn 0 h₁ := T.keep _ _ _ st₂ fun b hb o e => hk b o (Heap.get?_push_of_some _ e)
  have loop : codeAny (model X.prog X.w) X.A (.compLoop (.ListComp elt [⟨tg, iter, ifs, 0⟩] sc pos) 0 (.ref it) (.ref D) (compEnvC sc cl C X.env)) (compPost (model X.prog X.w) X.A X.xe use Qv (.ref D) C) { s₂ with heap := h₁, toks := s₂.toks + ([] : List (Str × Value)).length } := by
    refine comp_turns (fun n s' => ∃ i σ' H', Inv (cxComp X N' sc cl C fp pins s₂ H₂) [] σ' H' s' ∧ tn i s'.heap ∧ (∀ b ∈ fp, H' b = none) ∧ W i n σ' H') ?_ m0 ⟨0, _, _, IB, st0, fr0, w0⟩
    rintro n s3 ⟨i, σ3, H3, I3, st3, fr3, w3⟩
    rcases turn i n σ3 H3 w3 with ⟨stop, qn⟩ | ⟨go, N, hN, step⟩
    · refine thn (T.done (cxComp X N' sc cl C fp pins s₂ H₂) rfl rfl rfl hc i [] s3 σ3 H3 _ I3 (fpB fr3) st3 stop) fun r s4 ⟨hr, I4⟩ => ?_
      subst hr
      have JX := comp_end I₂ f₂ I4
      obtain ⟨m, hn, _⟩ := I4.loc
      have cn : ∀ x c, X.env.cells.lookup x = some c → c ≠ C := fun x c e z => by
        obtain ⟨v, q⟩ := I₂.cell x c e
        exact absurd (Nat.lt_of_lt_of_le q.lt (by rw [z]; exact hCle)) (Nat.lt_irrefl _)
      have gone : ∀ σ' s'' h', Inv X pins σ' H3 s'' → Heap.SameBut C s''.heap h' → Inv X pins σ' H3 { s'' with heap := h' } := fun σ' s'' h' K3 hs3 =>
        K3.turned (t' := s''.toks) (it := C) (fun b o hb e => (hs3.2 b hb).trans e) I4.free (Nat.ne_of_gt (Nat.lt_of_lt_of_le I₂.lt hCle)) (.inr (Nat.le_trans I₂.sz hCle)) cn fun p hp z => by
          exact absurd (Nat.lt_of_lt_of_le (Heap.lt_size (I₂.pin p hp).1) (by rw [z]; exact hCle)) (Nat.lt_irrefl _)
      exact post D C H3 s4 m (fun h' hs' => gone σ s4 h' JX hs') JX hn cn (Nat.ne_of_lt (Nat.lt_of_lt_of_le I₂.lt hCle)) I4.free gone qn
    · refine thn (T.item (cxComp X N' sc cl C fp pins s₂ H₂) rfl rfl rfl hc i [] s3 σ3 H3 _ I3 (fpB fr3) st3 go) fun r s4 ⟨u, hr, h4⟩ => ?_
      subst hr
      refine thn h4 fun _ s5 ⟨x, H5, I5, r5, y5, st5, fr5⟩ => ?_
      have I5' := I5.pinned (fpB fr5) (T.obj _ _ st5)
      refine thn (hg cl C fp pins s₂ H₂ _ s5 σ3 H5 x u _ I5' r5 (step x H5 y5)) fun _ s6 ⟨σ6, H6, I6, q6⟩ => ?_
      refine thn (ht cl C fp pins s₂ H₂ _ s6 σ6 H6 _ I6 q6) fun ok s7 ⟨H7, I7, q7⟩ => ?_
      have again : ∀ {H8 : Hp} {s8 : Shared}, Inv (cxComp X N' sc cl C fp pins s₂ H₂) ([] ++ pinsAt fp s5.heap) σ6 H8 s8 → N σ6 H8 → ∃ m, m < n ∧ ∃ i σ' H', Inv (cxComp X N' sc cl C fp pins s₂ H₂) [] σ' H' s8 ∧ tn i s8.heap ∧ (∀ b ∈ fp, H' b = none) ∧ W i m σ' H' := fun {H8 s8} I8 n8 => by
        obtain ⟨m', hm, w8⟩ := hN σ6 H8 n8
        refine ⟨m', hm, i + 1, σ6, H8, I8.unpinned, T.keep _ _ _ st5 fun b hb o e => (I8.pin (b, o) (List.mem_append_right _ (List.mem_append_right _ (mem_pinsAt hb e)))).1, fun b hb => ?_, w8⟩
        obtain ⟨o, e, d⟩ := T.obj _ _ st5 b hb
        exact (I8.pin (b, o) (List.mem_append_right _ (List.mem_append_right _ (mem_pinsAt hb e)))).2.1
      cases ok with
      | false => exact again I7 q7
      | true =>
        refine thn (he cl C fp pins s₂ H₂ _ s7 σ6 H7 _ I7 q7) fun y s8 ⟨v, H8, I8, r8, q8⟩ => ?_
        obtain ⟨ys, hy, hz, n8⟩ := q8
        refine thn (mt_append _ s8 σ6 H8 (.ref D) [v] (.ref D) [y] (fun _ H9 => N σ6 H9) I8 rfl (.cons r8 .nil) ⟨D, ys, v, rfl, rfl, hy, hz, n8⟩) fun _ s9 ⟨_, H9, I9, _, q9⟩ => ?_
        exact again I9 q9
  exact codeAny_compStart_list loop (T.self _ 0 _ _ _ st0 loop)
theorem pe_comp {elt tg iter : Expr} {ifs : List Expr} {sc : Scope} {srcs : List (Option Nat)} {N' : List Str} {pos : Pos} {wi : TI} {g : TG} {tt : TT} {te : TE} (hc : X.calm = true) (S : CompSc sc X.env.scope N' X.N srcs) (hi : PI X tg iter wi)
    (hg : ∀ cl C fp pins s₂ H₂, PG (cxComp X N' sc cl C fp pins s₂ H₂) tg g) (ht : ∀ cl C fp pins s₂ H₂, PTs (cxComp X N' sc cl C fp pins s₂ H₂) ifs tt) (he : ∀ cl C fp pins s₂ H₂, PE (cxComp X N' sc cl C fp pins s₂ H₂) elt te)
    (hs : ∀ x, foldedSetIterable iter X.env x = pure x := by intro _; rfl) : PE X (.ListComp elt [⟨tg, iter, ifs, 0⟩] sc pos) (tComp srcs wi g tt te) := by
  intro pins s σ H Q I h
  rw [eval_ListComp]
  refine comp_block (use := none) (Q := Q) hc S hi hg ht he hs I h fun D C H' s' m g1 J hn cn ln fr g2 q => ?_
  exact ⟨m, hn, fun h' hs' => ⟨.ref D, H', g1 h' hs', rfl, q⟩⟩
theorem ps_setC {elt tg iter : Expr} {ifs : List Expr} {sc : Scope} {srcs : List (Option Nat)} {N' : List Str} {pos spos pos' : Pos} {wi : TI} {g : TG} {tt : TT} {te : TE} {j : Nat} {y : Str} (hc : X.calm = true) (nd : X.N.Nodup) (hj : X.N[j]? = some y) (hy : Loc X.env.scope y) (S : CompSc sc X.env.scope N' X.N srcs) (hi : PI X tg iter wi)
    (hg : ∀ cl C fp pins s₂ H₂, PG (cxComp X N' sc cl C fp pins s₂ H₂) tg g) (ht : ∀ cl C fp pins s₂ H₂, PTs (cxComp X N' sc cl C fp pins s₂ H₂) ifs tt) (he : ∀ cl C fp pins s₂ H₂, PE (cxComp X N' sc cl C fp pins s₂ H₂) elt te)
    (hsw : swapsWith (.ListComp elt [⟨tg, iter, ifs, 0⟩] sc pos) (some (.Name y pos')) spos.line X.env = pure true) (hs : ∀ x, foldedSetIterable iter X.env x = pure x := by intro _; rfl)
    (hf : X.fn y = true ∨ X.env.scope.names.lookup y = some .local := by first | exact .inl rfl | exact .inr rfl | assumption) :
    PS X (.Assign [.Name y pos'] (.ListComp elt [⟨tg, iter, ifs, 0⟩] sc pos) spos) (tAsg (tComp srcs wi g tt te) (gName j)) := by
  intro pins s σ H D I h
  rw [exec_Assign_Name_used _ _ _ _ hsw]
  refine wpAny_bind (wpAny_standAt (wpAny_bind ?_))
  show wpAny _ X.A (do let _ ← comprehension (.ListComp elt [⟨tg, iter, ifs, 0⟩] sc pos) sc X.env _ (newList []) false (eval iter X.env) (some (assign (.Name y pos') X.env))) _ _ s
  refine wpAny_bind (thn (comp_block (use := some (assign (.Name y pos') X.env)) (Qv := fun _ s' => SP X pins D .next s') hc S hi hg ht he hs I h fun L C H' s' m g1 J hn cn ln fr g2 q => ?_) fun _ s' hq => wpAny_pure (wpAny_pure hq))
  show wpAny _ X.A (assign (.Name y pos') X.env (.ref L)) _ _ _
  refine wpAny_assign_Name (store_ok2 J nd hj hy (v := .ref L) rfl (fun s'' K hsame => ?_) hf)
  obtain ⟨a, hsm, ha⟩ := hsame
  have hac : C ≠ a := by
    rcases ha with z | z
    · rw [z]; exact Ne.symm ln
    · exact Ne.symm (cn y a z)
  exact ⟨m, hn.sameBut hsm hac, fun h' hs' => ⟨_, H', g2 _ s'' h' K hs', q⟩⟩
end
end L2

set_option Elab.async false
set_option linter.all false
set_option maxRecDepth 100000
namespace L2
open PySem PySem.Spec PyProof.Rows
section
variable {X : Cx} {pins : List (Addr × Obj)} {σ : St} {H : Hp} {s : Shared} {h' : Heap}
end
end L2

set_option Elab.async false
set_option linter.all false
set_option maxRecDepth 100000
namespace L2
open PySem PySem.Spec PyProof.Rows
def rangeL (lo hi : Int) : List Int := (List.range (hi - lo).toNat).map fun (k : Nat) => lo + (k : Int)
theorem rangeL_length (lo hi : Int) : (rangeL lo hi).length = (hi - lo).toNat := by unfold rangeL; rw [List.length_map, List.length_range]
section
variable {X : Cx}
def Sm (i : Int) : Prop := -(2 ^ 62) ≤ i ∧ i < 2 ^ 62
theorem items_vals {lo hi : Int} {acc : Array Value} (h : ItemsOf (fun (i : Nat) (v : Value) => ∃ t, v = .int (lo + (i : Int) * 1) t) acc (hi - lo).toNat) : Vals ((rangeL lo hi).map V.int) acc.toList := by
  obtain ⟨hs, hi'⟩ := h
  have key : ∀ (us : List Value) (n k : Nat), us.length = n → (∀ j v, us[j]? = some v → ∃ t, v = Value.int (lo + ((k + j : Nat) : Int)) t) → Vals (((List.range' k n).map fun (k : Nat) => lo + (k : Int)).map V.int) us := by
    intro us
    induction us with
    | nil => intro n k h1 _; subst h1; exact .nil
    | cons u us ih =>
      intro n k h1 h2
      obtain ⟨n', rfl⟩ : ∃ n', n = n' + 1 := ⟨us.length, by rw [← h1]; rfl⟩
      rw [List.range'_succ, List.map_cons, List.map_cons]
      obtain ⟨t, e⟩ := h2 0 u rfl
      refine .cons ⟨t, by simpa using e⟩ (ih n' (k + 1) (by simpa using h1) fun j v hj => ?_)
      obtain ⟨t, e⟩ := h2 (j + 1) v (by simpa using hj)
      exact ⟨t, by rw [e]; congr 1; omega⟩
  unfold rangeL
  rw [List.range_eq_range']
  refine key acc.toList _ 0 (by rw [Array.length_toList]; exact hs) fun j v hj => ?_
  obtain ⟨t, e⟩ := hi' j v (by simpa using hj)
  exact ⟨t, by rw [e]; simp⟩
theorem call_list_rng (hc : X.calm = true) : CallR X (.type "list") (fun xs H Q => ∃ p lo hi, xs = [.ref p] ∧ H p = some (.rng lo hi) ∧ Sm lo ∧ Sm hi ∧ (hi - lo).toNat ≤ sizeLine ∧ ∀ l, H l = none → Q (.ref l) (upd H l (.lst ((rangeL lo hi).map V.int)))) := by
  intro pins s σ H xs us Q I r h
  obtain ⟨p, lo, hi, rfl, hp, ⟨l1, l2⟩, ⟨l3, l4⟩, hz, q⟩ := h
  obtain ⟨u, rfl, rx⟩ := vals1 r
  cases rx
  obtain ⟨t, u, v, e⟩ := I.hok p _ hp
  have hz' : (hi - lo).toNat ≤ 2 ^ 24 := hz
  refine call_list_range (n := (hi - lo).toNat) (I.ok.hd hc) e (small_one l1 l2 l3 l4) (by rw [rangeSize_one]; split <;> omega) hz' fun h' tk acc c hk hl ha => ?_
  refine ⟨.ref s.heap.objs.size, _, I.laid (t' := tk) hk (Nat.le_refl _) (show ObjOk X.prog X.w _ h' _ (.lst ((rangeL lo hi).map V.int)) from ⟨?_, acc.toList, c, items_vals ha, by simpa using hl⟩), rfl, q _ I.fresh⟩
  rw [List.length_map, rangeL_length]
  exact hz
theorem call_listG (hc : X.calm = true) : CallR X (.type "list") (fun xs H Q => (∃ p ys, xs = [.ref p] ∧ (SqL X.K H p ys ∨ SqT X.K H p ys) ∧ ∀ l, H l = none → Q (.ref l) (upd H l (.lst ys))) ∨
    ∃ p lo hi, xs = [.ref p] ∧ H p = some (.rng lo hi) ∧ Sm lo ∧ Sm hi ∧ (hi - lo).toNat ≤ sizeLine ∧ ∀ l, H l = none → Q (.ref l) (upd H l (.lst ((rangeL lo hi).map V.int)))) := call_list_of.or (call_list_rng hc)
end
end L2

set_option Elab.async false
set_option linter.all false
set_option maxRecDepth 100000
namespace L2
open PySem PySem.Spec PyProof.Rows
def MkIn (P : Program) (w : World) (K : PySem.W.Frag) (mg : Str → Option Value) (base : Heap) (CX : CXT) (k : Nat) (C : Addr) (x : Str) (ps : List Str) (sp : Sp) : Prop :=
  ∃ f fd, mg x = some (.ref C) ∧ Mk K C f ∧ Binds K fd ps [] ∧ FnOk P w K mg base CX k f fd ps sp
section
variable {X : Cx} {CX : CXT} {k : Nat} {C : Addr} {ps : List Str} {sp : Sp} {E : XK} {x m : Str} {p pos apos : Pos} {e o : Expr} {es : List Expr} {ta : TE} {t : TA} {W : St → XK}
theorem pe_mk (D : MkIn X.prog X.w X.K X.mg X.base CX k C x ps sp) (g : Gm X.env.scope x) (hr : Room (k + 1) X.A) (hx : Passes CX X E) (ha : PA X (e :: es) t)
    (he : starEach (e :: es) X.env = (false, eval e X.env) :: starEach es X.env := by rfl) (hpl : (backTo pos (starEach es X.env)).any (·.1) = false := by rfl) :
    PE X (.Call (.Name x p) (e :: es) [] pos) (tMake C sp [] E t) := by
  obtain ⟨f, fd, hm, M, hb, F⟩ := D
  exact pe_make M F hr g.gl hm hb .nil hx ha g.db he hpl
end
structure NmC (sc : Scope) (x : Str) : Prop where
  loc : sc.names.lookup x = some .cell
  db : (x == ("__debug__" : Str)) = false
  cd : (x == ("__classdict__" : Str)) = false
structure NmF (sc : Scope) (x : Str) : Prop where
  loc : sc.names.lookup x = some .cell ∨ sc.names.lookup x = some .free
  db : (x == ("__debug__" : Str)) = false
  cd : (x == ("__classdict__" : Str)) = false
section
variable {X : Cx} {x : Str} {pos p : Pos}
theorem pvC (i : Nat) (n : NmC X.env.scope x) (hN : X.N[i]? = some x := by rfl) : PE X (.Name x pos) (tVar i) := pe_var hN (Or.inr (Or.inl n.loc)) n.db n.cd
theorem pvF (i : Nat) (n : NmF X.env.scope x) (hN : X.N[i]? = some x := by rfl) : PE X (.Name x pos) (tVar i) := pe_var hN (Or.inr n.loc) n.db n.cd
theorem pg_nmC (i : Nat) (nd : X.N.Nodup) (n : NmC X.env.scope x) (hf : X.fn x = true := by rfl) (hN : X.N[i]? = some x := by rfl) : PG X (.Name x pos) (gName i) := pg_name nd hN (Or.inr n.loc) (Or.inl hf)
theorem ps_nmC (i : Nat) {e : Expr} {te : TE} {pos' : Pos} (nd : X.N.Nodup) (n : NmC X.env.scope x) (he : PE X e te) (hf : X.fn x = true := by rfl) (hN : X.N[i]? = some x := by rfl) (hs : swapsWith e (some (.Name x pos')) pos.line X.env = pure false := by rfl) :
    PS X (.Assign [.Name x pos'] e pos) (tAsg te (gName i)) := ps_set nd hN (Or.inr n.loc) he hs (Or.inl hf)
theorem Nm.comp {sc : Scope} {env : Env} (n : Nm sc x) : Nm (relabel sc env) x := ⟨relab_other n.loc rfl, n.db, n.cd⟩
theorem Gm.comp {sc : Scope} {env : Env} (n : Gm sc x) : Gm (relabel sc env) x := ⟨relab_other n.gl rfl, n.db, n.nn⟩
structure NmR (sc : Scope) (x : Str) : Prop where
  loc : sc.names.lookup x = some .free
  db : (x == ("__debug__" : Str)) = false
  cd : (x == ("__classdict__" : Str)) = false
theorem NmR.comp {sc : Scope} {env : Env} (n : NmR sc x) : NmF (relabel sc env) x := ⟨relab_free n.loc, n.db, n.cd⟩
end
end L2

set_option Elab.async false
set_option linter.all false
set_option maxRecDepth 100000
namespace L2
open PySem PySem.Spec PyProof.Rows
section
variable {X : Cx}
theorem call_intA : CallR X (.type "int") (fun xs H Q => (∃ k, xs = [.bl k] ∧ Q (.int (if k then 1 else 0)) H) ∨ (∃ i, xs = [.int i] ∧ Q (.int i) H) ∨ ∃ z n, xs = [.str z] ∧ PySem.intText? z = some n ∧ z.length ≤ 640 ∧ Q (.int n) H) := by
  intro pins s σ H xs us Q I r h
  rcases h with h | h | h
  · exact call_int1 pins s σ H xs us Q I r (.inr h)
  · exact call_int1 pins s σ H xs us Q I r (.inl h)
  · exact call_intG pins s σ H xs us Q I r h
theorem CompSc.mk' {sc osc : Scope} {N' N : List Str} {srcs : List (Option Nat)} (h1 : sc.kind = .function) (h2 : ∀ y ∈ sc.names, y.2 ≠ .cell) (h3 : ∀ y ∈ sc.names, y.2 = .local → sc.names.lookup y.1 = some .local)
    (h4 : ∀ y ∈ sc.names, y.2 = .free → osc.names.lookup y.1 = some .cell ∨ osc.names.lookup y.1 = some .free) (h5 : N'.Nodup) (h6 : srcs.length = N'.length)
    (h7 : ∀ p ∈ srcs.zip N', ∀ j ∈ p.1, N[j]? = some p.2 ∧ sc.names.lookup p.2 = some .free ∧ (osc.names.lookup p.2 = some .cell ∨ osc.names.lookup p.2 = some .free)) : CompSc sc osc N' N srcs :=
  ⟨h1, h2, h3, h4, h5, h6, fun i j e => by
    have hi : i < srcs.length := (List.getElem?_eq_some_iff.mp e).1
    obtain ⟨x, hx⟩ : ∃ x, N'[i]? = some x := ⟨N'[i]'(by omega), List.getElem?_eq_getElem (by omega)⟩
    have hz : (srcs.zip N')[i]? = some (some j, x) := by rw [List.getElem?_zip_eq_some]; exact ⟨e, hx⟩
    obtain ⟨a, b, c⟩ := h7 _ (List.mem_of_getElem? hz) j rfl
    exact ⟨x, hx, a, b, c⟩⟩
theorem small_str : ∀ n : Nat, n < 1001 → (Str.ofString (toString (n : Int))).length ≤ 10 := by decide +kernel
theorem pe_fG {e : Expr} {te : TE} {pos : Pos} (he : PE X e te) : PE X (.FormattedValue e (-1) none pos) (fun σ H Q => te σ H fun x H1 => (∃ i : Int, x = .int i ∧ 0 ≤ i ∧ i ≤ 1000 ∧ ∀ z : Str, z.length ≤ 10 → Q (.str z) H1) ∨ ∃ z, x = .str z ∧ z.length ≤ sizeLine ∧ Q (.str z) H1) := by
  intro pins s σ H Q I h
  refine wpAny_FormattedValue_plain (thn (he pins s σ H _ I h) fun v s1 ⟨x, H1, I1, r1, q1⟩ => ?_)
  rcases q1 with ⟨i, rfl, h0, h1, q⟩ | ⟨z, rfl, hz, q⟩
  · obtain ⟨t, rfl⟩ := r1
    obtain ⟨n, rfl⟩ := Int.eq_ofNat_of_zero_le h0
    have hn : n < 1001 := by omega
    refine wpAny_formatField_int ?_ ⟨.str _, H1, I1.tok _, ⟨_, rfl⟩, q _ (small_str n hn)⟩
    have : (n : Int).natAbs = n := rfl
    rw [this]
    exact Nat.lt_of_le_of_lt (Nat.log2_le_self n) (by omega)
  · obtain ⟨t, rfl⟩ := r1
    exact wpAny_formatField_str ⟨.str _, H1, I1, ⟨_, rfl⟩, q⟩ ⟨.str _, H1, I1.tok _, ⟨_, rfl⟩, q⟩ hz
end
end L2

set_option Elab.async false
set_option linter.all false
set_option maxRecDepth 100000
set_option maxHeartbeats 4000000
namespace Lw
open PySem L2
local macro_rules | `(tactic| walk_at "st") => `(tactic| repeat (first
  | refine ⟨_, rfl, ?_⟩
  | refine ⟨_, _, rfl, rfl, ?_⟩
  | refine Or.inl ⟨_, _, rfl, rfl, ?_⟩
  | refine Or.inl ⟨rfl, ?_⟩
  | (refine And.intro (show CMul _ _ from ?_) ?_; (first | exact Or.inr ⟨by omega, by omega⟩ | exact Or.inl ⟨by omega, by omega⟩))
  | (refine And.intro (show CDiv _ _ from ?_) ?_; exact ⟨by omega, by omega⟩)
  | (refine And.intro (show (0 : Int) < _ from ?_) ?_; first | decide | omega)))
def top (i : Nat) : Stmt := PySem.Challenge.pw_stephall_k03_plans_written_and_read.main.body.getD i (.Pass ⟨0, 0, 0, 0⟩)
structure Adr where
  (HallError BadPlan NoText Plan WORDS : Addr)
structure Txt (K : PySem.W.Frag) (mg : Str → Option Value) (a : Adr) : Prop where
  n_len : mg "len" = none
  n_isinstance : mg "isinstance" = none
  n_bool : mg "bool" = none
  n_int : mg "int" = none
  n_range : mg "range" = none
def cellF (ns : List Int) (k : Int) : Int :=
  if k < ns.length then ns.getD k.toNat 0 else if ns.length = 0 then 7919 * k + 101 else ns.getD (k % ns.length).toNat 0 % 1000003 + 7919 * k
def spCell (K : PySem.W.Frag) : Sp := fun vs H Q _ => ∃ (p : Addr) (ns : List Int) (k : Int), vs = [.ref p, .int k] ∧ SqL K H p (ns.map V.int) ∧ 0 ≤ k ∧ k < 1000 ∧ ns.length ≤ 63 ∧ Q (.int (cellF ns k)) H
section
variable {P : Program} {w : World} {K : PySem.W.Frag} {mg : Str → Option Value} {base : Heap} {a : Adr}
theorem sc_law_cell : FnScope ["script", "k"] ["script", "k"] (defScope (top 27)) := ⟨rfl, rfl, rfl, by decide +kernel, rfl, by decide +kernel, by decide +kernel⟩
theorem nm_law_cell_script : Nm (defScope (top 27)) "script" := ⟨by decide +kernel, by decide +kernel, by decide +kernel⟩
theorem nm_law_cell_k : Nm (defScope (top 27)) "k" := ⟨by decide +kernel, by decide +kernel, by decide +kernel⟩
theorem gm_law_cell_len : Gm (defScope (top 27)) "len" := ⟨by decide +kernel, by decide +kernel, by decide +kernel⟩
theorem ok_cell {f : Addr} {fd : FuncData} (F : Fun K "_law_cell" "_law_cell" (top 27) f fd) (T : Txt K mg a) : FnOk P w K mg base CX0 1 f fd ["script", "k"] (spCell K) := by
  refine F.ok sc_law_cell (fun vs H Q E h => ?_) (fun cdv A outer s H vs Q E hr h => ?_)
  · obtain ⟨p, ns, k, rfl, _⟩ := h
    rfl
  · obtain ⟨p, ns, k, rfl, hS, h0, hk, hl, q⟩ := h
    have hu := hr.units
    have nd := sc_law_cell.nd
    refine ⟨_, (@pss_cons _ _ _ _ _ (ps_if (pt_cmpR op_lt (pvN 1 nm_law_cell_k) (pe_cb call_lenG gm_law_cell_len T.n_len bt_len (pa_cons (pvN 0 nm_law_cell_script) pa_nil)) (nomark _)) (pss_one (ps_ret (pe_ix ix_seq (pvN 0 nm_law_cell_script) (pvN 1 nm_law_cell_k) (fun _ _ => rfl)))) pss_nil)
        (pss_cons (ps_if (pt_cmpR (op_eqG hu) (pe_cb call_lenG gm_law_cell_len T.n_len bt_len (pa_cons (pvN 0 nm_law_cell_script) pa_nil)) pe_int (nomark _)) (pss_one (ps_ret (pe_op op_addG (pe_op op_mulG pe_int (pvN 1 nm_law_cell_k)) pe_int))) pss_nil)
        (pss_one (ps_ret (pe_op op_addG (pe_op op_mod (pe_ix ix_seq (pvN 0 nm_law_cell_script) (pe_op op_mod (pvN 1 nm_law_cell_k) (pe_cb call_lenG gm_law_cell_len T.n_len bt_len (pa_cons (pvN 0 nm_law_cell_script) pa_nil))) (fun _ _ => rfl)) pe_int) (pe_op op_mulG pe_int (pvN 1 nm_law_cell_k))))))), ?_⟩
    walk_at "st"
    refine Or.inr ⟨_, _, rfl, .inl hS, ?_⟩
    walk_at "st"
    rw [List.length_map]
    refine ite2 (fun h => ?_) (fun h => ?_)
    · have h := of_decide_eq_true h
      walk_at "st"
      refine Or.inl ⟨p, _, k, _, rfl, rfl, hS, atI_int h0 h, ?_⟩
      have e : cellF ns k = ns.getD k.toNat 0 := by unfold cellF; rw [if_pos h]
      rw [e] at q
      exact q
    · have h : ¬ k < ns.length := by simpa using h
      walk_at "st"
      refine Or.inr ⟨_, _, rfl, .inl hS, ?_⟩
      walk_at "st"
      rw [List.length_map]
      refine ite2 (fun h2 => ?_) (fun h2 => ?_)
      · have h2 : ns.length = 0 := by simpa using h2
        walk_at "st"
        have e : cellF ns k = 7919 * k + 101 := by unfold cellF; rw [if_neg h, if_pos h2]
        rw [e] at q
        exact q
      · have h2 : ¬ ns.length = 0 := by simpa using h2
        walk_at "st"
        refine Or.inr ⟨_, _, rfl, .inl hS, ?_⟩
        rw [List.length_map]
        have hp : 0 < (ns.length : Int) := by omega
        walk_at "st"
        have m0 : 0 ≤ k % (ns.length : Int) := Int.emod_nonneg _ (by omega)
        have m1 : k % (ns.length : Int) < ns.length := Int.emod_lt_of_pos _ (by omega)
        refine Or.inl ⟨p, _, _, _, rfl, rfl, hS, atI_int m0 m1, ?_⟩
        walk_at "st"
        have e : cellF ns k = ns.getD (k % ns.length).toNat 0 % 1000003 + 7919 * k := by unfold cellF; rw [if_neg h, if_neg h2]
        rw [e] at q
        exact q
def spDraws (K : PySem.W.Frag) : Sp := fun vs H Q _ => ∃ (p : Addr) (ns : List Int) (k many base : Int), vs = [.ref p, .int k, .int many, .int base] ∧ SqL K H p (ns.map V.int) ∧ 0 ≤ k ∧ k < 1000 ∧ ns.length ≤ 63 ∧ 0 ≤ many ∧ many ≤ 100 ∧ 0 < base ∧ base < 1000000 ∧
  ∀ (r : Addr) (row : List Int) (H' : Hp), Same H H' → H r = none → H' r = some (.lst (row.map V.int)) → row.length = many.toNat → (∀ v ∈ row, 0 ≤ v ∧ v < base) → Q (.ref r) H'
theorem lst_snoc {H : Hp} {r : Addr} {row : List Int} {v : Int} : upd H r (.lst (row.map V.int ++ [.int v])) r = some (.lst ((row ++ [v]).map V.int)) := by
  rw [upd_same, List.map_append]
  rfl
theorem snoc_in {row : List Int} {v b : Int} (h : ∀ u ∈ row, 0 ≤ u ∧ u < b) (hv : 0 ≤ v ∧ v < b) : ∀ u ∈ row ++ [v], 0 ≤ u ∧ u < b := by
  intro u hu
  rcases List.mem_append.mp hu with z | z
  · exact h u z
  · rw [List.mem_singleton.mp z]; exact hv
def primesL : List Int := [2147483647, 2147483629, 2147483587, 2147483579, 2147483563, 2147483549, 2147483543, 2147483497]
theorem prime_at {i : Int} (h0 : 0 ≤ i) (h1 : i < 8) : ∃ p : Int, atI (primesL.map V.int) i = some (.int p) ∧ 0 < p ∧ p < 2147483648 := by
  refine ⟨_, atI_int h0 h1, ?_⟩
  have key : ∀ m : Nat, m < 8 → 0 < primesL.getD m 0 ∧ primesL.getD m 0 < 2147483648 := by decide
  exact key _ (by omega)
theorem sc_law_draws : FnScope ["script", "k", "many", "base", "primes", "cell", "rest", "row", "j", "mash"] ["script", "k", "many", "base"] (defScope (top 28)) := ⟨rfl, rfl, rfl, by decide +kernel, rfl, by decide +kernel, by decide +kernel⟩
theorem nm_law_draws_script : Nm (defScope (top 28)) "script" := ⟨by decide +kernel, by decide +kernel, by decide +kernel⟩
theorem nm_law_draws_k : Nm (defScope (top 28)) "k" := ⟨by decide +kernel, by decide +kernel, by decide +kernel⟩
theorem nm_law_draws_many : Nm (defScope (top 28)) "many" := ⟨by decide +kernel, by decide +kernel, by decide +kernel⟩
theorem nm_law_draws_base : Nm (defScope (top 28)) "base" := ⟨by decide +kernel, by decide +kernel, by decide +kernel⟩
theorem nm_law_draws_primes : Nm (defScope (top 28)) "primes" := ⟨by decide +kernel, by decide +kernel, by decide +kernel⟩
theorem nm_law_draws_cell : Nm (defScope (top 28)) "cell" := ⟨by decide +kernel, by decide +kernel, by decide +kernel⟩
theorem nm_law_draws_rest : Nm (defScope (top 28)) "rest" := ⟨by decide +kernel, by decide +kernel, by decide +kernel⟩
theorem nm_law_draws_row : Nm (defScope (top 28)) "row" := ⟨by decide +kernel, by decide +kernel, by decide +kernel⟩
theorem nm_law_draws_j : Nm (defScope (top 28)) "j" := ⟨by decide +kernel, by decide +kernel, by decide +kernel⟩
theorem nm_law_draws_mash : Nm (defScope (top 28)) "mash" := ⟨by decide +kernel, by decide +kernel, by decide +kernel⟩
theorem gm_law_draws_range : Gm (defScope (top 28)) "range" := ⟨by decide +kernel, by decide +kernel, by decide +kernel⟩
theorem gm_law_draws__law_cell : Gm (defScope (top 28)) "_law_cell" := ⟨by decide +kernel, by decide +kernel, by decide +kernel⟩
theorem ok_draws {f : Addr} {fd : FuncData} (F : Fun K "_law_draws" "_law_draws" (top 28) f fd) (T : Txt K mg a) (D_law_cell : FnIn P w K mg base CX0 1 "_law_cell" ["script", "k"] (spCell K)) :
    FnOk P w K mg base CX0 2 f fd ["script", "k", "many", "base"] (spDraws K) := by
  refine F.ok sc_law_draws (fun vs H Q E h => ?_) (fun cdv A outer s H vs Q E hr h => ?_)
  · obtain ⟨p, ns, k, many, bs, rfl, _⟩ := h
    rfl
  · obtain ⟨p, ns, k, many, bs, rfl, hS, k0, k1, hl, m0, m1, b0, b1, q⟩ := h
    have hu := hr.units
    have nd := sc_law_draws.nd
    refine ⟨_, (@pss_cons _ _ _ _ _ (ps_nm 4 nd nm_law_draws_primes (pe_tup (pa_consts rfl)))
        (pss_cons (ps_nm 5 nd nm_law_draws_cell (pe_fd D_law_cell gm_law_draws__law_cell (hr.mono (by decide)) pass0 (pa_cons (pvN 0 nm_law_draws_script) (pa_cons (pvN 1 nm_law_draws_k) pa_nil))))
        (pss_cons (ps_nm 6 nd nm_law_draws_rest pe_int)
        (pss_cons (ps_if (pt_cmpR op_ge (pvN 5 nm_law_draws_cell) (pe_op op_pow pe_int pe_int) (nomark _)) (pss_one (ps_nm 6 nd nm_law_draws_rest (pvN 5 nm_law_draws_cell))) pss_nil)
        (pss_cons (ps_nm 7 nd nm_law_draws_row (pe_lst pa_nil))
        (pss_cons (ps_for PassesOwn.never rfl (pi_r1 gm_law_draws_range T.n_range (pa_cons (pvN 2 nm_law_draws_many) pa_nil)) (pg_nm 8 nd nm_law_draws_j) (pss_cons (ps_nm 9 nd nm_law_draws_mash (pe_op op_mulG (pe_op op_mod (pvN 5 nm_law_draws_cell) (pe_ix ix_seq (pvN 4 nm_law_draws_primes) (pe_op op_mod (pvN 8 nm_law_draws_j) pe_int) (fun _ _ => rfl))) (pe_op op_addG pe_int (pe_op op_mulG (pe_op op_mulG pe_int (pvN 8 nm_law_draws_j)) (pvN 8 nm_law_draws_j)))))
          (pss_cons (ps_nm 9 nd nm_law_draws_mash (pe_op op_addG (pe_op op_addG (pvN 9 nm_law_draws_mash) (pe_op op_mulG (pe_op op_mulG pe_int (pe_op op_addG (pvN 8 nm_law_draws_j) pe_int)) (pe_op op_addG (pvN 8 nm_law_draws_j) pe_int))) (pe_op op_mulG pe_int (pvN 1 nm_law_draws_k))))
          (pss_cons (ps_nm 9 nd nm_law_draws_mash (pe_op op_mod (pvN 9 nm_law_draws_mash) (pe_ix ix_seq (pvN 4 nm_law_draws_primes) (pe_op op_mod (pe_op op_addG (pe_op op_mulG pe_int (pvN 8 nm_law_draws_j)) (pvN 1 nm_law_draws_k)) pe_int) (fun _ _ => rfl))))
          (pss_cons (ps_nm 9 nd nm_law_draws_mash (pe_op op_mod (pe_op op_mulG (pe_op op_mulG (pvN 9 nm_law_draws_mash) (pvN 9 nm_law_draws_mash)) (pvN 9 nm_law_draws_mash)) (pe_ix ix_seq (pvN 4 nm_law_draws_primes) (pe_op op_mod (pe_op op_addG (pvN 8 nm_law_draws_j) pe_int) pe_int) (fun _ _ => rfl))))
          (pss_cons (ps_if (pt_cmpR op_gt (pvN 6 nm_law_draws_rest) pe_int (nomark _)) (pss_one (ps_nm 9 nd nm_law_draws_mash (pvN 6 nm_law_draws_rest))) pss_nil)
          (pss_cons (ps_expr (pe_bm PySem.F.plainAttrs_list PySem.F.slot_list_append PySem.F.type_list_append mt_append (pvN 7 nm_law_draws_row) (pa_cons (pe_op op_mod (pvN 9 nm_law_draws_mash) (pvN 3 nm_law_draws_base)) pa_nil)))
          (pss_one (ps_nm 6 nd nm_law_draws_rest (pe_op op_fdiv (pvN 6 nm_law_draws_rest) (pvN 3 nm_law_draws_base)))))))))))
        (pss_one (ps_ret (pvN 7 nm_law_draws_row))))))))), ?_⟩
    refine ⟨by decide, fun pr hpr => ?_⟩
    have s1 : Same H (upd H pr (.tup (primesL.map V.int))) := (Same.refl H).upd hpr
    walk_at "st"
    refine ⟨p, ns, k, rfl, s1.seq hS, k0, k1, hl, ?_⟩
    walk_at "st"
    refine ⟨⟨by decide, by decide, by decide⟩, ?_⟩
    walk_at "st"
    refine ite2 (fun _ => ?_) (fun _ => ?_) <;>
    · walk_at "st"
      refine ⟨by decide, fun r hr => ?_⟩
      have hrpr : r ≠ pr := fun e => by rw [e, upd_same] at hr; cases hr
      have hrH : H r = none := by rw [upd_ne hrpr] at hr; exact hr
      walk_at "st"
      refine ⟨by omega, by omega, for_range (n := many.toNat) (fun i σ H2 => ∃ (row : List Int) (z : Int) (x y : Option V), σ = [some (.ref p), some (.int k), some (.int many), some (.int bs), some (.ref pr), some (.int (cellF ns k)), some (.int z), some (.ref r), x, y] ∧
        Same H H2 ∧ H2 pr = some (.tup (primesL.map V.int)) ∧ H2 r = some (.lst (row.map V.int)) ∧ row.length = i ∧ ∀ v ∈ row, 0 ≤ v ∧ v < bs) ?_ ?_ ?_⟩
      · exact ⟨[], _, none, none, rfl, s1.upd hr, (by rw [upd_ne hrpr.symm, upd_same]; rfl), upd_same, rfl, fun v hv => absurd hv (by simp)⟩
      · rintro i σ H2 hi ⟨row, z, x, y, rfl, sm, hP, hR, hlen, hrow⟩
        have hi' : (i : Int) < 100 := by omega
        simp only [Int.zero_add]
        walk_at "st"
        obtain ⟨p1, e1, a1, b1'⟩ := prime_at (i := (i : Int) % 8) (by omega) (by omega)
        refine Or.inr (Or.inl ⟨pr, _, _, _, rfl, rfl, .of hP, e1, ?_⟩)
        walk_at "st"
        have c1 := Int.emod_nonneg (cellF ns k) (show p1 ≠ 0 by omega)
        have c2 := Int.emod_lt_of_pos (cellF ns k) a1
        generalize cellF ns k % p1 = m1 at c1 c2 ⊢
        walk_at "st"
        obtain ⟨p2, e2, a2, b2'⟩ := prime_at (i := (3 * (i : Int) + k) % 8) (by omega) (by omega)
        refine Or.inr (Or.inl ⟨pr, _, _, _, rfl, rfl, .of hP, e2, ?_⟩)
        walk_at "st"
        generalize hm2 : (m1 * (48271 + 2 * (i : Int) * (i : Int)) + 7919 * ((i : Int) + 1) * ((i : Int) + 1) + 104729 * k) % p2 = m2
        have c3 : 0 ≤ m2 := by rw [← hm2]; exact Int.emod_nonneg _ (by omega)
        have c4 : m2 < p2 := by rw [← hm2]; exact Int.emod_lt_of_pos _ a2
        walk_at "st"
        obtain ⟨p3, e3, a3, b3'⟩ := prime_at (i := ((i : Int) + 5) % 8) (by omega) (by omega)
        refine Or.inr (Or.inl ⟨pr, _, _, _, rfl, rfl, .of hP, e3, ?_⟩)
        walk_at "st"
        refine ite2 (fun _ => ?_) (fun _ => ?_) <;>
        · walk_at "st"
          refine ⟨.inl ⟨rfl, _, .of hR⟩, ?_⟩
          walk_at "st"
          refine ⟨r, _, _, rfl, rfl, hR, ?_, ?_⟩
          · rw [List.length_map, hlen, sizeLine_eq]; omega
          walk_at "st"
          exact ⟨row ++ [_], _, _, _, rfl, sm.updN hrH, (by rw [upd_ne hrpr.symm]; exact hP), lst_snoc, (by rw [List.length_append, hlen]; rfl), snoc_in hrow ⟨Int.emod_nonneg _ (by omega), Int.emod_lt_of_pos _ b0⟩⟩
      · rintro σ H2 ⟨row, z, x, y, rfl, sm, hP, hR, hlen, hrow⟩
        walk_at "st"
        exact q r row H2 sm hrH hR hlen hrow
end
theorem kit_ib (K : PySem.W.Frag) : PySem.W.kitOne K (.type "int") (.type "bool") = some false := by rfl
def Asc (z : Str) : Prop := ∀ c ∈ z.cps.toList, c < 128
def Dig (z : Str) : Prop := ∀ c ∈ z.cps.toList, 48 ≤ c ∧ c ≤ 57
theorem app_list (x y : Str) : (x ++ y).cps.toList = x.cps.toList ++ y.cps.toList := by
  show (x.cps ++ y.cps).toList = _
  simp
theorem len_list (x : Str) : x.length = x.cps.toList.length := by simp [Str.length]
def spWithin : Sp := fun vs H Q _ => ∃ n lo hi, vs = [.int n, .int lo, .int hi] ∧ Q (.bl (decide (lo ≤ n) && decide (n ≤ hi))) H
def spNumber : Sp := fun vs H Q _ => ∃ d l : Int, vs = [.int d, .int l] ∧ -100 ≤ l ∧ l ≤ 100 ∧ ∀ z : Str, z.length = l.toNat → Dig z → Q (.str z) H
section
variable {P : Program} {w : World} {K : PySem.W.Frag} {mg : Str → Option Value} {base : Heap} {a : Adr}
theorem sc_within : FnScope ["number", "least", "most"] ["number", "least", "most"] (defScope (top 2)) := ⟨rfl, rfl, rfl, by decide +kernel, rfl, by decide +kernel, by decide +kernel⟩
theorem nm_within_number : Nm (defScope (top 2)) "number" := ⟨by decide +kernel, by decide +kernel, by decide +kernel⟩
theorem nm_within_least : Nm (defScope (top 2)) "least" := ⟨by decide +kernel, by decide +kernel, by decide +kernel⟩
theorem nm_within_most : Nm (defScope (top 2)) "most" := ⟨by decide +kernel, by decide +kernel, by decide +kernel⟩
theorem gm_within_isinstance : Gm (defScope (top 2)) "isinstance" := ⟨by decide +kernel, by decide +kernel, by decide +kernel⟩
theorem gm_within_bool : Gm (defScope (top 2)) "bool" := ⟨by decide +kernel, by decide +kernel, by decide +kernel⟩
theorem ok_within {f : Addr} {fd : FuncData} (F : Fun K "within" "within" (top 2) f fd) (T : Txt K mg a) : FnOk P w K mg base CX0 1 f fd ["number", "least", "most"] spWithin := by
  refine F.ok sc_within (fun vs H Q E h => ?_) (fun cdv A outer s H vs Q E hr h => ?_)
  · obtain ⟨n, lo, hi, rfl, _⟩ := h
    rfl
  · obtain ⟨n, lo, hi, rfl, q⟩ := h
    have hu := hr.units
    have nd := sc_within.nd
    refine ⟨_, (@pss_one _ _ _ (ps_ret (pe_and (pe_not (pe_cb call_isiG gm_within_isinstance T.n_isinstance bt_isinstance (pa_cons (pvN 0 nm_within_number) (pa_cons (pe_gb (v := .ty "bool") gm_within_bool T.n_bool bt_bool rfl) pa_nil)))) (pe_one (pe_chain op_le op_le (pvN 1 nm_within_least) (pvN 0 nm_within_number) (pvN 2 nm_within_most)))))), ?_⟩
    walk_at "st"
    refine Or.inl ⟨_, _, _, _, _, rfl, .of (.int n), rfl, kit_ib K, ?_⟩
    walk_at "st"
    by_cases h1 : lo ≤ n
    · rw [decide_eq_true h1]
      refine iteT ?_
      walk_at "st"
      rw [decide_eq_true h1] at q
      exact q
    · rw [decide_eq_false h1]
      refine iteF ?_
      rw [decide_eq_false h1] at q
      exact q
end
end Lw

set_option Elab.async false
set_option linter.all false
set_option maxRecDepth 100000
set_option maxHeartbeats 4000000
namespace Lw
open PySem L2
local macro_rules | `(tactic| walk_at "st") => `(tactic| repeat (first
  | refine ⟨_, rfl, ?_⟩
  | refine ⟨_, _, rfl, rfl, ?_⟩
  | refine Or.inl ⟨_, _, rfl, rfl, ?_⟩
  | refine Or.inl ⟨rfl, ?_⟩
  | (refine And.intro (show CMul _ _ from ?_) ?_; (first | exact Or.inr ⟨by omega, by omega⟩ | exact Or.inl ⟨by omega, by omega⟩))
  | (refine And.intro (show CDiv _ _ from ?_) ?_; exact ⟨by omega, by omega⟩)
  | (refine And.intro (show (0 : Int) < _ from ?_) ?_; first | decide | omega)))
section
variable {P : Program} {w : World} {K : PySem.W.Frag} {mg : Str → Option Value} {base : Heap} {a : Adr}
theorem sc_law_number : FnScope ["draw", "long", "figures", "k"] ["draw", "long"] (defScope (top 29)) := ⟨rfl, rfl, rfl, by decide +kernel, rfl, by decide +kernel, by decide +kernel⟩
theorem nm_law_number_draw : Nm (defScope (top 29)) "draw" := ⟨by decide +kernel, by decide +kernel, by decide +kernel⟩
theorem nm_law_number_long : Nm (defScope (top 29)) "long" := ⟨by decide +kernel, by decide +kernel, by decide +kernel⟩
theorem nm_law_number_figures : Nm (defScope (top 29)) "figures" := ⟨by decide +kernel, by decide +kernel, by decide +kernel⟩
theorem nm_law_number_k : Nm (defScope (top 29)) "k" := ⟨by decide +kernel, by decide +kernel, by decide +kernel⟩
theorem gm_law_number_range : Gm (defScope (top 29)) "range" := ⟨by decide +kernel, by decide +kernel, by decide +kernel⟩
theorem ok_number {f : Addr} {fd : FuncData} (F : Fun K "_law_number" "_law_number" (top 29) f fd) (T : Txt K mg a) : FnOk P w K mg base CX0 1 f fd ["draw", "long"] spNumber := by
  refine F.ok sc_law_number (fun vs H Q E h => ?_) (fun cdv A outer s H vs Q E hr h => ?_)
  · obtain ⟨d, l, rfl, _⟩ := h
    rfl
  · obtain ⟨d, l, rfl, l0, l1, q⟩ := h
    have hu := hr.units
    have nd := sc_law_number.nd
    refine ⟨_, (@pss_cons _ _ _ _ _ (ps_nm 2 nd nm_law_number_figures pe_str)
        (pss_cons (ps_for PassesOwn.never rfl (pi_r1 gm_law_number_range T.n_range (pa_cons (pvN 1 nm_law_number_long) pa_nil)) (pg_nm 3 nd nm_law_number_k) (pss_cons (ps_nm 2 nd nm_law_number_figures (pe_op op_addG (pvN 2 nm_law_number_figures) (pe_ix ix_seq pe_str (pe_op op_mod (pvN 0 nm_law_number_draw) pe_int) (fun _ _ => rfl))))
          (pss_one (ps_nm 0 nd nm_law_number_draw (pe_op op_fdiv (pvN 0 nm_law_number_draw) pe_int)))))
        (pss_one (ps_ret (pvN 2 nm_law_number_figures))))), ?_⟩
    walk_at "st"
    refine ⟨by omega, by omega, for_range (n := l.toNat) (fun i σ H2 => ∃ (d : Int) (z : Str) (x : Option V), σ = [some (.int d), some (.int l), some (.str z), x] ∧ H2 = H ∧ z.length = i ∧ Dig z) ?_ ?_ ?_⟩
    · exact ⟨d, _, none, rfl, rfl, rfl, fun c hc => absurd hc (by show ¬ c ∈ []; simp)⟩
    · rintro i σ H2 hi ⟨d, z, x, rfl, rfl, hz, hd⟩
      walk_at "st"
      obtain ⟨c, e1, e2⟩ := atI_in (xs := (Str.ofString "0123456789").cps.toList) (k := d % 10) (by omega) (by show d % 10 < 10; omega)
      have key : ∀ m : Nat, m < 10 → ∀ c, (Str.ofString "0123456789").cps.toList[m]? = some c → 48 ≤ c ∧ c ≤ 57 := by
        intro m hm c hc
        have k : (Str.ofString "0123456789").cps.toList.all (fun c => decide (48 ≤ c ∧ c ≤ 57)) = true := by decide +kernel
        simpa using List.all_eq_true.mp k c (List.mem_of_getElem? hc)
      have kc := key _ (by omega) c e2
      refine Or.inr (Or.inr ⟨_, _, c, rfl, rfl, (by decide +kernel), e1, ?_⟩)
      refine Or.inr (Or.inl ⟨_, _, rfl, rfl, ?_, ?_⟩)
      · rw [hz, sizeLine_eq]; show i + 1 ≤ _; omega
      walk_at "st"
      refine ⟨_, _, _, rfl, rfl, ?_, ?_⟩
      · rw [len_list, app_list, List.length_append, ← len_list, hz]; rfl
      · intro e he
        rw [app_list] at he
        rcases List.mem_append.mp he with h | h
        · exact hd e h
        · have : e = c := by simpa using h
          rw [this]; exact kc
    · rintro σ H2 ⟨d, z, x, rfl, rfl, hz, hd⟩
      walk_at "st"
      exact q z hz hd
end
end Lw

set_option Elab.async false
set_option linter.all false
set_option maxRecDepth 100000
namespace L2
open PySem PySem.Spec PyProof.Rows
section
variable {K : PySem.W.Frag} {a D : Addr} {xs : List V} {g : TG} {tt : TT} {te : TE} {σ0 : St} {H : Hp} {Q : Hp → Prop}
abbrev cTurn (D : Addr) (tt : TT) (te : TE) (N : St → Hp → Prop) : St → Hp → Prop := fun σ3 H3 => tt σ3 H3 fun b H4 =>
  if b = true then te σ3 H4 fun v H5 => ∃ ys, H5 D = some (.lst ys) ∧ ys.length < sizeLine ∧ N σ3 (upd H5 D (.lst (ys ++ [v]))) else N σ3 H4
theorem comp_list (Pv : Nat → St → Hp → Prop) (h0 : Pv 0 σ0 (upd H D (.lst []))) (hl : ∀ i σ H, i ≤ xs.length → Pv i σ H → SqL K H a xs)
    (hs : ∀ i x σ H', xs[i]? = some x → Pv i σ H' → g x σ H' (cTurn D tt te (Pv (i + 1)))) (hd : ∀ σ H', Pv xs.length σ H' → Q H') :
    ∃ W : Nat → Nat → St → Hp → Prop, (∃ m, W 0 m σ0 (upd H D (.lst []))) ∧ ∀ i m σ' H', W i m σ' H' →
      ((Itl K a).stop i H' ∧ Q H') ∨ ((Itl K a).go i H' ∧ ∃ N : St → Hp → Prop, (∀ σ2 H2, N σ2 H2 → ∃ m', m' < m ∧ W (i + 1) m' σ2 H2) ∧ ∀ x H2, (Itl K a).yld i H' x H2 → g x σ' H2 fun σ3 H3 => tt σ3 H3 fun b H4 =>
        if b = true then te σ3 H4 fun v H5 => ∃ ys, H5 D = some (.lst ys) ∧ ys.length < sizeLine ∧ N σ3 (upd H5 D (.lst (ys ++ [v]))) else N σ3 H4) := by
  refine ⟨fun i m σ H => m = xs.length - i ∧ i ≤ xs.length ∧ Pv i σ H, ⟨xs.length, by simp, Nat.zero_le _, h0⟩, ?_⟩
  rintro i m σ H1 ⟨rfl, hi, p⟩
  have q := hl i σ H1 hi p
  by_cases hlt : i < xs.length
  · refine .inr ⟨⟨xs, xs[i], q, by simp [hlt]⟩, Pv (i + 1), fun σ' H' p' => ⟨xs.length - (i + 1), by omega, rfl, hlt, p'⟩, fun x H' y => ?_⟩
    obtain ⟨rfl, hy⟩ := y
    exact hs i x σ _ (hy xs q) p
  · have e : i = xs.length := by omega
    subst e
    exact .inl ⟨⟨xs, q, Nat.le_refl _⟩, hd σ H1 p⟩
theorem comp_range {lo : Int} {n : Nat} (Pv : Nat → St → Hp → Prop) (h0 : Pv 0 σ0 (upd H D (.lst []))) (hs : ∀ i σ H', i < n → Pv i σ H' → g (.int (lo + i)) σ H' (cTurn D tt te (Pv (i + 1)))) (hd : ∀ σ H', Pv n σ H' → Q H') :
    ∃ W : Nat → Nat → St → Hp → Prop, (∃ m, W 0 m σ0 (upd H D (.lst []))) ∧ ∀ i m σ' H', W i m σ' H' →
      ((Itr lo n).stop i H' ∧ Q H') ∨ ((Itr lo n).go i H' ∧ ∃ N : St → Hp → Prop, (∀ σ2 H2, N σ2 H2 → ∃ m', m' < m ∧ W (i + 1) m' σ2 H2) ∧ ∀ x H2, (Itr lo n).yld i H' x H2 → g x σ' H2 fun σ3 H3 => tt σ3 H3 fun b H4 =>
        if b = true then te σ3 H4 fun v H5 => ∃ ys, H5 D = some (.lst ys) ∧ ys.length < sizeLine ∧ N σ3 (upd H5 D (.lst (ys ++ [v]))) else N σ3 H4) := by
  refine ⟨fun i m σ H => m = n - i ∧ i ≤ n ∧ Pv i σ H, ⟨n, by simp, Nat.zero_le _, h0⟩, ?_⟩
  rintro i m σ H1 ⟨rfl, hi, p⟩
  by_cases hlt : i < n
  · refine .inr ⟨hlt, Pv (i + 1), fun σ' H' p' => ⟨n - (i + 1), by omega, rfl, hlt, p'⟩, fun x H' y => ?_⟩
    obtain ⟨rfl, rfl⟩ := y
    exact hs i σ _ hlt p
  · have e : i = n := by omega
    subst e
    exact .inl ⟨Nat.le_refl _, hd σ H1 p⟩
end
end L2

set_option Elab.async false
set_option linter.all false
set_option maxRecDepth 100000
namespace L2
open PySem PySem.Spec PyProof.Rows
section
variable {X : Cx} (K : PySem.W.Frag) (h : X.K = K)
include h
theorem ix_seqB : IxR X (rIx K) := h ▸ ix_seq
theorem sl_GB : SlR X (fun x lo hi H Q => rSlS x lo hi H Q ∨ rSlL K x lo hi H Q) := h ▸ sl_G
theorem pg_tupB (n : Nat) {es : List Expr} {k : Nat} {pos : Pos} {t : TGs} (hc : X.calm = true) (hg : PGs X es t) (hn : (assignEach es X.env).length = n) (hst : (assignEach es X.env).findIdx? (·.1) = none) : PG X (.Tuple es k pos) (gTup K n t) := h ▸ pg_tup hc hg hn hst
theorem op_inGB : OpR X (compareOp .In) (fun x y H Q => (∃ i j, x = .str i ∧ y = .str j ∧ Q (.bl (inS i j)) H) ∨ rIn K false x y H Q) := h ▸ op_inG
theorem op_notInGB : OpR X (compareOp .NotIn) (fun x y H Q => (∃ i j, x = .str i ∧ y = .str j ∧ Q (.bl (!inS i j)) H) ∨ rIn K true x y H Q) := h ▸ op_notInG
end
end L2

set_option Elab.async false
set_option linter.all false
set_option maxRecDepth 100000
namespace L2
open PySem PySem.Spec PyProof.Rows
section
variable {κ : Type} [DecidableEq κ]
def valV (kvs : List (κ × V)) (k : κ) : Option V := (kvs.find? fun kv => decide (kv.1 = k)).map (·.2)
def putK (kvs : List (κ × V)) (k : κ) (v : V) : List (κ × V) :=
  if (kvs.any fun kv => decide (kv.1 = k)) = true then kvs.map (fun kv => if kv.1 = k then (kv.1, v) else kv) else kvs ++ [(k, v)]
theorem valV_pos {p : κ × V} {r : List (κ × V)} {k : κ} (e : p.1 = k) : valV (p :: r) k = some p.2 := by simp [valV, List.find?_cons, e]
theorem valV_neg {p : κ × V} {r : List (κ × V)} {k : κ} (e : ¬ p.1 = k) : valV (p :: r) k = valV r k := by simp [valV, List.find?_cons, e]
theorem valV_any (k : κ) : ∀ kvs : List (κ × V), (kvs.any fun kv => decide (kv.1 = k)) = (valV kvs k).isSome
  | [] => rfl
  | p :: r => by
    rw [List.any_cons]
    by_cases e : p.1 = k
    · simp only [valV_pos e, decide_eq_true e, Bool.true_or, Option.isSome_some]
    · rw [valV_neg e, decide_eq_false e, Bool.false_or]; exact valV_any k r
theorem length_putK (kvs : List (κ × V)) (k : κ) (v : V) : (putK kvs k v).length ≤ kvs.length + 1 := by
  unfold putK
  split
  · rw [List.length_map]; omega
  · rw [List.length_append, List.length_cons, List.length_nil]; omega
theorem putK_new {kvs : List (κ × V)} {k : κ} (v : V) (h : valV kvs k = none) : putK kvs k v = kvs ++ [(k, v)] := by
  unfold putK
  rw [valV_any, h]
  exact if_neg (by decide)
theorem RelO.isSome_eq {o : Option V} {u : Option Value} (r : RelO o u) : o.isSome = u.isSome := by
  cases o with
  | none => cases u with
    | none => rfl
    | some _ => exact (show False from r).elim
  | some _ => cases u with
    | none => exact (show False from r).elim
    | some _ => rfl
theorem KV.val {kvs : List (κ × V)} {vs : List (κ × Value)} (r : KV kvs vs) (k : κ) : RelO (valV kvs k) (valueAt vs k) := by
  unfold KV at r
  induction r with
  | nil => exact True.intro
  | @cons p q ps qs h t ih =>
    obtain ⟨h1, h2⟩ := h
    by_cases e : p.1 = k
    · have e' : q.1 = k := h1.symm.trans e
      have b : valueAt (q :: qs) k = some q.2 := by simp [valueAt, List.find?_cons, e']
      rw [valV_pos e, b]; exact h2
    · have e' : ¬ q.1 = k := fun z => e (h1.trans z)
      have b : valueAt (q :: qs) k = valueAt qs k := by simp [valueAt, List.find?_cons, e']
      rw [valV_neg e, b]; exact ih
theorem KV.any {kvs : List (κ × V)} {vs : List (κ × Value)} (r : KV kvs vs) (k : κ) : (kvs.any fun kv => decide (kv.1 = k)) = vs.any fun kv => decide (kv.1 = k) := by
  unfold KV at r
  induction r with
  | nil => rfl
  | cons h t ih => rw [List.any_cons, List.any_cons, ih, h.1]
theorem KV.repl {kvs : List (κ × V)} {vs : List (κ × Value)} (r : KV kvs vs) (k : κ) {y : V} {u : Value} (ry : RelV y u) :
    KV (kvs.map fun kv => if kv.1 = k then (kv.1, y) else kv) (vs.map fun kv => if kv.1 = k then (kv.1, u) else kv) := by
  unfold KV at r ⊢
  induction r with
  | nil => exact .nil
  | @cons p q ps qs h t ih =>
    rw [List.map_cons, List.map_cons]
    refine .cons ?_ ih
    obtain ⟨h1, h2⟩ := h
    by_cases e : p.1 = k
    · rw [if_pos e, if_pos (h1.symm.trans e)]; exact ⟨h1, ry⟩
    · rw [if_neg e, if_neg (fun z => e (h1.trans z))]; exact ⟨h1, h2⟩
theorem KV.put {kvs : List (κ × V)} {vs : List (κ × Value)} (r : KV kvs vs) (k : κ) {y : V} {u : Value} (ry : RelV y u) : KV (putK kvs k y) (stored vs k u) := by
  unfold putK stored
  rw [r.any k]
  by_cases e : (vs.any fun kv => decide (kv.1 = k)) = true
  · rw [if_pos e, if_pos e]; exact r.repl k ry
  · rw [if_neg e, if_neg e]; exact Paired.snoc r ⟨rfl, ry⟩
theorem KV.keys {kvs : List (κ × V)} {vs : List (κ × Value)} (r : KV kvs vs) : kvs.map (·.1) = vs.map (·.1) := by
  unfold KV at r
  induction r with
  | nil => rfl
  | cons h t ih => rw [List.map_cons, List.map_cons, ih, h.1]
theorem KV.length {kvs : List (κ × V)} {vs : List (κ × Value)} (r : KV kvs vs) : kvs.length = vs.length := Paired.length r
end
theorem kV_is {P : Program} {w : World} {k : Key} {u : Value} (r : RelV (kV k) u) : (mixKind P w).is k u = true := by
  cases k with
  | inl i => obtain ⟨t, e⟩ := (show ∃ t, u = Value.int i t from r); subst e; exact mixKind_int P w i t
  | inr x => obtain ⟨t, e⟩ := (show ∃ t, u = Value.str x t from r); subst e; exact mixKind_str P w x t
section
variable {P : Program} {w : World} {H : Hp} {h : Heap} {a : Addr}
theorem rd_of {u : HO} (ok : HOk P w H h) (e : Rd H a u) : ObjOk P w H h a u := e.ok ok
theorem dk_rd {kvs : List (Key × V)} (ok : HOk P w H h) (e : Rd H a (.dK kvs)) : kvs.length ≤ sizeLine ∧ (a == sysModules) = false ∧ ∃ vs, KV kvs vs ∧ h.DictOf (mixKind P w) a vs :=
  show ObjOk P w H h a (.dK kvs) from rd_of ok e
theorem dk_of {kvs : List (Key × V)} (ok : HOk P w H h) (e : H a = some (.dK kvs)) : kvs.length ≤ sizeLine ∧ (a == sysModules) = false ∧ ∃ vs, KV kvs vs ∧ h.DictOf (mixKind P w) a vs := dk_rd ok (.inl e)
end
section
variable {X : Cx} {pins : List (Addr × Obj)} {σ : St} {H : Hp} {s : Shared} {a : Addr} {y v : V} {u r : Value} {o : Option V} {A : Around} {E : Value → Shared → Prop}
theorem Inv.big (I : Inv X pins σ H s) : sysModules < s.heap.objs.size := by
  have h : mainGlobals < s.heap.objs.size := (I.mod.glob.keeps I.bk).lt
  exact Nat.lt_trans (by decide) h
theorem d_write {h' : Heap} {t' : Nat} {ob : HO} (I : Inv X pins σ H s) (mu : Mut (H a)) (hs : Heap.SameBut a s.heap h') (he : ∃ q, h'.get? a = some q) (new : ObjOk X.prog X.w (upd H a ob) h' a ob) :
    Inv X pins σ (upd H a ob) { s with heap := h', toks := t' } :=
  I.write (x := a) (e := a) mu (.inl rfl) (fun b q hb z => (hs.2 b hb).trans z) he new
theorem dk_new {P : Program} {w : World} {H' : Hp} {h' : Heap} {kvs : List (Key × V)} {vs : List (Key × Value)} (z : kvs.length ≤ sizeLine) (hd : (a == sysModules) = false) (rel : KV kvs vs) (dd : h'.DictOf (mixKind P w) a vs) :
    ObjOk P w H' h' a (.dK kvs) := ⟨z, hd, vs, rel, dd⟩
end
section
variable {X : Cx} {pins : List (Addr × Obj)} {σ : St} {H : Hp} {s : Shared} {a : Addr} {kvs : List (Key × V)} {k : Key} {u : Value} {A : Around} {E : Value → Shared → Prop}
end
def NoSl (i : Expr) : Prop := ∀ ov iv, subscripted i false ov iv = operate [ov, iv] (getItem ov iv)
theorem subD_of {prog : Program} {w : World} {A : Around} {E : Value → Shared → Prop} {s : Shared} {env : Env} {value slice : Expr} {pos : Pos} {T id : String} {Q : Value → Shared → Prop}
    (hl : typeLookup (.type T) "__getitem__" = pure (some (.builtin id))) (hs : NoSl slice)
    (h : wpAny (model prog w) A (eval value env) (fun o s₁ => wpAny (model prog w) A (eval slice env) (fun i s₂ => s₂.TypeIs o T ∧ wpAny (model prog w) A (getItem o i) Q E s₂) E s₁) E s) :
    wpAny (model prog w) A (eval (.Subscript value slice pos) env) Q E s := by
  refine Subscript_ (wpAny_mono h (fun o s₁ h₁ => wpAny_mono h₁ (fun i s₂ h₂ => ?_) fun _ _ x => x) fun _ _ x => x)
  obtain ⟨hT, h₂⟩ := h₂
  unfold subscriptTail
  refine wpAny_bind ?_
  rw [getitemInPython_of_ne hT.not_modules]
  refine wpAny_bind (wpAny_specialOf hT hl ?_)
  have fin : wpAny (model prog w) A (subscripted slice false o i) (fun r s₃ => wpAny (model prog w) A (letTemporaryGo value o r >>= fun _ => pure r) Q E s₃) E s₂ := by
    rw [hs o i]
    exact wpAny_operating (wpAny_mono h₂ (fun r s₃ h₃ => wpAny_bind (wpAny_letTemporaryGo (wpAny_pure h₃))) fun _ _ x => x)
  first
    | exact wpAny_pure (wpAny_bind fin)
    | exact wpAny_bind (wpAny_pure (wpAny_bind fin))
    | exact wpAny_bind fin
section
variable {X : Cx} {o i e value : Expr} {pos pos' tpos : Pos} {td ty tv : TE}
end
theorem dk_empty {P : Program} {w : World} {H : Hp} (h : Heap) (hb : sysModules < h.objs.size) : ObjOk P w H (h.push { cls := .type "dict", data := .dict #[] }) h.objs.size (.dK []) :=
  ⟨Nat.zero_le _, beq_eq_false_iff_ne.mpr (Ne.symm (Nat.ne_of_lt hb)), [], .nil, Heap.DictOf.new h⟩
section
variable {X : Cx} {pos : Pos}
end
structure M1 (X : Cx) (o : Expr) (m : Str) (apos : Pos) (e : Expr) (cpos : Pos) : Prop where
  base : attributeBase o m X.env (eval o X.env) = eval o X.env
  few : ((backTo cpos (starEach [e] X.env)).all (fun x => !x.1) && (backToKw cpos (keywordEach [] X.env)).all (fun x => x.1.isSome)
    && decide (([e] : List Expr).length + ([] : List Keyword).length + (if ([] : List Keyword).isEmpty then 0 else 1) < 30)) = true
  line : (apos.endLine == cpos.line) = true
  trees : backTo cpos (starEach [e] X.env) = [(false, eval e X.env)]
structure M2 (X : Cx) (o : Expr) (m : Str) (apos : Pos) (e f : Expr) (cpos : Pos) : Prop where
  base : attributeBase o m X.env (eval o X.env) = eval o X.env
  few : ((backTo cpos (starEach [e, f] X.env)).all (fun x => !x.1) && (backToKw cpos (keywordEach [] X.env)).all (fun x => x.1.isSome)
    && decide (([e, f] : List Expr).length + ([] : List Keyword).length + (if ([] : List Keyword).isEmpty then 0 else 1) < 30)) = true
  line : (apos.endLine == cpos.line) = true
  trees : backTo cpos (starEach [e, f] X.env) = [(false, eval e X.env), (false, eval f X.env)]
section
variable {X : Cx} {pins : List (Addr × Obj)} {σ : St} {H : Hp} {s : Shared} {a : Addr} {y d : V} {u r : Value} {o : Option V} {A : Around} {E : Value → Shared → Prop}
end
section
variable {X : Cx} {o e f : Expr} {apos cpos : Pos} {td ty tx : TE}
end
section
variable {X : Cx} {pins : List (Addr × Obj)} {σ : St} {H : Hp} {s : Shared} {a : Addr} {kvs : List (Key × V)} {A : Around} {E : Value → Shared → Prop}
end
section
variable {X : Cx} {pins : List (Addr × Obj)} {σ : St} {H : Hp} {s : Shared} {a : Addr} {y : V} {u : Value} {A : Around} {E : Value → Shared → Prop}
end
end L2
namespace L2
open PySem PySem.Spec PyProof.Rows
section
variable {X : Cx}
end
section
variable {κ : Type} [DecidableEq κ]
theorem valV_in {kvs : List (κ × V)} {k : κ} {v : V} (h : valV kvs k = some v) : k ∈ kvs.map (·.1) := by
  have q : (kvs.any fun kv => decide (kv.1 = k)) = true := by
    rw [valV_any, h]
    all_goals rfl
  obtain ⟨p, hp, e⟩ := List.any_eq_true.mp q
  exact List.mem_map.mpr ⟨p, hp, of_decide_eq_true e⟩
end
end L2

set_option Elab.async false
set_option linter.all false
set_option maxRecDepth 100000
namespace L2
open PySem PySem.Spec PyProof.Rows
structure CFn (K : PySem.W.Frag) (C f : Addr) (m : Str) : Prop where
  rd : PySem.W.readsIn K C (.type "type") = true
  sp : PySem.W.specialIn K (.ref C) "__getattribute__" = some (some (.builtin "type.__getattribute__"))
  fd : PySem.W.findCls K (.ref C) (.type "type") m = some (.val (.ref f))
  ty : PySem.W.typeIn K (.ref f) = some (.type "function")
  kp : PySem.W.keepIn K (.ref f) = true
section
variable {X : Cx} {CX : CXT} {k : Nat} {f C : Addr} {fd : FuncData} {ps : List Str} {sp : Sp} {E : XK} {x m : Str} {p pos apos : Pos} {e : Expr} {es : List Expr} {t : TA}
end
end L2

set_option Elab.async false
set_option linter.all false
set_option maxRecDepth 100000
namespace L2
open PySem PySem.Spec PyProof.Rows
section
variable {X : Cx}
end
end L2

set_option Elab.async false
set_option linter.all false
set_option maxRecDepth 100000
namespace L2
open PySem PySem.Spec PyProof.Rows
theorem strs_vals : ∀ {vs : List Value} {zs : List Str}, StrsAre vs zs → Vals (zs.map V.str) vs
  | _, _, .nil => .nil
  | _, _, .cons n t r => .cons ⟨t, rfl⟩ (strs_vals r)
theorem vals_strs : ∀ {zs : List Str} {vs : List Value}, Vals (zs.map V.str) vs → StrsAre vs zs
  | [], _, .nil => .nil
  | n :: zs, _, .cons r t => by
    obtain ⟨tk, rfl⟩ := r
    exact .cons n tk (vals_strs t)
def leS (a b : Str) : Prop := a.cps.toList ≤ b.cps.toList
theorem leS_trans {a b c : Str} (h : leS a b) (k : leS b c) : leS a c := List.le_trans h k
theorem leS_anti {a b : Str} (h : leS a b) (k : leS b a) : a = b := by
  have e := List.le_antisymm h k
  cases a with | mk x => cases b with | mk y => cases x; cases y; simp_all
theorem rising_pw : ∀ (l : List Str) (p : Str), risingS p l = true → (p :: l).Pairwise leS
  | [], p, _ => List.pairwise_singleton _ _
  | x :: r, p, h => by
    have h' : (!ltCps x.cps.toList p.cps.toList && risingS x r) = true := h
    rw [Bool.and_eq_true] at h'
    have ih := rising_pw r x h'.2
    have hx : leS p x := by
      have := h'.1
      rw [ltCps_eq] at this
      show ¬ (x.cps.toList < p.cps.toList)
      simpa using this
    refine List.pairwise_cons.mpr ⟨fun y hy => ?_, ih⟩
    rcases List.mem_cons.mp hy with z | z
    · rw [z]; exact hx
    · exact leS_trans hx ((List.pairwise_cons.mp ih).1 y z)
theorem sorted_pw : ∀ {l : List Str}, sortedS l = true → l.Pairwise leS
  | [], _ => .nil
  | x :: r, h => rising_pw r x h
theorem sorted_one {a b : List Str} (p : a.Perm b) (ha : a.Pairwise leS) (hb : b.Pairwise leS) : a = b :=
  List.Perm.eq_of_pairwise (le := leS) (fun x y _ _ h1 h2 => leS_anti h1 h2) ha hb p
section
variable {X : Cx}
theorem call_sortedS : CallR X (.builtin "sorted") (fun xs H Q => ∃ (p : Addr) (zs : List Str), xs = [.ref p] ∧ SqL X.K H p (zs.map V.str) ∧ zs.length < 64 ∧ ∀ (l : Addr) (zs' : List Str), H l = none → zs'.Perm zs → zs'.Pairwise leS → Q (.ref l) (upd H l (.lst (zs'.map V.str)))) := by
  intro pins s σ H xs us Q I r h
  obtain ⟨p, zs, rfl, hq, hl, q⟩ := h
  obtain ⟨u, rfl, rx⟩ := vals1 r
  cases rx
  obtain ⟨its, rv, pl, hz⟩ := I.list hq
  have e := rv.length
  rw [List.length_map] at e
  refine sorted_strs pl.isList (vals_strs rv) (by omega) fun out zs' a1 a2 a3 => ?_
  obtain ⟨c, ho⟩ := sortedAll_at s.heap its out
  have fr : H (s.heap.objs.size + 1) = none := I.hok.fresh (Nat.le_succ _)
  refine ⟨.ref (s.heap.objs.size + 1), _, I.laid (t' := s.toks) (fun b o q => sortedAll_old q) (Nat.le_succ _) (show ObjOk X.prog X.w _ _ _ (.lst (zs'.map V.str)) from ⟨?_, out.toList, c, strs_vals a1, by simpa using ho⟩), rfl, q _ zs' fr a2 (sorted_pw a3)⟩
  rw [List.length_map, a2.length_eq, sizeLine_eq]
  omega
theorem call_allB (hc : X.calm = true) : CallR X (.builtin "all") (fun xs H Q => ∃ (p : Addr) (bs : List Bool), xs = [.ref p] ∧ SqL X.K H p (bs.map V.bl) ∧ Q (.bl (bs.all id)) H) := by
  intro pins s σ H xs us Q I r h
  obtain ⟨p, bs, rfl, hq, q⟩ := h
  obtain ⟨u, rfl, rx⟩ := vals1 r
  cases rx
  obtain ⟨its, rv, pl, hz⟩ := I.list hq
  refine call_all_walk (wpAny_pyIter_list pl.isList ?_)
  have hlt : p < s.heap.objs.size := by
    obtain ⟨o, e, _⟩ := pl.isList
    exact Heap.lt_size e
  have el := rv.length
  rw [List.length_map] at el
  have hb : ∀ (i : Nat) (v : Value), its.toArray[i]? = some v → v = Value.bool (bs.getD i true) := fun i v hv => by
    have hv' : its[i]? = some v := by simpa using hv
    have hi : i < bs.length := by rw [el]; exact (List.getElem?_eq_some_iff.mp hv').1
    obtain ⟨u, e1, e2⟩ := rv.get (i := i) (x := .bl bs[i]) (by rw [List.getElem?_map, List.getElem?_eq_getElem hi]; rfl)
    rw [hv'] at e1
    cases e1
    rw [List.getD, List.getElem?_eq_getElem hi]
    exact e2
  refine ⟨s.heap.objs.size, _, _, _, _, _, fun i => bs.getD i true, rfl, Walks.list (by simpa using I.ok.hd hc) s.heap.objs.size p (Nat.ne_of_lt hlt) its.toArray, ⟨⟨_, Heap.get?_push_size _ rfl, rfl, rfl⟩, pl.isList.push _⟩, fun i v s' Q' E' hv hq' => ?_, fun h' tk hk => ?_⟩
  · rw [hb i v hv]
    exact wpAny_truthy_bool hq'
  · have e : (List.range its.toArray.size).all (fun i => bs.getD i true) = bs.all id := by
      rw [List.size_toArray, ← el, Bool.eq_iff_iff, List.all_eq_true, List.all_eq_true]
      constructor
      · intro h b hb'
        obtain ⟨i, hi, rfl⟩ := List.getElem_of_mem hb'
        have := h i (List.mem_range.mpr hi)
        rwa [List.getD, List.getElem?_eq_getElem hi] at this
      · intro h i hi
        have hi' := List.mem_range.mp hi
        rw [List.getD, List.getElem?_eq_getElem hi']
        exact h _ (List.getElem_mem hi')
    rw [e]
    have I2 : Inv X pins σ H { s with heap := h', toks := tk } := I.kept (t' := tk) fun b o hb' => hk b o (fun z => by
      rw [List.mem_singleton.mp z] at hb'
      exact absurd (Heap.lt_size hb') (Nat.lt_irrefl _)) (Heap.get?_push_of_some _ hb')
    exact ⟨.bl _, H, I2, rfl, q⟩
end
end L2

set_option Elab.async false
set_option linter.all false
set_option maxRecDepth 100000
namespace L2
open PySem PySem.Spec PyProof.Rows PySem.W
section
variable {n : Nat} {key : Nat → List Nat} {cmp : Nat → Nat → (Bool → Shared → Prop) → Shared → Prop} {s : Shared}
def at0 (p : Array Nat) (i : Nat) : Nat := p.getD i 0
theorem at0_eq (p : Array Nat) (i : Nat) : at0 p i = (p[i]?).getD 0 := by unfold at0; rw [Array.getD_eq_getD_getElem?]
structure Pm (n : Nat) (p : Array Nat) : Prop where
  pm : p.toList.Perm (List.range n)
theorem Pm.size {p : Array Nat} (h : Pm n p) : p.size = n := by have := h.pm.length_eq; simpa using this
theorem Pm.lt {p : Array Nat} (h : Pm n p) {i : Nat} (hi : i < n) : at0 p i < n := by
  have hs : i < p.size := by rw [h.size]; exact hi
  rw [at0_eq, Array.getElem?_eq_getElem hs]
  exact List.mem_range.mp (h.pm.mem_iff.mp (Array.getElem_mem_toList hs))
theorem Pm.inj {p : Array Nat} (h : Pm n p) {i j : Nat} (hi : i < n) (hj : j < n) (e : at0 p i = at0 p j) : i = j := by
  have hs : i < p.size := by rw [h.size]; exact hi
  have ht : j < p.size := by rw [h.size]; exact hj
  rw [at0_eq, at0_eq, Array.getElem?_eq_getElem hs, Array.getElem?_eq_getElem ht] at e
  have nd : p.toList.Nodup := h.pm.nodup_iff.mpr List.nodup_range
  have e' : p.toList[i]'(by simpa using hs) = p.toList[j]'(by simpa using ht) := by simpa using e
  exact (List.getElem_inj nd).mp e'
structure Ky (n : Nat) (key : Nat → List Nat) (cmp : Nat → Nat → (Bool → Shared → Prop) → Shared → Prop) (s : Shared) : Prop where
  df : ∀ i j, i < n → j < n → i ≠ j → key i ≠ key j
  ok : ∀ i j C, i < n → j < n → C (decide (key i < key j)) s → cmp i j C s
def Up (key : Nat → List Nat) (p : Array Nat) (m : Nat) : Prop := ∀ i j, i < j → j < m → key (at0 p i) < key (at0 p j)
def Dn (key : Nat → List Nat) (p : Array Nat) (m : Nat) : Prop := ∀ i j, i < j → j < m → key (at0 p j) < key (at0 p i)
theorem ky_tot (k : Ky n key cmp s) {p : Array Nat} (h : Pm n p) {i j : Nat} (hi : i < n) (hj : j < n) (d : i ≠ j) (z : ¬ key (at0 p i) < key (at0 p j)) : key (at0 p j) < key (at0 p i) := by
  have ne : key (at0 p i) ≠ key (at0 p j) := k.df _ _ (h.lt hi) (h.lt hj) fun e => d (h.inj hi hj e)
  rcases List.le_total (key (at0 p i)) (key (at0 p j)) with q | q
  · exact absurd (List.le_antisymm q (List.not_lt.mp z)) ne
  · exact Classical.byContradiction fun w => ne (List.le_antisymm (List.not_lt.mp w) q)
theorem Up.more {p : Array Nat} {m : Nat} (u : Up key p m) (h : m = 0 ∨ key (at0 p (m - 1)) < key (at0 p m)) : Up key p (m + 1) := fun i j hi hj => by
  by_cases e : j < m
  · exact u i j hi e
  · have e : j = m := by omega
    subst e
    rcases h with h | h
    · omega
    · by_cases q : i = j - 1
      · rw [q]; exact h
      · exact List.lt_trans (u i (j - 1) (by omega) (by omega)) h
theorem Dn.more {p : Array Nat} {m : Nat} (u : Dn key p m) (h : m = 0 ∨ key (at0 p m) < key (at0 p (m - 1))) : Dn key p (m + 1) := fun i j hi hj => by
  by_cases e : j < m
  · exact u i j hi e
  · have e : j = m := by omega
    subst e
    rcases h with h | h
    · omega
    · by_cases q : i = j - 1
      · rw [q]; exact h
      · exact List.lt_trans h (u i (j - 1) (by omega) (by omega))
theorem asc_ok (k : Ky n key cmp s) {p : Array Nat} (hp : Pm n p) {Q : Nat → Shared → Prop} : ∀ (f m : Nat), 1 ≤ m → m + f = n → Up key p m → (∀ m', m ≤ m' → m' ≤ n → Up key p m' → (m' < n → key (at0 p m') < key (at0 p (m' - 1))) → Q m' s) → (kas_asc p f m).kasWp cmp Q s
  | 0, m, h1, h2, u, q => q m (Nat.le_refl _) (by omega) u fun z => by omega
  | f + 1, m, h1, h2, u, q => by
    refine k.ok _ _ _ (hp.lt (i := m) (by omega)) (hp.lt (i := m - 1) (by omega)) ?_
    by_cases c : key (at0 p m) < key (at0 p (m - 1))
    · have c' : key (p.getD m 0) < key (p.getD (m - 1) 0) := c
      rw [decide_eq_true c']; dsimp only; rw [if_pos rfl]
      exact q m (Nat.le_refl _) (by omega) u fun _ => c
    · have c' : ¬ key (p.getD m 0) < key (p.getD (m - 1) 0) := c
      rw [decide_eq_false c']; dsimp only; rw [if_neg (by decide)]
      exact asc_ok k hp f (m + 1) (by omega) (by omega) (u.more (.inr (ky_tot k hp (by omega) (by omega) (by omega) c))) fun m' a b => q m' (by omega) b
theorem desc_ok (k : Ky n key cmp s) {p : Array Nat} (hp : Pm n p) {Q : Array Nat × Nat × Nat → Shared → Prop} : ∀ (f m : Nat), 1 ≤ m → m + f = n → Dn key p m → (∀ m', m ≤ m' → m' ≤ n → Dn key p m' → Q (p, m', 0) s) → (kas_desc f p m 0).kasWp cmp Q s
  | 0, m, h1, h2, u, q => q m (Nat.le_refl _) (by omega) u
  | f + 1, m, h1, h2, u, q => by
    refine k.ok _ _ _ (hp.lt (i := m) (by omega)) (hp.lt (i := m - 1) (by omega)) ?_
    by_cases c : key (at0 p m) < key (at0 p (m - 1))
    · have c' : key (p.getD m 0) < key (p.getD (m - 1) 0) := c
      rw [decide_eq_true c']; dsimp only; rw [if_pos rfl, if_neg (by decide)]
      exact desc_ok k hp f (m + 1) (by omega) (by omega) (u.more (.inr c)) fun m' a b => q m' (by omega) b
    · have c' : ¬ key (p.getD m 0) < key (p.getD (m - 1) 0) := c
      rw [decide_eq_false c']; dsimp only; rw [if_neg (by decide)]
      have d := ky_tot k hp (i := m) (j := m - 1) (by omega) (by omega) (by omega) c
      have d' : key (p.getD (m - 1) 0) < key (p.getD m 0) := d
      refine k.ok _ _ _ (hp.lt (i := m - 1) (by omega)) (hp.lt (i := m) (by omega)) ?_
      rw [decide_eq_true d']; dsimp only; rw [if_pos rfl]
      exact q m (Nat.le_refl _) (by omega) u
theorem rev_at {p : Array Nat} {m : Nat} (hm : m ≤ p.size) (i : Nat) : at0 (kas_rev p 0 m) i = if i < m then at0 p (m - 1 - i) else at0 p i := by
  rw [at0_eq, at0_eq, at0_eq]
  unfold kas_rev
  rw [getElem?_mirror hm _ (by omega)]
  split
  · rename_i h
    have hi : i < m := by omega
    rw [if_pos hi]
    congr 2
    omega
  · rename_i h
    split
    · congr 2
      omega
    · rfl
theorem Pm.rev {p : Array Nat} (h : Pm n p) (m : Nat) : Pm n (kas_rev p 0 m) := ⟨(Array.perm_iff_toList_perm.mp (mirror_perm _ _ _ _)).trans h.pm⟩
theorem Dn.rev {p : Array Nat} {m : Nat} (h : Dn key p m) (hm : m ≤ p.size) : Up key (kas_rev p 0 m) m := fun i j hi hj => by
  rw [rev_at hm, rev_at hm, if_pos (by omega), if_pos hj]
  exact h _ _ (by omega) (by omega)
theorem count_ok (k : Ky n key cmp s) {p : Array Nat} (hp : Pm n p) (hn : 1 ≤ n) {Q : Nat × Array Nat → Shared → Prop} (q : ∀ m p', 1 ≤ m → m ≤ n → Pm n p' → Up key p' m → Q (m, p') s) : (kas_count n p).kasWp cmp Q s := by
  unfold kas_count
  rw [KasT.kasWp_bind]
  refine asc_ok k hp (n - 1) 1 (Nat.le_refl _) (by omega) (fun i j a b => by omega) fun m h1 h2 u d => ?_
  by_cases e : m = n
  · rw [if_pos (beq_iff_eq.mpr e)]
    exact q m p h1 h2 hp u
  · rw [if_neg (fun z => e (beq_iff_eq.mp z))]
    by_cases g : m > 1
    · rw [if_pos g]
      have c : key (p.getD 0 0) < key (p.getD (m - 1) 0) := u 0 (m - 1) (by omega) (by omega)
      refine k.ok _ _ _ (hp.lt (i := 0) (by omega)) (hp.lt (i := m - 1) (by omega)) ?_
      rw [decide_eq_true c]; dsimp only; rw [if_pos rfl]
      exact q m p h1 h2 hp u
    · rw [if_neg g]
      have e1 : m = 1 := by omega
      subst e1
      unfold kas_descPart
      rw [KasT.kasWp_bind]
      refine desc_ok k hp (n - 2) 2 (by decide) (by omega) (Dn.more (m := 1) (fun i j a b => by omega) (.inr (d (by omega)))) fun m' a b dn => ?_
      rw [if_neg (by simp)]
      unfold kas_tail3
      rw [KasT.kasWp_bind]
      have hz := hp.size
      exact asc_ok k (hp.rev m') (n - m') m' (by omega) (by omega) (dn.rev (by omega)) fun m2 c1 c2 u2 _ => q m2 _ (by omega) c2 (hp.rev m') u2
theorem place_ok (k : Ky n key cmp s) {p : Array Nat} (hp : Pm n p) {c : Nat} (hc : c < n) (u : Up key p c) {Q : Nat → Shared → Prop} (q : ∀ l, l ≤ c → (∀ i, i < l → key (at0 p i) < key (at0 p c)) → (∀ i, l ≤ i → i < c → key (at0 p c) < key (at0 p i)) → Q l s) :
    ∀ (f l r : Nat), l ≤ r → r ≤ c → r - l ≤ f → (∀ i, i < l → key (at0 p i) < key (at0 p c)) → (∀ i, r ≤ i → i < c → key (at0 p c) < key (at0 p i)) → (kas_place p c f l r).kasWp cmp Q s
  | 0, l, r, h1, h2, h3, a, b => by
    have e : l = r := by omega
    subst e
    exact q l h2 a b
  | f + 1, l, r, h1, h2, h3, a, b => by
    unfold kas_place
    by_cases g : l ≥ r
    · rw [if_pos g]
      have e : l = r := by omega
      subst e
      exact q l h2 a b
    · rw [if_neg g]
      refine k.ok _ _ _ (hp.lt (i := c) hc) (hp.lt (i := (l + r) / 2) (by omega)) ?_
      by_cases z : key (at0 p c) < key (at0 p ((l + r) / 2))
      · have z' : key (p.getD c 0) < key (p.getD ((l + r) / 2) 0) := z
        rw [decide_eq_true z']; dsimp only; rw [if_pos rfl]
        refine place_ok k hp hc u q f l ((l + r) / 2) (by omega) (by omega) (by omega) a fun i i1 i2 => ?_
        by_cases e : i = (l + r) / 2
        · rw [e]; exact z
        · exact List.lt_trans z (u _ _ (by omega) i2)
      · have z' : ¬ key (p.getD c 0) < key (p.getD ((l + r) / 2) 0) := z
        rw [decide_eq_false z']; dsimp only; rw [if_neg (by decide)]
        have y := ky_tot k hp (i := c) (j := (l + r) / 2) hc (by omega) (by omega) z
        refine place_ok k hp hc u q f ((l + r) / 2 + 1) r (by omega) (by omega) (by omega) (fun i i1 => ?_) b
        by_cases e : i = (l + r) / 2
        · rw [e]; exact y
        · exact List.lt_trans (u _ _ (by omega) (by omega)) y
theorem bub_at {p : Array Nat} {c l : Nat} (hc : c < p.size) (hl : l ≤ c) (i : Nat) : at0 (bubble p c (c - l)) i = if i = l then at0 p c else if l < i ∧ i ≤ c then at0 p (i - 1) else at0 p i := by
  rw [at0_eq, getElem?_bubble hc (c - l) (by omega)]
  have e : c - (c - l) = l := by omega
  rw [e, at0_eq, at0_eq, at0_eq]
  split
  · rfl
  · split <;> rfl
theorem bin_ok (k : Ky n key cmp s) {Q : Array Nat → Shared → Prop} (q : ∀ p, Pm n p → Up key p n → Q p s) : ∀ (f : Nat) (p : Array Nat) (c : Nat), Pm n p → c + f = n → Up key p c → (kas_bin f p c).kasWp cmp Q s
  | 0, p, c, hp, e, u => by
    have e : c = n := by omega
    subst e
    exact q p hp u
  | f + 1, p, c, hp, e, u => by
    unfold kas_bin
    rw [KasT.kasWp_bind]
    have hz := hp.size
    refine place_ok k hp (by omega) u (fun l hl a b => ?_) c 0 c (Nat.zero_le _) (Nat.le_refl _) (Nat.le_refl _) (fun i z => by omega) (fun i z1 z2 => by omega)
    refine bin_ok k q f _ (c + 1) ⟨(Array.perm_iff_toList_perm.mp (bubble_perm _ _ _)).trans hp.pm⟩ (by omega) fun i j hi hj => ?_
    rw [bub_at (by omega) hl, bub_at (by omega) hl]
    by_cases e1 : i = l
    · rw [if_pos e1, if_neg (by omega), if_pos (by omega)]
      exact b _ (by omega) (by omega)
    · rw [if_neg e1]
      by_cases e2 : l < i
      · rw [if_pos ⟨e2, by omega⟩, if_neg (by omega), if_pos (by omega)]
        exact u _ _ (by omega) (by omega)
      · rw [if_neg (by omega)]
        by_cases e3 : j = l
        · rw [if_pos e3]
          exact a i (by omega)
        · rw [if_neg e3]
          by_cases e4 : l < j
          · rw [if_pos ⟨e4, by omega⟩]
            by_cases e5 : i = j - 1
            · omega
            · exact u _ _ (by omega) (by omega)
          · rw [if_neg (by omega)]
            exact u _ _ hi (by omega)
theorem kas_all (k : Ky n key cmp s) (hn : 1 ≤ n) {Q : Array Nat → Shared → Prop} (q : ∀ p, Pm n p → Up key p n → Q p s) : (kas_sort n).kasWp cmp Q s := by
  unfold kas_sort
  rw [KasT.kasWp_bind]
  refine count_ok k ⟨by simp⟩ hn fun m p h1 h2 hp u => ?_
  by_cases e : m < n
  · rw [if_pos e]
    have em : max m 1 = m := by omega
    rw [em]
    exact bin_ok k q (n - m) p m hp (by omega) u
  · rw [if_neg e]
    have e : m = n := by omega
    subst e
    exact q p hp u
end
end L2

set_option Elab.async false
set_option linter.all false
set_option maxRecDepth 100000
namespace L2
open PySem PySem.Spec PyProof.Rows PySem.W
section
variable {prog : Program} {w : World} {A : Around} {E : Value → Shared → Prop} {s : Shared}
def Askable (prog : Program) (w : World) (A : Around) (key : Nat → List Nat) (vs : List Value) (s : Shared) : Prop :=
  wpAny (model prog w) A (keyKind' vs.toArray) (fun κ s2 => s2 = s ∧ Ky vs.length key (kas_ask prog w A κ vs) s) (fun _ _ => False) s
def inOrder (p : Array Nat) (vs : List Value) : Array Value := (p.toList.map fun i => vs.getD i Value.none).toArray
theorem inOrder_range (vs : List Value) : inOrder (List.range vs.length).toArray vs = vs.toArray := by
  unfold inOrder
  congr 1
  refine List.ext_getElem (by simp) fun i h1 h2 => ?_
  simp [List.getD, List.getElem?_eq_getElem h2]
theorem lsort_any {a : Addr} {vs : List Value} {n : Nat} {key : Nat → List Nat} {P : Fin → Shared → Prop} (ho : s.heap.get? a = some (seqObj "list" vs.toArray n)) (few : vs.length < 64)
    (hk : 2 ≤ vs.length → ∀ h', (∀ b o, b ≠ a → s.heap.get? b = some o → h'.get? b = some o) → Askable prog w A key vs { s with heap := h' })
    (q : ∀ p, Pm vs.length p → Up key p vs.length → P (.done (.ret .none)) { s with heap := sortedHeap s.heap a vs (inOrder p vs) }) : wpAny (model prog w) A (Builtin.«list.sort» ⟨[.ref a], []⟩) P E s := by
  rw [list_sort_plain]
  have lt : a < s.heap.objs.size := Heap.lt_size ho
  refine wpAny_bind (listItems_at ho rfl (wpAny_bind (listUpdate_at ho rfl ?_)))
  obtain ⟨c, hc⟩ : ∃ c, (s.heap.update a (Obj.mapSeq fun _ => #[])).get? a = some (seqObj "list" #[] c) := ⟨_, get?_update_seq ho (fun _ => #[])⟩
  refine wpAny_bind (seqEpoch_at hc rfl (wpAny_bind (wpAny_newTuple (wpAny_bind (wpAny_newList (wpAny_holding ?_))))))
  have n1 : a ≠ (s.heap.update a (Obj.mapSeq fun _ => #[])).objs.size := by rw [Heap.size_update]; exact Nat.ne_of_lt lt
  have n2 : a ≠ ((s.heap.update a (Obj.mapSeq fun _ => #[])).push (seqObj "tuple" vs.toArray 0)).objs.size := by rw [size_push', Heap.size_update]; exact Nat.ne_of_lt (Nat.lt_succ_of_lt lt)
  have hd : (((s.heap.update a (Obj.mapSeq fun _ => #[])).push (seqObj "tuple" vs.toArray 0)).push (seqObj "list" #[] 0)).get? a = some (seqObj "list" #[] c) := by rw [Heap.get?_push_ne _ _ _ n2, Heap.get?_push_ne _ _ _ n1]; exact hc
  have old : ∀ b o, b ≠ a → s.heap.get? b = some o → (((s.heap.update a (Obj.mapSeq fun _ => #[])).push (seqObj "tuple" vs.toArray 0)).push (seqObj "list" #[] 0)).get? b = some o := fun b o hb e =>
    Heap.get?_push_of_some _ (Heap.get?_push_of_some _ (by rw [Heap.get?_update_ne _ _ _ _ hb]; exact e))
  show wpAny (model prog w) A _ P E { s with heap := ((s.heap.update a (Obj.mapSeq fun _ => #[])).push (seqObj "tuple" vs.toArray 0)).push (seqObj "list" #[] 0) }
  have q2 : ∀ p, Pm vs.length p → Up key p vs.length → P (.done (.ret .none)) { s with heap := (((s.heap.update a (Obj.mapSeq fun _ => #[])).push (seqObj "tuple" vs.toArray 0)).push (seqObj "list" #[] 0)).update a (Obj.mapSeq fun _ => inOrder p vs) } := q
  have hk2 := fun h2 => hk h2 _ old
  generalize ((s.heap.update a (Obj.mapSeq fun _ => #[])).push (seqObj "tuple" vs.toArray 0)).push (seqObj "list" #[] 0) = G at hd q2 hk2 ⊢
  dsimp only
  have sz : vs.toArray.size = vs.length := List.size_toArray
  by_cases two : vs.toArray.size < 2
  · rw [if_pos two, if_pos two]
    refine wpAny_bind (wpAny_pure ?_)
    rw [StateT.run_pure]
    refine wpAny_bind (wpAny_pure ?_)
    dsimp only
    have e0 : (arrOf (SortSt.mk' general' (vs.toArray.zip vs.toArray) #[] 7 none)).map (·.2) = inOrder (List.range vs.length).toArray vs := by
      rw [inOrder_range]
      show (vs.toArray.zip vs.toArray).map (·.2) = _
      rw [Array.map_snd_zip] <;> simp
    refine wpAny_bind (seqEpoch_at hd rfl (wpAny_bind (listUpdate_at hd rfl ?_ (hsz2 := by rw [e0, inOrder_range, sz, sizeLine_eq]; omega))))
    simp only [bne_self_eq_false, Bool.false_eq_true, if_false]
    rw [e0]
    exact wpAny_pure (q2 _ ⟨by simp⟩ fun i j h1 h2 => by omega)
  · rw [if_neg two, if_neg two]
    refine wpAny_bind (wpAny_mono (hk2 (by omega)) (fun κ s2 ⟨e, ky⟩ => ?_) fun _ _ f => f.elim)
    subst e
    refine wpAny_bind (wpAny_mono (kat_run (ks := vs) (vs := vs) (Q := fun st' s3 => s3 = { s with heap := G } ∧ failedOf st' = none ∧ ∃ p, Pm vs.length p ∧ Up key p vs.length ∧ (arrOf st').map (·.2) = inOrder p vs) (G := fun p s3 => s3 = { s with heap := G } ∧ Pm vs.length p ∧ Up key p vs.length) rfl (by omega) few
      (fun p st' s3 _ ar nf ⟨e, hp, u⟩ => ⟨e, nf, p, hp, u, kat_snds rfl ar⟩) (kas_all ky (by omega) fun p hp u => ⟨rfl, hp, u⟩)) (fun r s3 ⟨e, nf, p, hp, u, ar⟩ => ?_) fun _ _ f => f)
    subst e
    obtain ⟨⟨⟩, st'⟩ := r
    dsimp only at nf ar ⊢
    have small : (inOrder p vs).size ≤ sizeLine := by
      unfold inOrder
      rw [List.size_toArray, List.length_map, Array.length_toList, hp.size, sizeLine_eq]
      omega
    refine wpAny_bind (seqEpoch_at hd rfl (wpAny_bind (listUpdate_at hd rfl ?_ (hsz2 := by rw [ar]; exact Nat.le_succ_of_le small))))
    rw [nf, ar]
    simp only [bne_self_eq_false, Bool.false_eq_true, if_false]
    exact wpAny_pure (q2 p hp u)
theorem sorted_any {l : Addr} {vs : List Value} {key : Nat → List Nat} {Q : Value → Shared → Prop} (hl : s.heap.IsList l vs.toArray) (few : vs.length < 64)
    (hk : 2 ≤ vs.length → ∀ h', (∀ b o, s.heap.get? b = some o → h'.get? b = some o) → Askable prog w A.in1.in1 key vs { s with heap := h' })
    (q : ∀ p, Pm vs.length p → Up key p vs.length → Q (.ref (s.heap.objs.size + 1)) { s with heap := sortedAll s.heap vs (inOrder p vs) }) : wpAny (model prog w) A (call (.builtin "sorted") [.ref l]) Q E s := by
  refine Calls.call_function_entry kind_sorted plain_sorted entry_sorted (args_sorted1 _) ?_
  unfold Builtin.«sorted»
  refine wpAny_bind (m := checkCount "sorted" 1 1 _) (wpAny_pure (wpAny_bind (collect_list hl (wpAny_bind (wpAny_newList ?_ (by rw [sizeLine_eq]; omega))) (by rw [sizeLine_eq]; omega))))
  have z1 : ((s.heap.push (seqObj "list" #[] 0)).update s.heap.objs.size (Obj.mapSeq (· ++ vs.toArray))).objs.size = s.heap.objs.size + 1 := by rw [Heap.size_update, size_push']
  have atL : (((s.heap.push (seqObj "list" #[] 0)).update s.heap.objs.size (Obj.mapSeq (· ++ vs.toArray))).push (seqObj "list" vs.toArray 0)).get? (s.heap.objs.size + 1) = some (seqObj "list" vs.toArray 0) := z1 ▸ Heap.get?_push_size _ rfl
  have keep : ∀ b o, s.heap.get? b = some o → (((s.heap.push (seqObj "list" #[] 0)).update s.heap.objs.size (Obj.mapSeq (· ++ vs.toArray))).push (seqObj "list" vs.toArray 0)).get? b = some o := fun b o e =>
    Heap.get?_push_of_some _ (by rw [Heap.get?_update_ne _ _ _ _ (Nat.ne_of_lt (Heap.lt_size e))]; exact Heap.get?_push_of_some _ e)
  show wpAny _ _ _ _ _ { s with heap := ((s.heap.push (seqObj "list" #[] 0)).update s.heap.objs.size (Obj.mapSeq (· ++ vs.toArray))).push (seqObj "list" vs.toArray 0) }
  rw [z1]
  refine wpAny_bind (wpAny_holding (wpAny_call_entry slot_list_sort ⟨_, atL, rfl⟩ entry_list_sort (lsort_any (key := key) atL few (fun h2 h' old => hk h2 h' fun b o e => old b o (Nat.ne_of_lt (Nat.lt_succ_of_lt (Heap.lt_size e))) (keep b o e)) fun p hp u => ⟨_, rfl, ?_⟩) (args_list_sort _)))
  exact wpAny_pure ⟨_, rfl, q p hp u⟩
end
end L2

set_option Elab.async false
set_option linter.all false
set_option maxRecDepth 100000
namespace L2
open PySem PySem.Spec PyProof.Rows PySem.W
abbrev Pr := Addr × Str × Int
def prV (t : Pr) : V := .ref t.1
def Lay (H : Hp) (ts : List Pr) : Prop := ∀ t ∈ ts, H t.1 = some (.tup [.str t.2.1, .int t.2.2])
theorem Lay.same {H H' : Hp} {ts : List Pr} (h : Lay H ts) (s : Same H H') : Lay H' ts := fun t m => s _ _ (h t m)
section
variable {X : Cx} {pins : List (Addr × Obj)} {σ : St} {H : Hp} {s : Shared}
theorem pair_obj (I : Inv X pins σ H s) {t : Pr} (h : H t.1 = some (.tup [.str t.2.1, .int t.2.2])) : ∃ o tk tk' n, s.heap.get? t.1 = some o ∧ o.cls = .type "tuple" ∧ o.data = .seq #[Value.str t.2.1 tk, Value.int t.2.2 tk'] n := by
  obtain ⟨_, its, r, o, e, c, n, d⟩ := (show ObjOk X.prog X.w H s.heap t.1 _ from I.hok _ _ h)
  match its, r with
  | [_, _], .cons ⟨tk, e1⟩ (.cons ⟨tk', e2⟩ .nil) =>
    subst e1 e2
    exact ⟨o, tk, tk', n, e, c, d⟩
def keyP (ts : List Pr) (i : Nat) : List Nat := (ts.getD i (0, Str.empty, 0)).2.1.cps.toList
theorem str_ext' {x y : Str} (h : x.cps.toList = y.cps.toList) : x = y := by
  cases x with | mk a => cases y with | mk b => cases a; cases b; simp_all
theorem getP {ts : List Pr} {vs : List Value} (r : Vals (ts.map prV) vs) {i : Nat} (hi : i < ts.length) : vs.getD i Value.none = .ref ts[i].1 := by
  obtain ⟨u, e, q⟩ := r.get (i := i) (x := .ref ts[i].1) (by rw [List.getElem?_map, List.getElem?_eq_getElem hi]; rfl)
  rw [List.getD, e]
  exact q
theorem keyP_at {ts : List Pr} {i : Nat} (hi : i < ts.length) : keyP ts i = ts[i].2.1.cps.toList := by unfold keyP; rw [List.getD, List.getElem?_eq_getElem hi]; rfl
theorem tups_of {h : Heap} : ∀ {ts : List Pr} {vs : List Value}, Vals (ts.map prV) vs → (∀ t ∈ ts, ∃ o tk tk' n, h.get? t.1 = some o ∧ o.cls = .type "tuple" ∧ o.data = .seq #[Value.str t.2.1 tk, Value.int t.2.2 tk'] n) →
    ∃ fs : List Value, KatTups h vs fs ∧ fs.length = ts.length ∧ ∀ f ∈ fs, ∃ z t, f = Value.str z t
  | [], _, .nil, _ => ⟨[], trivial, rfl, fun _ m => nomatch m⟩
  | t :: ts, v :: vs, .cons r q, k => by
    obtain ⟨fs, a, b, c⟩ := tups_of q fun t' m => k t' (List.mem_cons_of_mem _ m)
    obtain ⟨o, tk, tk', n, e1, e2, e3⟩ := k t List.mem_cons_self
    have r : v = .ref t.1 := r
    subst r
    refine ⟨Value.str t.2.1 tk :: fs, KatTups.cons e1 e2 e3 rfl a, by rw [List.length_cons, List.length_cons, b], fun f hf => ?_⟩
    rcases List.mem_cons.mp hf with z | z
    · exact ⟨_, _, z⟩
    · exact c f z
theorem ask_pairs {A : Around} {ts : List Pr} {vs : List Value} {h' : Heap} (r : Vals (ts.map prV) vs) (lay : ∀ t ∈ ts, ∃ o tk tk' n, h'.get? t.1 = some o ∧ o.cls = .type "tuple" ∧ o.data = .seq #[Value.str t.2.1 tk, Value.int t.2.2 tk'] n)
    (nd : (ts.map (·.2.1)).Nodup) (two : 2 ≤ vs.length) : Askable X.prog X.w A (keyP ts) vs { s with heap := h' } := by
  have el := r.length
  rw [List.length_map] at el
  obtain ⟨fs, k1, k2, k3⟩ := tups_of r lay
  refine kat_kind (s := { s with heap := h' }) (T := .type "str") k1 (by omega) (fun v m => ?_) (by decide) ⟨rfl, ⟨fun i j hi hj ne e => ?_, fun i j C hi hj hc => ?_⟩⟩
  · obtain ⟨z, t, rfl⟩ := k3 v m
    exact Looks.of_pure rfl
  · rw [keyP_at (by omega), keyP_at (by omega)] at e
    have e' := str_ext' e
    have hi' : i < (ts.map (·.2.1)).length := by rw [List.length_map]; omega
    have hj' : j < (ts.map (·.2.1)).length := by rw [List.length_map]; omega
    exact ne ((List.getElem_inj (h₀ := hi') (h₁ := hj') nd).mp (by simpa using e'))
  · have hi2 : i < ts.length := by omega
    have hj2 : j < ts.length := by omega
    show wpAny _ A (keyLt' (tuples' true) (vs.getD i Value.none) (vs.getD j Value.none)) C _ _
    rw [getP r hi2, getP r hj2]
    obtain ⟨o1, a1, b1, n1, x1, x2, x3⟩ := lay ts[i] (List.getElem_mem hi2)
    obtain ⟨o2, a2, b2, n2, y1, y2, y3⟩ := lay ts[j] (List.getElem_mem hj2)
    refine kat_lt (s := { s with heap := h' }) x1 x3 y1 y3 (kat_cons (eqBool_str ?_))
    rw [keyP_at hi2, keyP_at hj2] at hc
    by_cases e : ts[i].2.1 = ts[j].2.1
    · have hi' : i < (ts.map (·.2.1)).length := by rw [List.length_map]; omega
      have hj' : j < (ts.map (·.2.1)).length := by rw [List.length_map]; omega
      have ij : i = j := (List.getElem_inj (h₀ := hi') (h₁ := hj') nd).mp (by simpa using e)
      subst ij
      rw [beq_self_eq_true]
      refine kat_yes (kat_cons (wpAny_eqBool_int ?_))
      rw [beq_self_eq_true]
      refine kat_yes (kat_nil ?_)
      rw [decide_eq_false (List.lt_irrefl _)] at hc
      simpa using hc
    · rw [beq_eq_false_iff_ne.mpr e]
      exact kat_no (oneLt_str hc)
theorem call_sortedP : CallR X (.builtin "sorted") (fun xs H Q => ∃ (p : Addr) (ts : List Pr), xs = [.ref p] ∧ SqL X.K H p (ts.map prV) ∧ Lay H ts ∧ (ts.map (·.2.1)).Nodup ∧ ts.length < 64 ∧
    ∀ (l : Addr) (ts' : List Pr), H l = none → ts'.Perm ts → ts'.Pairwise (fun a b => leS a.2.1 b.2.1) → Q (.ref l) (upd H l (.lst (ts'.map prV)))) := by
  intro pins s σ H xs us Q I r h
  obtain ⟨p, ts, rfl, hq, lay, nd, hl, q⟩ := h
  obtain ⟨u, rfl, rx⟩ := vals1 r
  cases rx
  obtain ⟨its, rv, pl, hz⟩ := I.list hq
  have el := rv.length
  rw [List.length_map] at el
  have objs := fun t (m : t ∈ ts) => pair_obj I (lay t m)
  refine sorted_any (key := keyP ts) pl.isList (by omega) (fun two h' keep => ask_pairs rv (fun t m => ?_) nd two) fun pm hp up => ?_
  · obtain ⟨o, a, b, n, e1, e2, e3⟩ := objs t m
    exact ⟨o, a, b, n, keep _ _ e1, e2, e3⟩
  · obtain ⟨c, ho⟩ := sortedAll_at s.heap its (inOrder pm its)
    have fr : H (s.heap.objs.size + 1) = none := I.hok.fresh (Nat.le_succ _)
    have hp' := hp.pm
    rw [← el] at hp' up
    have inb : ∀ i ∈ pm.toList, i < ts.length := fun i m => List.mem_range.mp (hp'.mem_iff.mp m)
    have vv : ∀ l : List Nat, (∀ i ∈ l, i < ts.length) → Vals ((l.map fun i => ts.getD i (0, Str.empty, 0)).map prV) (l.map fun i => its.getD i Value.none) := fun l hl => by
      induction l with
      | nil => exact .nil
      | cons i l ih =>
        have hi := hl i List.mem_cons_self
        refine .cons ?_ (ih fun j m => hl j (List.mem_cons_of_mem _ m))
        dsimp only
        rw [getP rv hi, List.getD, List.getElem?_eq_getElem hi]
        rfl
    have perm : (pm.toList.map fun i => ts.getD i (0, Str.empty, 0)).Perm ts := by
      have := hp'.map fun i => ts.getD i (0, Str.empty, 0)
      refine this.trans (List.Perm.of_eq ?_)
      refine List.ext_getElem (by simp) fun i h1 h2 => ?_
      simp [List.getD, List.getElem?_eq_getElem h2]
    have sz : pm.size = ts.length := by have := hp'.length_eq; simpa using this
    refine ⟨.ref (s.heap.objs.size + 1), _, I.laid (t' := s.toks) (fun b o q => sortedAll_old q) (Nat.le_succ _) (show ObjOk X.prog X.w _ _ _ (.lst ((pm.toList.map fun i => ts.getD i (0, Str.empty, 0)).map prV)) from ⟨?_, (pm.toList.map fun i => its.getD i Value.none), c, vv _ inb, ho⟩), rfl, q _ _ fr perm ?_⟩
    · rw [List.length_map, List.length_map, Array.length_toList, sz, sizeLine_eq]; omega
    · rw [List.pairwise_map, List.pairwise_iff_getElem]
      intro i j h1 h2 hij
      have k1 : i < pm.size := by simpa using h1
      have k2 : j < pm.size := by simpa using h2
      have := up i j hij (by omega)
      rw [at0_eq, at0_eq, Array.getElem?_eq_getElem k1, Array.getElem?_eq_getElem k2] at this
      simp only [Option.getD_some, keyP] at this
      have t' : (ts.getD pm.toList[i] (0, Str.empty, 0)).2.1.cps.toList < (ts.getD pm.toList[j] (0, Str.empty, 0)).2.1.cps.toList := by simpa using this
      exact List.le_of_lt t'
end
end L2

set_option Elab.async false
set_option linter.all false
set_option maxRecDepth 100000
namespace L2
open PySem PySem.Spec PyProof.Rows
def byT (w : World) : Bool := w.params.followText "set-order"
def Ent (w : World) (e : Int × Value) : Prop := ∃ z tk, e = (hashStr w z, Value.str z tk)
def txtE (e : Int × Value) : Str := match e.2 with
  | .str z _ => z
  | _ => Str.empty
def SetS (w : World) (h : Heap) (a : Addr) (zs : List Str) : Prop := ∃ o es ep t, h.get? a = some o ∧ o.ExactSet ∧ o.data = .set es ep t ∧ zs = es.toList.map txtE ∧ (∀ e ∈ es.toList, Ent w e) ∧ zs.Nodup ∧ zs.length < 3000 ∧ t.fits es.size = true ∧ t.led = !byT w ∧ (zs ≠ [] → t.plain = false)
theorem SetS.at {w : World} {h h' : Heap} {a : Addr} {zs : List Str} (x : SetS w h a zs) (k : ∀ o, h.get? a = some o → h'.get? a = some o) : SetS w h' a zs := by
  obtain ⟨o, es, ep, t, e, r⟩ := x
  exact ⟨o, es, ep, t, k _ e, r⟩
theorem ent_elems {prog : Program} {w : World} {l : List (Int × Value)} (h : ∀ e ∈ l, Ent w e) : ElemsOf (mixKind prog w) l := fun e m => by
  obtain ⟨z, tk, rfl⟩ := h e m
  exact ⟨⟨Sum.inr z, mixKind_str prog w z tk, rfl⟩, rfl⟩
theorem ent_is {w : World} {e : Int × Value} {z : Str} (h : Ent w e) : keyIs (Sum.inr z) e.2 = true ↔ txtE e = z := by
  obtain ⟨y, tk, rfl⟩ := h
  show Value.isStrOf z (.str y tk) = true ↔ y = z
  constructor
  · intro q
    obtain ⟨t, e⟩ := Value.isStrOf_shape q
    injection e
  · rintro rfl; exact keyIs_str y tk
theorem or_led (t : SetTable) (n : Nat) : (t.orStandIn n).led = t.led := by unfold SetTable.orStandIn SetTable.standIn; split <;> rfl
theorem or_plain {t : SetTable} {n : Nat} (h : t.plain = false) : (t.orStandIn n).plain = false := by unfold SetTable.orStandIn SetTable.standIn; split <;> first | exact h | rfl
theorem new_led (t : SetTable) (es : Array (Int × Value)) (h : Int) (x : Value) : (layNew t es h x).2.1.led = t.led := by
  unfold layNew
  split
  · exact or_led _ _
  · rfl
theorem new_plain {t : SetTable} {es : Array (Int × Value)} {h : Int} {x : Value} (hp : t.plain = false) : (layNew t es h x).2.1.plain = false := by
  unfold layNew
  split
  · exact or_plain hp
  · rfl
theorem relaid_led {t t' : SetTable} {hs : Array Int} {n : Nat} {o : Array Nat} (e : t.relaid hs n = some (t', o)) : t'.led = t.led ∧ t'.plain = t.plain := by
  unfold SetTable.relaid SetTable.laid at e
  cases q : SetTable.layClean (SetTable.sizeAbove n - 1) hs with
  | none => rw [q] at e; cases e
  | some x => rw [q] at e; cases e; exact ⟨rfl, rfl⟩
theorem all_led (t : SetTable) (es : Array (Int × Value)) (n : Nat) : (relayAll t es n).2.1.led = t.led := by
  unfold relayAll
  split
  · rename_i t' o e
    dsimp only
    split
    · exact (relaid_led e).1
    · rfl
  · rfl
theorem all_plain {t : SetTable} {es : Array (Int × Value)} {n : Nat} (hp : t.plain = false) : (relayAll t es n).2.1.plain = false := by
  unfold relayAll
  split
  · rename_i t' o e
    dsimp only
    split
    · exact (relaid_led e).2.trans hp
    · rfl
  · rfl
section
variable {prog : Program} {w : World} {A : Around} {E : Value → Shared → Prop} {s : Shared}
theorem put_set {a : Addr} {o : Obj} {es es' : Array (Int × Value)} {ep : Nat} {t t' : SetTable} {h : Heap} (ho : h.get? a = some o) (hd : o.data = .set es ep t) : (h.update a (Obj.putSet es' t')).get? a = some { o with data := .set es' (ep + 1) t' } := by
  have e := Heap.get?_update_self (Obj.putSet es' t') ho (by rw [putSet_of es' t' hd]; rfl)
  rwa [putSet_of es' t' hd] at e
theorem add_str {a : Addr} {zs : List Str} {z : Str} {tk : Tok} {Q : Bool → Shared → Prop} (hS : SetS w s.heap a zs) (room : zs.length + 1 < 3000)
    (q : ∀ h' zs' b, Heap.SameBut a s.heap h' → SetS w h' a zs' → (if z ∈ zs then zs' = zs else zs'.Perm (zs ++ [z])) → Q b { s with heap := h' }) : wpAny (model prog w) A (setAddHashed a (.str z tk) (hashStr w z)) Q E s := by
  obtain ⟨o, es, ep, t, ho, hex, hd, rfl, hent, nd, few, hf, led, pl⟩ := id hS
  rw [List.length_map, Array.length_toList] at few room
  have sb : scanBound = 4096 := rfl
  have hel := ent_elems (prog := prog) hent
  unfold setAddHashed setAddHashedIn
  refine wpAny_holding (wpAny_bind (wpAny_setState_of ho hd hf ?_))
  dsimp only
  rw [byScan_of (knd := mixKind prog w) (x := Value.str z tk) rfl (by omega) hel]
  simp only [↓reduceIte]
  unfold setAddByScan
  refine wpAny_bind (wpAny_bind (wpAny_rule (wpAny_bind (wpAny_setScan_of (knd := mixKind prog w) (k := Sum.inr z) (mixKind_str prog w z tk) ho hd hf hel ?_))))
  cases fnd : List.findIdx? (fun e => (mixKind prog w).is (Sum.inr z) e.2) es.toList with
  | some j =>
    obtain ⟨hj, hp, _⟩ := List.findIdx?_eq_some_iff_getElem.mp fnd
    have mem : z ∈ es.toList.map txtE := List.mem_map.mpr ⟨_, List.getElem_mem hj, (ent_is (hent _ (List.getElem_mem hj))).mp hp⟩
    dsimp only
    exact wpAny_pure (wpAny_pure (q s.heap _ _ (Heap.SameBut.refl a s.heap) hS (by rw [if_pos mem])))
  | none =>
    have nmem : z ∉ es.toList.map txtE := fun m => by
      obtain ⟨e, me, rfl⟩ := List.mem_map.mp m
      have := List.findIdx?_eq_none_iff.mp fnd e me
      rw [show (mixKind prog w).is (Sum.inr (txtE e)) e.2 = true from (ent_is (hent e me)).mpr rfl] at this
      cases this
    have pm := layNew_perm t es (hashStr w z) (.str z tk)
    have hf1 := layNew_fits t es (hashStr w z) (.str z tk)
    have l1 := new_led t es (hashStr w z) (.str z tk)
    have p1 : t.plain = false → (layNew t es (hashStr w z) (.str z tk)).2.1.plain = false := new_plain
    dsimp only
    have ek : keyH w (Sum.inr z) = hashStr w z := rfl
    have ek2 : (mixKind prog w).hash (Sum.inr z) = hashStr w z := rfl
    try rw [ek2]
    generalize layNew t es (hashStr w z) (.str z tk) = L at pm hf1 l1 p1 ⊢
    obtain ⟨es1, t1, wd, gave⟩ := L
    dsimp only at pm hf1 l1 p1 ⊢
    rw [Array.toList_push] at pm
    have ent1 : ∀ e ∈ es1.toList, Ent w e := fun e m => by
      rcases List.mem_append.mp (pm.mem_iff.mp m) with y | y
      · exact hent e y
      · rw [List.mem_singleton.mp y]; exact ⟨z, tk, rfl⟩
    have pz : (es1.toList.map txtE).Perm (es.toList.map txtE ++ [z]) := by
      have := pm.map txtE
      rwa [List.map_append] at this
    have sz1 : es1.size = es.size + 1 := by rw [← Array.length_toList, pm.length_eq, List.length_append, Array.length_toList]; rfl
    have nd1 : (es1.toList.map txtE).Nodup := pz.nodup_iff.mpr (List.nodup_append.mpr ⟨nd, List.nodup_cons.mpr ⟨by simp, List.nodup_nil⟩, fun x hx y hy e => by rw [List.mem_singleton.mp hy] at e; exact nmem (e ▸ hx)⟩)
    have fin : ∀ (h' : Heap) (o' : Obj) (es2 : Array (Int × Value)) (ep2 : Nat) (t2 : SetTable), Heap.SameBut a s.heap h' → h'.get? a = some o' → o'.ExactSet → o'.data = .set es2 ep2 t2 → es2.toList.Perm es1.toList → t2.fits es2.size = true → t2.led = t.led → t2.plain = false → ∀ b, Q b { s with heap := h' } := fun h' o' es2 ep2 t2 sm e1 e2 e3 pm2 f2 l2 p2 b => by
      have pz2 := pm2.map txtE
      refine q h' (es2.toList.map txtE) b sm ⟨o', es2, ep2, t2, e1, e2, e3, rfl, fun e m => ent1 e (pm2.mem_iff.mp m), pz2.nodup_iff.mpr nd1, ?_, f2, l2.trans led, fun _ => p2⟩ (by rw [if_neg nmem]; exact pz2.trans pz)
      rw [List.length_map, pm2.length_eq, Array.length_toList, sz1]
      omega
    have quiet : ∀ (b : Bool) {s₁ : Shared} {Q' : Unit → Shared → Prop}, Q' () s₁ → wpAny (model prog w) A (match b with | true => rule "set.scan.the-table-gave-way" | false => pure ()) Q' E s₁ := fun b s₁ Q' h => by
      cases b
      · exact wpAny_pure h
      · exact wpAny_rule h
    refine wpAny_bind (quiet gave ?_)
    have key : ∀ t2 : SetTable, t2.fits es1.size = true → t2.led = t.led → t2.plain = false → ∀ (K : Option Bool → Sem Bool), (∀ h' b, (∀ b, Q b { s with heap := h' }) → wpAny (model prog w) A (K (some b)) Q E { s with heap := h' }) →
        wpAny (model prog w) A (do
          storeSet a es1 t2
          if (!wd && t2.tooFull) = true then do
              (match (relayAll t2 es1 (SetTable.grown es1.size)).2.2 with | true => rule "set.scan.the-table-gave-way" | false => pure ())
              storeSet a (relayAll t2 es1 (SetTable.grown es1.size)).1 (relayAll t2 es1 (SetTable.grown es1.size)).2.1
              pure (some true)
            else pure (some true)) (fun r s' => wpAny (model prog w) A (K r) Q E s') E s := by
      intro t2 f2 l2 p2 K hK
      refine wpAny_bind (wpAny_storeSet_of ho hd ?_ (by rw [sizeLine_eq]; omega))
      have g1 := put_set (es' := es1) (t' := t2) ho hd
      have s1 := Heap.SameBut.update s.heap a (Obj.putSet es1 t2)
      split
      · have pm2 := relayAll_perm t2 es1 (SetTable.grown es1.size)
        have f3 := relayAll_fits t2 es1 (SetTable.grown es1.size)
        have l3 := all_led t2 es1 (SetTable.grown es1.size)
        have p3 := all_plain (es := es1) (n := SetTable.grown es1.size) p2
        generalize relayAll t2 es1 (SetTable.grown es1.size) = R at pm2 f3 l3 p3 ⊢
        obtain ⟨es2, t3, g2⟩ := R
        dsimp only at pm2 f3 l3 p3 ⊢
        have sz2 : es2.size = es1.size := by rw [← Array.length_toList, pm2.length_eq, Array.length_toList]
        refine wpAny_bind (quiet g2 (wpAny_bind (wpAny_storeSet_of (s := { s with heap := s.heap.update a (Obj.putSet es1 t2) }) g1 rfl ?_ (by rw [sizeLine_eq]; omega))))
        have g3 := put_set (es' := es2) (t' := t3) g1 rfl
        exact wpAny_pure (hK _ true (fin _ _ es2 _ t3 (s1.trans (Heap.SameBut.update _ a _)) g3 hex rfl pm2 f3 (l3.trans l2) p3))
      · exact wpAny_pure (hK _ true (fin _ _ es1 _ t2 s1 g1 hex rfl (List.Perm.refl _) f2 l2 p2))
    by_cases hp : t1.plain = true
    · rw [if_pos hp]
      refine wpAny_bind ?_
      rw [hashByValue_scannable 8 (x := Value.str z tk) rfl]
      refine wpAny_pure ?_
      exact key { t1 with plain := false } (SetTable.fits_plain_off hf1) l1 rfl (fun r => match r with | some added => pure added | none => setAddHashedIn a (.str z tk) (hashStr w z) 99999) fun h' b hq => wpAny_pure (hq b)
    · have hp : t1.plain = false := by simpa using hp
      rw [if_neg (by rw [hp]; decide)]
      refine wpAny_bind (wpAny_pure ?_)
      exact key t1 hf1 l1 hp (fun r => match r with | some added => pure added | none => setAddHashedIn a (.str z tk) (hashStr w z) 99999) fun h' b hq => wpAny_pure (hq b)
end
end L2

set_option Elab.async false
set_option linter.all false
set_option maxRecDepth 100000
set_option maxHeartbeats 4000000
namespace L2
open PySem PySem.Spec PyProof.Rows
section
variable {prog : Program} {w : World} {A : Around} {I : Addr} {fp wr : List Addr} {G : Array GenState → Array GenState → Prop} {n : Nat} {P : Nat → Value → Prop} {St : Nat → Shared → Prop}
theorem fill_strs {R : Result → Shared → Prop} (W : WalksS prog w A.in1 I fp wr G n P St) (S : Addr) (hS : S ∉ fp) (val : Nat → Str) (hv : ∀ i v, P i v → ∃ t, v = Value.str (val i) t) (few : n + 1 < 3000) :
    ∀ (k i : Nat) (s : Shared) (zs : List Str), n - i = k → i ≤ n → St i s → SetS w s.heap S zs → (∀ z, z ∈ zs ↔ ∃ j, j < i ∧ val j = z) → zs.length ≤ i →
      (∀ s' zs', Moved (S :: wr) G s s' → SetS w s'.heap S zs' → (∀ z, z ∈ zs' ↔ ∃ j, j < n ∧ val j = z) → R (.ok (.ret .none)) s') → codeAny (model prog w) A (.builtin "set.update.loop" ⟨[.ref S, .ref I], []⟩) R s := by
  have nw : S ∉ wr := fun h => hS (W.sub _ h)
  have sub : ∀ b ∈ wr, b ∈ S :: wr := fun b h => List.mem_cons_of_mem _ h
  intro k
  induction k with
  | zero =>
    intro i s zs hk hi st x mem _ q
    have e : i = n := by omega
    subst e
    refine codeAny_builtin F.entry_set_update_loop ?_
    rw [Around.under_plainId F.plain_set_update_loop _]
    show wpAny _ A.in1 (pyNext (.ref I) >>= _) _ _ s
    refine wpAny_bind (W.done s _ _ st fun s' m => ?_)
    exact wpAny_pure (q s' zs (m.mono sub) (x.at fun o e => m.heap S o nw e) mem)
  | succ k ih =>
    intro i s zs hk hi st x mem len q
    refine codeAny_builtin F.entry_set_update_loop ?_
    rw [Around.under_plainId F.plain_set_update_loop _]
    show wpAny _ A.in1 (pyNext (.ref I) >>= _) _ _ s
    refine wpAny_bind (W.item i s _ _ (by omega) st fun v s' hP st' m => ?_)
    obtain ⟨t, rfl⟩ := hv i v hP
    have x' := x.at fun o e => m.heap S o nw e
    show wpAny _ A.in1 (holding [Value.str (val i) t] (setAdd S (.str (val i) t)) >>= _) _ _ s'
    refine wpAny_bind (wpAny_holding ?_)
    unfold setAdd
    refine wpAny_holding (wpAny_bind ((mixKind prog w).pyHash (k := Sum.inr (val i)) (mixKind_str _ _ _ _) ?_))
    refine add_str (s := { s' with toks := s'.toks + 1 }) x' (by omega) fun h' zs' b sb x2 hz => ?_
    have mem2 : ∀ z, z ∈ zs' ↔ ∃ j, j < i + 1 ∧ val j = z := fun z => by
      have e : z ∈ zs' ↔ z ∈ zs ∨ z = val i := by
        by_cases y : val i ∈ zs
        · rw [if_pos y] at hz
          rw [hz]
          exact ⟨.inl, fun h => h.elim id fun e => e ▸ y⟩
        · rw [if_neg y] at hz
          rw [hz.mem_iff, List.mem_append, List.mem_singleton]
      rw [e, mem]
      constructor
      · rintro (⟨j, h1, h2⟩ | h)
        · exact ⟨j, by omega, h2⟩
        · exact ⟨i, by omega, h.symm⟩
      · rintro ⟨j, h1, h2⟩
        by_cases h : j < i
        · exact .inl ⟨j, h, h2⟩
        · have : j = i := by omega
          subst this
          exact .inr h2.symm
    have len2 : zs'.length ≤ i + 1 := by
      by_cases y : val i ∈ zs
      · rw [if_pos y] at hz
        rw [hz]; omega
      · rw [if_neg y] at hz
        rw [hz.length_eq, List.length_append, List.length_singleton]; omega
    refine wpAny_pure ⟨plainId_quiet F.plain_set_update_loop _, ih (i + 1) _ zs' (by omega) (by omega) (W.frame _ s' _ _ st' (Nat.le_succ _) fun b hb o e => ?_) x2 mem2 len2 fun s'' zs'' m2 x3 mem3 => ?_⟩
    · exact (sb.2 b fun h => hS (h ▸ hb)).trans e
    · refine q s'' zs'' (Moved.trans W.gtrans ((m.mono sub).then_heap (Nat.le_succ _) fun b o hb e => ?_) m2) x3 mem3
      exact (sb.2 b fun h => hb (h ▸ List.mem_cons_self)).trans e
end
section
variable {prog : Program} {w : World} {A : Around} {E : Value → Shared → Prop} {s : Shared}
theorem new_set1 (a : Value) {Q₁ : Value → Shared → Prop} (h : Q₁ (.ref s.heap.objs.size) { s with heap := s.heap.push { cls := .type "set", dict := none, data := .set #[] 0 (.fresh 0 0 (!byT w)) } }) :
    codeAny (model prog w) A (.call (.builtin "set.__new__") ⟨[.type "set", a], []⟩) (wants Q₁ E) s := by
  refine codeAny_of_tree ?_
  show wpAny _ A.in1 (do checkBuiltinCall "set.__new__" ⟨[.type "set", a], []⟩; again (.builtin "set.__new__" ⟨[.type "set", a], []⟩)) _ _ s
  refine wpAny_bind (wpAny_of_eq (F.newCall_set_1 a) (wpAny_pure ⟨plainId_quiet F.plain_set_new _, codeAny_builtin F.entry_set_new ?_⟩))
  rw [Around.under_plainId F.plain_set_new _]
  unfold Builtin.«set.__new__» Builtin.Frozenset.newClass
  have sub := sub_set_self
  obtain ⟨hp, g, d, tk, os⟩ := s
  dsimp only
  wp_walk
  refine wpAny_askSetting (wpAny_pure ?_)
  dsimp only
  simp only [newObj]
  exact wpAny_bind (wpAny_alloc (wpAny_pure (wpAny_pure h)))
theorem setS_fresh {h : Heap} {a : Addr} (e : h.get? a = some { cls := .type "set", dict := none, data := .set #[] 0 (.fresh 0 0 (!byT w)) }) : SetS w h a [] :=
  ⟨_, #[], 0, _, e, ⟨rfl, rfl, rfl⟩, rfl, rfl, fun e m => by simp at m, List.nodup_nil, by decide, rfl, rfl, fun z => (z rfl).elim⟩
theorem set_of_strs {l : Addr} {items : Array Value} {zs : List Str} {Q : Value → Shared → Prop} (hh : A.handled = none) (hl : s.heap.IsList l items) (hi : StrsAre items.toList zs) (few : items.size + 1 < 3000)
    (q : ∀ (h' : Heap) (tk : Nat) (zs' : List Str), SetS w h' s.heap.objs.size zs' → (∀ z, z ∈ zs' ↔ z ∈ zs) → (∀ b o, b < s.heap.objs.size → s.heap.get? b = some o → h'.get? b = some o) → Q (.ref s.heap.objs.size) { s with heap := h', toks := tk }) :
    wpAny (model prog w) A (call (.type "set") [.ref l]) Q E s := by
  obtain ⟨c, tl, hmro⟩ := F.called_set.mro
  have made := F.called_set.made
  have sub := F.called_set.sub
  refine wpAny_call (codeAny_of_tree ?_)
  show wpAny _ _ (callAny (.type "set") _) _ _ _
  refine wpAny_pure ⟨Code.quiet_builtin _ (by decide +kernel), codeAny_builtin F.entry_type_call ?_⟩
  rw [Around.under_plain (weight_type_call_type "set" [.ref l] []) rfl]
  have c1 := F.called_set.notType
  have c2 := F.called_set.canCreate
  have c3 := F.typeCall_set_1 (.ref l)
  repeat (any_goals (first | assumption | wp_step))
  refine codeAny_mono (new_set1 (.ref l) (E := E) (Q₁ := fun obj s₁ => obj = .ref s.heap.objs.size ∧ s₁ = { s with heap := s.heap.push { cls := .type "set", dict := none, data := .set #[] 0 (.fresh 0 0 (!byT w)) } }) ⟨rfl, rfl⟩) fun r s₁ hr => ?_
  cases r with
  | error e => exact hr
  | ok fl =>
    cases fl with
    | ret obj =>
      obtain ⟨rfl, rfl⟩ := hr
      have atS : (s.heap.push { cls := .type "set", dict := none, data := .set #[] 0 (.fresh 0 0 (!byT w)) }).get? s.heap.objs.size = some { cls := .type "set", dict := none, data := .set #[] 0 (.fresh 0 0 (!byT w)) } := Heap.get?_push_size _ rfl
      have ty : Shared.TypeIs { s with heap := s.heap.push { cls := .type "set", dict := none, data := .set #[] 0 (.fresh 0 0 (!byT w)) } } (.ref s.heap.objs.size) "set" := ⟨_, atS, rfl⟩
      have i1 := F.called_set.init.lookup
      have i2 := F.called_set.init.bind (.ref s.heap.objs.size)
      repeat (any_goals (first | assumption | wp_step))
      refine codeAny_mono (codeAny_call_builtin (R := wants (fun r s₂ => r = .none ∧ ∃ h' tk zs', s₂ = { s with heap := h', toks := tk } ∧ SetS w h' s.heap.objs.size zs' ∧ (∀ z, z ∈ zs' ↔ z ∈ zs) ∧
          (∀ b o, b < s.heap.objs.size → s.heap.get? b = some o → h'.get? b = some o)) E) F.called_set.init.plain F.entry_set_init (check_set_init_1 ty ?_)) fun r₂ s₂ hr₂ => ?_
      · obtain ⟨⟨ocls, odict, odata, oslots⟩, e1, e2, nl, e3⟩ := hl
        simp only at e2 e3
        subst e2 e3
        have e1' : (s.heap.push { cls := .type "set", dict := none, data := .set #[] 0 (.fresh 0 0 (!byT w)) }).get? l = some { cls := .type "list", dict := odict, data := .seq items nl, slots := oslots } := Heap.get?_push_of_some _ e1
        have s1 := F.sub_list_set
        have s2 := F.sub_list_frozenset
        have s3 : (Value.type "list" == Value.type "dict") = false := by decide
        have l1 : (s.heap.push { cls := .type "set", dict := none, data := .set #[] 0 (.fresh 0 0 (!byT w)) }).IsList l items := ⟨_, e1', rfl, nl, rfl⟩
        unfold Builtin.«set.__init__» noKeywords Builtin.Frozenset.updateFrom
        generalize hPI : pyIter = PI
        wp_walk
        subst hPI
        refine wpAny_pyIter_list l1 (wpAny_bind (wpAny_runValue ?_))
        have lt : l < s.heap.objs.size := Heap.lt_size e1
        have ns : l ≠ (s.heap.push { cls := .type "set", dict := none, data := .set #[] 0 (.fresh 0 0 (!byT w)) }).objs.size := by rw [Heap.size_push]; exact Nat.ne_of_lt (Nat.lt_succ_of_lt lt)
        have nf : s.heap.objs.size ∉ [(s.heap.push { cls := .type "set", dict := none, data := .set #[] 0 (.fresh 0 0 (!byT w)) }).objs.size, l] := by
          rw [Heap.size_push]
          simp only [List.mem_cons, List.not_mem_nil, or_false, not_or]
          exact ⟨Nat.ne_of_lt (Nat.lt_succ_self _), Nat.ne_of_gt lt⟩
        have ze : zs.length = items.size := by have := (strs_vals hi).length; rw [List.length_map] at this; simpa using this
        have val : ∀ (i : Nat) (v : Value), items[i]? = some v → ∃ t, v = Value.str (zs.getD i Str.empty) t := fun i v hv => by
          have hv' : items.toList[i]? = some v := by rw [Array.getElem?_toList]; exact hv
          have il : i < zs.length := by rw [ze]; exact (Array.getElem?_eq_some_iff.mp hv).1
          obtain ⟨u, g1, g2⟩ := (strs_vals hi).get (i := i) (x := .str zs[i]) (by rw [List.getElem?_map, List.getElem?_eq_getElem il]; rfl)
          rw [hv'] at g1
          cases g1
          obtain ⟨t, rfl⟩ := g2
          exact ⟨t, by rw [List.getD, List.getElem?_eq_getElem il]; rfl⟩
        have nh : A.in1.in1.in1.handled = none := by simp [hh]
        refine fill_strs ((Walks.list nh _ l ns items).toS) s.heap.objs.size nf (fun i => zs.getD i Str.empty) val few (items.size - 0) 0 _ [] (by omega) (Nat.zero_le _) ⟨⟨_, Heap.get?_push_size _ rfl, rfl, rfl⟩, l1.push _⟩ (setS_fresh (Heap.get?_push_of_some _ atS)) (fun z => ⟨fun h => absurd h List.not_mem_nil, fun ⟨j, h, _⟩ => absurd h (Nat.not_lt_zero _)⟩) (Nat.le_refl _) ?_
        intro s' zs' m x mem
        obtain ⟨h', g', d', tk', os'⟩ := s'
        have eg : g' = s.gens := m.gens
        have ed : d' = s.drawn := m.drawn
        have eo : os' = s.os := m.os
        subst eg ed eo
        show wpAny _ _ _ _ _ _
        refine wpAny_pure ?_
        show wpAny _ _ (ret Value.none) _ _ _
        refine wpAny_pure ⟨rfl, h', tk', zs', rfl, x, fun z => ?_, fun b o hb e => ?_⟩
        · rw [mem]
          constructor
          · rintro ⟨j, h1, rfl⟩
            have jl : j < zs.length := by omega
            rw [List.getD, List.getElem?_eq_getElem jl]
            exact List.getElem_mem jl
          · intro h
            obtain ⟨j, jl, rfl⟩ := List.getElem_of_mem h
            exact ⟨j, by omega, by rw [List.getD, List.getElem?_eq_getElem jl]; rfl⟩
        · have b2 : b ≠ (s.heap.push { cls := .type "set", dict := none, data := .set #[] 0 (.fresh 0 0 (!byT w)) }).objs.size := by rw [Heap.size_push]; exact Nat.ne_of_lt (Nat.lt_succ_of_lt hb)
          exact m.heap b o (by simp only [List.mem_cons, List.not_mem_nil, or_false, not_or]; exact ⟨Nat.ne_of_lt hb, b2⟩) (Heap.get?_push_of_some _ (Heap.get?_push_of_some _ e))
      · cases r₂ with
        | error e => exact hr₂
        | ok fl₂ =>
          cases fl₂ with
          | ret r =>
            obtain ⟨rfl, h', tk, zs', rfl, x, mem, hk⟩ := hr₂
            repeat (any_goals (first | assumption | wp_step))
            exact q _ _ _ x mem hk
          | _ => exact hr₂.elim
    | _ => exact hr.elim
end
end L2

set_option Elab.async false
set_option linter.all false
set_option maxRecDepth 100000
namespace L2
open PySem PySem.Spec PyProof.Rows
def setO (w : World) (a : Addr) (zs : List Str) : HO := .ext fun h => ∃ zs', SetS w h a zs' ∧ ∀ z, z ∈ zs' ↔ z ∈ zs
theorem setO_ok {P : Program} {w : World} {H : Hp} {h : Heap} {a : Addr} {zs zs' : List Str} (x : SetS w h a zs') (m : ∀ z, z ∈ zs' ↔ z ∈ zs) : ObjOk P w H h a (setO w a zs) := by
  refine ⟨⟨zs', x, m⟩, ?_, fun h1 h2 ⟨y, x1, m1⟩ k => ⟨y, x1.at k, m1⟩⟩
  obtain ⟨o, _, _, _, e, _⟩ := x
  exact ⟨o, e⟩
theorem len_sub : ∀ {a b : List Str}, a.Nodup → (∀ z ∈ a, z ∈ b) → a.length ≤ b.length
  | [], b, _, _ => Nat.zero_le _
  | x :: a, b, nd, h => by
    have nd' := List.nodup_cons.mp nd
    have hx := h x List.mem_cons_self
    have ih := len_sub (b := b.erase x) nd'.2 fun z hz => (List.mem_erase_of_ne (fun e : z = x => nd'.1 (e ▸ hz))).mpr (h z (List.mem_cons_of_mem _ hz))
    rw [List.length_erase_of_mem hx] at ih
    have : 0 < b.length := List.length_pos_of_mem hx
    rw [List.length_cons]
    omega
theorem nub_len {a b : List Str} (nd : a.Nodup) (m : ∀ z, z ∈ a ↔ z ∈ b) : a.length = b.length ↔ b.Nodup := by
  constructor
  · intro e
    refine Classical.byContradiction fun h => ?_
    have key : ∀ b : List Str, ¬ b.Nodup → ∃ c : List Str, c.length < b.length ∧ ∀ z, z ∈ c ↔ z ∈ b := fun b => by
      induction b with
      | nil => exact fun h => (h List.nodup_nil).elim
      | cons x b ih =>
        intro h
        by_cases hx : x ∈ b
        · exact ⟨b, by simp, fun z => ⟨List.mem_cons_of_mem _, fun hz => (List.mem_cons.mp hz).elim (fun e => e ▸ hx) id⟩⟩
        · obtain ⟨c, h1, h2⟩ := ih fun q => h (List.nodup_cons.mpr ⟨hx, q⟩)
          refine ⟨x :: c, by simpa using h1, fun z => ?_⟩
          rw [List.mem_cons, List.mem_cons, h2]
    obtain ⟨c, h1, h2⟩ := key b h
    have := len_sub nd fun z hz => (h2 z).mpr ((m z).mp hz)
    omega
  · intro hb
    exact ((List.perm_ext_iff_of_nodup nd hb).mpr m).length_eq
section
variable {X : Cx}
theorem call_setL {w : World} (hw : X.w = w) (hc : X.calm = true) : CallR X (.type "set") (fun xs H Q => ∃ (p : Addr) (zs : List Str), xs = [.ref p] ∧ SqL X.K H p (zs.map V.str) ∧ zs.length < 2000 ∧ ∀ l, H l = none → Q (.ref l) (upd H l (setO w l zs))) := by
  subst hw
  intro pins s σ H xs us Q I r h
  obtain ⟨p, zs, rfl, hq, few, q⟩ := h
  obtain ⟨u, rfl, rx⟩ := vals1 r
  cases rx
  obtain ⟨its, rv, pl, hz⟩ := I.list hq
  have e := rv.length
  rw [List.length_map] at e
  refine set_of_strs (items := its.toArray) (zs := zs) (I.ok.hd hc) pl.isList (by simpa using vals_strs rv) (by rw [List.size_toArray]; omega) fun h' tk zs' x m k => ?_
  exact ⟨.ref s.heap.objs.size, _, I.laid (t' := tk) (fun b o e => k b o (Heap.lt_size e) e) (Nat.le_refl _) (setO_ok x m), rfl, q _ I.fresh⟩
theorem call_lenSet {w : World} (hw : X.w = w) : CallR X (.builtin "len") (fun xs H Q => ∃ (p : Addr) (zs : List Str), xs = [.ref p] ∧ H p = some (setO w p zs) ∧ ∀ n : Nat, (n = zs.length ↔ zs.Nodup) → Q (.int n) H) := by
  subst hw
  intro pins s σ H xs us Q I r h
  obtain ⟨p, zs, rfl, hp, q⟩ := h
  obtain ⟨u, rfl, rx⟩ := vals1 r
  cases rx
  obtain ⟨⟨zs', ⟨o, es, ep, t, e1, e2, e3, e4, e5, nd, few, hf, _⟩, m⟩, _⟩ := (show ObjOk X.prog X.w H s.heap p (setO X.w p zs) from I.hok p _ hp)
  have sz : zs'.length = es.size := by rw [e4, List.length_map, Array.length_toList]
  refine call_len_set e1 e2 e3 hf (by omega) ⟨.int es.size, H, I.tok _, ⟨_, rfl⟩, q _ ?_⟩
  rw [← sz]
  exact nub_len nd m
end
end L2

set_option Elab.async false
set_option linter.all false
set_option maxRecDepth 100000
set_option maxHeartbeats 4000000
namespace L2
open PySem PySem.Spec PyProof.Rows
section
variable {prog : Program} {w : World} {A : Around} {R : Result → Shared → Prop} {E : Value → Shared → Prop} {s : Shared}
theorem new_setK {Q : Value → Shared → Prop} (h : Q (.ref s.heap.objs.size) { s with heap := s.heap.push { cls := .type "set", dict := none, data := .set #[] 0 (.fresh 0 0 (!byT w)) } }) : wpAny (model prog w) A (newSet (.type "set")) Q E s := by
  unfold newSet setsByText
  refine wpAny_bind (wpAny_bind (wpAny_askSetting (wpAny_pure ?_)))
  dsimp only
  simp only [newObj]
  exact wpAny_bind (wpAny_alloc (wpAny_pure h))
theorem turn_set (elt tg iter : Expr) (ifs : List Expr) (sc : Scope) (pos : Pos) (it acc : Value) (env : Env) : compTurn (.SetComp elt [⟨tg, iter, ifs, 0⟩] sc pos) 0 it acc env = (do
    standAt iter.pos
    match ← pyNext it with
    | none => pure (.done .next)
    | some v =>
      letOwnedTupleGo tg it v
      assign tg env v
      let ok ← testsOf ifs env
      if ok then (do let v ← eval elt env; standAt elt.pos; let _ ← call (.builtin "set.add") [acc, v])
      again (.compLoop (.SetComp elt [⟨tg, iter, ifs, 0⟩] sc pos) 0 it acc env)) := by rfl
theorem scomp_turns {elt tg iter : Expr} {ifs : List Expr} {sc : Scope} {pos : Pos} {it acc : Value} {env : Env} (I : Nat → Shared → Prop)
    (turn : ∀ n s, I n s → wpAny (model prog w) A (pyNext it) (fun r s₁ => match r with
      | none => R (.ok .next) s₁
      | some v => wpAny (model prog w) A (letOwnedTupleGo tg it v) (fun _ s₂ => wpAny (model prog w) A (assign tg env v) (fun _ s₃ => wpAny (model prog w) A (testsOf ifs env) (fun ok s₄ =>
          if ok = true then wpAny (model prog w) A (eval elt env) (fun x s₅ => wpAny (model prog w) A (call (.builtin "set.add") [acc, x]) (fun _ s₆ => ∃ m, m < n ∧ I m s₆) (fun _ _ => False) s₅) (fun _ _ => False) s₄
          else ∃ m, m < n ∧ I m s₄) (fun _ _ => False) s₃) (fun _ _ => False) s₂) (fun _ _ => False) s₁) (fun _ _ => False) s)
    (n : Nat) (h : I n s) : codeAny (model prog w) A (.compLoop (.SetComp elt [⟨tg, iter, ifs, 0⟩] sc pos) 0 it acc env) R s := by
  refine codeAny_loop rfl I (fun n s hI => ?_) n h
  show wpAny _ A ((compTurn (.SetComp elt [⟨tg, iter, ifs, 0⟩] sc pos) 0 it acc env).onRaise _) _ _ s
  refine wpAny_noted ?_
  rw [turn_set]
  refine wpAny_bind (wpAny_standAt (wpAny_bind (calmed (turn n s hI) fun r s₁ h₁ => ?_)))
  match r, h₁ with
  | none, h₁ => exact wpAny_pure h₁
  | some v, h₁ =>
    refine wpAny_bind (calmed h₁ fun _ s₂ h₂ => wpAny_bind (calmed h₂ fun _ s₃ h₃ => wpAny_bind (calmed h₃ fun ok s₄ h₄ => ?_)))
    match ok, h₄ with
    | false, h₄ => exact wpAny_pure ⟨rfl, h₄⟩
    | true, h₄ => exact wpAny_bind (wpAny_bind (calmed h₄ fun x s₅ h₅ => wpAny_bind (wpAny_standAt (wpAny_bind (calmed h₅ fun _ s₆ h₆ => wpAny_pure (wpAny_pure ⟨rfl, h₆⟩))))))
theorem start_set {elt tg iter : Expr} {ifs : List Expr} {sc : Scope} {pos : Pos} {it acc : Value} {env : Env} (h0 : codeAny (model prog w) A (.compLoop (.SetComp elt [⟨tg, iter, ifs, 0⟩] sc pos) 0 it acc env) R s)
    (h : wpAny (model prog w) A (pyIter it) (fun it' s' => codeAny (model prog w) A (.compLoop (.SetComp elt [⟨tg, iter, ifs, 0⟩] sc pos) 0 it' acc env) R s') (notedBy (model prog w) A env fun x s' => R (.error x) s') s) :
    codeAny (model prog w) A (.compStart (.SetComp elt [⟨tg, iter, ifs, 0⟩] sc pos) 0 it acc env) R s := by
  refine codeAny_of_tree ?_
  show wpAny _ _ ((compStart (.SetComp elt [⟨tg, iter, ifs, 0⟩] sc pos) 0 it acc env).onRaise (fun x => do noteFrame x env; standAt theWindowsPlace)) _ _ s
  refine wpAny_notedAt ?_
  unfold compStart
  show wpAny _ _ (ask >>= _) _ _ s
  refine wpAny_bind (wpAny_askSetting (wpAny_ite ?_))
  split
  · first | exact wpAny_bind (wpAny_pure (wpAny_pure ⟨rfl, h0⟩)) | exact wpAny_pure ⟨rfl, h0⟩
  · first | exact wpAny_bind (wpAny_rule (wpAny_bind (wpAny_standAt (wpAny_bind (wpAny_mono h (fun it' s' h' => wpAny_pure ⟨rfl, h'⟩) fun _ _ x => x))))) | exact wpAny_rule (wpAny_bind (wpAny_standAt (wpAny_bind (wpAny_mono h (fun it' s' h' => wpAny_pure ⟨rfl, h'⟩) fun _ _ x => x))))
theorem set_add_call {a : Addr} {zs : List Str} {z : Str} {tk : Tok} {Q : Value → Shared → Prop} (ty : s.TypeIs (.ref a) "set") (hS : SetS w s.heap a zs) (room : zs.length + 1 < 3000)
    (q : ∀ h' zs' tk', Heap.SameBut a s.heap h' → SetS w h' a zs' → (if z ∈ zs then zs' = zs else zs'.Perm (zs ++ [z])) → Q .none { s with heap := h', toks := tk' }) : wpAny (model prog w) A (call (.builtin "set.add") [.ref a, .str z tk]) Q E s := by
  refine wpAny_call_entry F.slot_set_add ty F.entry_set_add ?_ (F.args_set_add_2 _ _)
  unfold Builtin.«set.add» Builtin.Frozenset.oneOther
  simp only [List.isEmpty_nil, bind_assoc]
  unfold Builtin.Frozenset.addrOf setAdd
  refine wpAny_bind (wpAny_pure ?_); try dsimp only
  refine wpAny_bind (wpAny_pure ?_); try dsimp only
  refine wpAny_bind (wpAny_holding (wpAny_bind ((mixKind prog w).pyHash (k := Sum.inr z) (mixKind_str _ _ _ _) ?_)))
  refine add_str (s := { s with toks := s.toks + 1 }) hS room fun h' zs' b sb x hz => ?_
  show wpAny _ _ (ret Value.none) _ _ _
  exact wpAny_pure ⟨_, rfl, q h' zs' _ sb x hz⟩
end
section
variable {X : Cx} {N' : List Str} {sc : Scope} {srcs : List (Option Nat)} {cl : List (Str × Addr)} {C : Addr} {fp : List Addr} {pins : List (Addr × Obj)} {s₂ : Shared} {H₂ : Hp} {σ : St}
theorem set_addS {s : Shared} {H : Hp} {D : Addr} {zs : List Str} {z : Str} {tk : Tok} {Q : Value → Shared → Prop} {E : Value → Shared → Prop} (I : Inv X pins σ H s) (hD : H D = some (setO X.w D zs)) (few : zs.length < 2000)
    (q : ∀ h' tk', Inv X pins σ (upd H D (setO X.w D (zs ++ [z]))) { s with heap := h', toks := tk' } → Q .none { s with heap := h', toks := tk' }) : wpAny (model X.prog X.w) X.A (call (.builtin "set.add") [.ref D, .str z tk]) Q E s := by
  obtain ⟨⟨zs', x, m⟩, _⟩ := (show ObjOk X.prog X.w H s.heap D (setO X.w D zs) from I.hok D _ hD)
  obtain ⟨o, es, ep, t, e1, e2, r⟩ := id x
  have ty : s.TypeIs (.ref D) "set" := ⟨o, e1, e2.1⟩
  have le : zs'.length ≤ zs.length := by
    obtain ⟨_, _, _, _, _, _, _, _, _, nd, _⟩ := id x
    exact len_sub nd fun z hz => (m z).mp hz
  refine set_add_call ty x (by omega) fun h' zs2 tk' sb x2 hz => ?_
  have m2 : ∀ y, y ∈ zs2 ↔ y ∈ zs ++ [z] := fun y => by
    rw [List.mem_append, List.mem_singleton, ← m]
    by_cases hm : z ∈ zs'
    · rw [if_pos hm] at hz
      rw [hz]
      exact ⟨.inl, fun h => h.elim id fun e => e ▸ hm⟩
    · rw [if_neg hm] at hz
      rw [hz.mem_iff, List.mem_append, List.mem_singleton]
  refine q h' tk' (I.write (t' := tk') (x := D) (e := D) (by rw [hD]; trivial) (.inl rfl) (fun b u hb e => (sb.2 b hb).trans e) ?_ (setO_ok x2 m2))
  obtain ⟨o2, _, _, _, g, _⟩ := x2
  exact ⟨o2, g⟩
theorem scomp_begin {D : Addr} {h₁ : Heap} {tk : Nat} {m : Str → Option Value} (S : CompSc sc X.env.scope N' X.N srcs) (I : Inv X pins σ H₂ s₂) (hcl : ∀ x c, cl.lookup x = some c → X.env.cells.lookup x = some c) (hcl2 : ∀ y ∈ sc.names, y.2 = .free → ∃ c, cl.lookup y.1 = some c)
    (hfp : ∀ b ∈ fp, FpOk X pins H₂ b) (hfo : ∀ b ∈ fp, ∃ o, s₂.heap.get? b = some o) (hD : D = s₂.heap.objs.size) (hC : C = s₂.heap.objs.size + 1) (hk : ∀ b o, (s₂.heap.push { cls := .type "set", dict := none, data := .set #[] 0 (.fresh 0 0 (!byT X.w)) }).get? b = some o → h₁.get? b = some o) (hns : h₁.Ns C m) :
    Inv (cxComp X N' sc cl C fp pins s₂ H₂) [] (srcSt srcs σ) (upd H₂ D (setO X.w D [])) { s₂ with heap := h₁, toks := tk } := by
  subst hD
  have hCle : s₂.heap.objs.size ≤ C := by rw [hC]; exact Nat.le_succ _
  have ok := cx_ok S I hcl hcl2 hCle hfp hfo
  have I3 : Inv X pins σ (upd H₂ s₂.heap.objs.size (setO X.w s₂.heap.objs.size [])) { s₂ with heap := s₂.heap.push { cls := .type "set", dict := none, data := .set #[] 0 (.fresh 0 0 (!byT X.w)) }, toks := tk } := I.laid (t' := tk) (fun b o q => Heap.get?_push_of_some _ q) (Nat.le_refl _) (setO_ok (setS_fresh (Heap.get?_push_size _ rfl)) fun z => Iff.rfl)
  have I4 : Inv X pins σ (upd H₂ s₂.heap.objs.size (setO X.w s₂.heap.objs.size [])) { s₂ with heap := h₁, toks := tk } := I3.kept (t' := tk) hk
  have old : ∀ b o, s₂.heap.get? b = some o → h₁.get? b = some o := fun b o e => hk b o (Heap.get?_push_of_some _ e)
  have neD : ∀ b o, s₂.heap.get? b = some o → b ≠ s₂.heap.objs.size := fun b o e => Nat.ne_of_lt (Heap.lt_size e)
  have cellOld : ∀ x c, cl.lookup x = some c → ∃ v o, s₂.heap.get? c = some o ∧ o.data = .cell v := fun x c e => by
    obtain ⟨v, o, ho, hd⟩ := I.cell x c (hcl x c e)
    exact ⟨v, o, ho, hd⟩
  refine ⟨ok, rfl, I.bare, Un.laid old (Nat.le_refl _) I.fresh, ⟨m, hns, fun i x v e1 e2 e3 => ?_⟩, fun x c e => ?_, ?_, fun x c e => ?_, fun p hp => ?_, I4.hok, ?_⟩
  · have e2' : (srcs[i]?).map (fun o => o.bind fun j => (σ[j]?).join) = some (some v) := by
      have := e2
      unfold srcSt at this
      rwa [List.getElem?_map] at this
    cases q : srcs[i]? with
    | none => rw [q] at e2'; cases e2'
    | some oj =>
      rw [q, Option.map_some] at e2'
      cases oj with
      | none => cases e2'
      | some j =>
        have e4 : (σ[j]?).join = some v := by simpa using e2'
        have e5 : σ[j]? = some (some v) := by
          cases z : σ[j]? with
          | none => rw [z] at e4; cases e4
          | some w => rw [z] at e4; rw [← e4]; rfl
        obtain ⟨x', n1, n2, n3, n4⟩ := S.out i j q
        have e1' : N'[i]? = some x := e1
        rw [n1] at e1'; cases e1'
        obtain ⟨m2, hn2, hl⟩ := I.loc
        have hv : Vis X.env.scope x := n4.elim (fun z => .inr (.inl z)) fun z => .inr (.inr z)
        obtain ⟨u, r, l⟩ := hl j x v n2 e5 hv
        refine ⟨u, r, .inr ⟨relab_free n3, ?_⟩⟩
        rcases l with ⟨k, _⟩ | ⟨_, c, ec, z⟩
        · have k' : X.env.scope.names.lookup x = some .local := k
          rcases n4 with z | z <;> rw [k'] at z <;> cases z
        · obtain ⟨c', ec'⟩ := hcl2 _ (PySem.mem_of_lookup n3) rfl
          have := hcl x c' ec'
          rw [ec] at this; cases this
          obtain ⟨o, ho, hd⟩ := z
          exact ⟨c, ec', o, old c o ho, hd⟩
  · obtain ⟨v, o, ho, hd⟩ := cellOld x c e
    exact ⟨v, o, old c o ho, hd⟩
  · show upd H₂ s₂.heap.objs.size (setO X.w s₂.heap.objs.size []) C = none
    rw [upd_ne (by rw [hC]; exact Nat.succ_ne_self _)]
    exact I.hok.fresh hCle
  · obtain ⟨v, o, ho, hd⟩ := cellOld x c e
    show upd H₂ s₂.heap.objs.size (setO X.w s₂.heap.objs.size []) c = none
    rw [upd_ne (neD c o ho)]
    exact I.freeC x c (hcl x c e)
  · have hp' : p ∈ X.pn ++ pins := by simpa [cxComp] using hp
    obtain ⟨e, n, ne, nf, d⟩ := I.pin p hp'
    obtain ⟨_, n4, _⟩ := I4.pin p hp'
    exact ⟨old _ _ e, n4, Nat.ne_of_lt (Nat.lt_of_lt_of_le (Heap.lt_size e) hCle), fun z => (List.mem_cons.mp (I.stkSub _ z)).elim ne nf, d⟩
  · show (srcs.map _).length = N'.length
    rw [List.length_map]
    exact S.len
def tSComp (w : World) (srcs : List (Option Nat)) (wi : TI) (g : TG) (tt : TT) (te : TE) : TE := fun σ H Q => wi σ H fun J H1 => ∀ D, H1 D = none → ∃ W : Nat → Nat → St → Hp → Prop, (∃ m, W 0 m (srcSt srcs σ) (upd H1 D (setO w D []))) ∧ ∀ i m σ' H', W i m σ' H' →
  (J.stop i H' ∧ Q (.ref D) H') ∨ (J.go i H' ∧ ∃ N : St → Hp → Prop, (∀ σ2 H2, N σ2 H2 → ∃ m', m' < m ∧ W (i + 1) m' σ2 H2) ∧ ∀ x H2, J.yld i H' x H2 → g x σ' H2 fun σ3 H3 => tt σ3 H3 fun b H4 =>
    if b = true then te σ3 H4 fun v H5 => ∃ zs z, v = .str z ∧ H5 D = some (setO w D zs) ∧ zs.length < 2000 ∧ N σ3 (upd H5 D (setO w D (zs ++ [z]))) else N σ3 H4)
theorem scomp_block {elt tg iter : Expr} {ifs : List Expr} {sc : Scope} {srcs : List (Option Nat)} {N' : List Str} {pos : Pos} {wi : TI} {g : TG} {tt : TT} {te : TE} {s : Shared} {H : Hp} {use : Option (Value → Sem Unit)} {Qv : Value → Shared → Prop} {Q : VK}
    (hc : X.calm = true) (S : CompSc sc X.env.scope N' X.N srcs) (hi : PI X tg iter wi)
    (hg : ∀ cl C fp pins s₂ H₂, PG (cxComp X N' sc cl C fp pins s₂ H₂) tg g) (ht : ∀ cl C fp pins s₂ H₂, PTs (cxComp X N' sc cl C fp pins s₂ H₂) ifs tt) (he : ∀ cl C fp pins s₂ H₂, PE (cxComp X N' sc cl C fp pins s₂ H₂) elt te)
    (hs : ∀ x, foldedSetIterable iter X.env x = pure x) (I : Inv X pins σ H s) (h : tSComp X.w srcs wi g tt te σ H Q)
    (post : ∀ D C H' s' m, (∀ h', Heap.SameBut C s'.heap h' → Inv X pins σ H' { s' with heap := h' }) → Inv X pins σ H' s' → s'.heap.Ns C m → (∀ x c, X.env.cells.lookup x = some c → c ≠ C) → X.env.locals ≠ C → H' C = none →
      (∀ σ' s'' h', Inv X pins σ' H' s'' → Heap.SameBut C s''.heap h' → Inv X pins σ' H' { s'' with heap := h' }) → Q (.ref D) H' → compPost (model X.prog X.w) X.A X.xe use Qv (.ref D) C (.ok .next) s') :
    wpAny (model X.prog X.w) X.A (comprehension (.SetComp elt [⟨tg, iter, ifs, 0⟩] sc pos) sc X.env (firstIterPos [⟨tg, iter, ifs, 0⟩] pos) (newSet (.type "set")) false (eval iter X.env) use) Qv X.xe s := by
  obtain ⟨cl, hclos, hcl, hcl2⟩ := clos_mk (env := X.env) (sc := sc) fun y hy hf => I.ok.has y.1 (S.frees y hy hf)
  refine wpAny_comprehension_free rfl hs hclos S.kind S.one (thn (hi pins s σ H _ I h) fun xv s₁ h₁ => thn h₁ fun itv s₂ h₂ => ?_)
  obtain ⟨it, fp, tn, J, H₂, e, I₂, T, st₂, f₂, rd⟩ := h₂
  subst e
  refine new_setK (wpAny_newFunctionEnv S.nocell (by intro y hy; simp at hy) (fun h₁ hns hsb => ?_) S.kind)
  dsimp only at hns hsb ⊢
  have hfo : ∀ b ∈ fp, ∃ o, s₂.heap.get? b = some o := fun b hb => let ⟨o, e, _⟩ := T.obj _ _ st₂ b hb; ⟨o, e⟩
  have hCe : (s₂.heap.push { cls := .type "set", dict := none, data := .set #[] 0 (.fresh 0 0 (!byT X.w)) }).objs.size = s₂.heap.objs.size + 1 := Heap.size_push ..
  have hk : ∀ b o, (s₂.heap.push { cls := .type "set", dict := none, data := .set #[] 0 (.fresh 0 0 (!byT X.w)) }).get? b = some o → h₁.get? b = some o := fun b o e => hsb.extBut b o (Nat.ne_of_lt (Heap.lt_size e)) (Heap.get?_push_of_some _ e)
  have IB := scomp_begin (tk := s₂.toks + ([] : List (Str × Value)).length) S I₂ hcl hcl2 f₂ hfo rfl hCe hk hns
  generalize (s₂.heap.push { cls := .type "set", dict := none, data := .set #[] 0 (.fresh 0 0 (!byT X.w)) }).objs.size = C at hCe hns hsb IB ⊢
  generalize hD : s₂.heap.objs.size = D at IB hCe ⊢
  have hCle : s₂.heap.objs.size ≤ C := by rw [hD, hCe]; exact Nat.le_succ _
  obtain ⟨W, ⟨m0, w0⟩, turn⟩ := rd D (by rw [← hD]; exact I₂.fresh)
  have fpB : ∀ {H' : Hp}, (∀ b ∈ fp, H' b = none) → ∀ b ∈ fp, FpOk (cxComp X N' sc cl C fp pins s₂ H₂) [] H' b := fun hn b hb => by
    obtain ⟨z1, z2⟩ := (cx_ok S I₂ hcl hcl2 hCle f₂ hfo).exf b hb
    exact ⟨hn b hb, z1, (cx_ok S I₂ hcl hcl2 hCle f₂ hfo).exfs b hb, .inl hb, z2, fun p hp => (f₂ b hb).2.2.2.2.2 p (by simpa [cxComp] using hp)⟩
  have fr0 : ∀ b ∈ fp, (upd H₂ D (setO X.w D [])) b = none := fun b hb => by
    obtain ⟨o, ho⟩ := hfo b hb
    rw [upd_ne (by rw [← hD]; exact Nat.ne_of_lt (Heap.lt_size ho))]
    exact (f₂ b hb).1
  have st0 : tn 0 h₁ := T.keep _ _ _ st₂ fun b hb o e => hk b o (Heap.get?_push_of_some _ e)
  have loop : codeAny (model X.prog X.w) X.A (.compLoop (.SetComp elt [⟨tg, iter, ifs, 0⟩] sc pos) 0 (.ref it) (.ref D) (compEnvC sc cl C X.env)) (compPost (model X.prog X.w) X.A X.xe use Qv (.ref D) C) { s₂ with heap := h₁, toks := s₂.toks + ([] : List (Str × Value)).length } := by
    refine scomp_turns (fun n s' => ∃ i σ' H', Inv (cxComp X N' sc cl C fp pins s₂ H₂) [] σ' H' s' ∧ tn i s'.heap ∧ (∀ b ∈ fp, H' b = none) ∧ W i n σ' H') ?_ m0 ⟨0, _, _, IB, st0, fr0, w0⟩
    rintro n s3 ⟨i, σ3, H3, I3, st3, fr3, w3⟩
    rcases turn i n σ3 H3 w3 with ⟨stop, qn⟩ | ⟨go, N, hN, step⟩
    · refine thn (T.done (cxComp X N' sc cl C fp pins s₂ H₂) rfl rfl rfl hc i [] s3 σ3 H3 _ I3 (fpB fr3) st3 stop) fun r s4 ⟨hr, I4⟩ => ?_
      subst hr
      have JX := comp_end I₂ f₂ I4
      obtain ⟨m, hn, _⟩ := I4.loc
      have cn : ∀ x c, X.env.cells.lookup x = some c → c ≠ C := fun x c e z => by
        obtain ⟨v, q⟩ := I₂.cell x c e
        exact absurd (Nat.lt_of_lt_of_le q.lt (by rw [z]; exact hCle)) (Nat.lt_irrefl _)
      have gone : ∀ σ' s'' h', Inv X pins σ' H3 s'' → Heap.SameBut C s''.heap h' → Inv X pins σ' H3 { s'' with heap := h' } := fun σ' s'' h' K3 hs3 =>
        K3.turned (t' := s''.toks) (it := C) (fun b o hb e => (hs3.2 b hb).trans e) I4.free (Nat.ne_of_gt (Nat.lt_of_lt_of_le I₂.lt hCle)) (.inr (Nat.le_trans I₂.sz hCle)) cn fun p hp z => by
          exact absurd (Nat.lt_of_lt_of_le (Heap.lt_size (I₂.pin p hp).1) (by rw [z]; exact hCle)) (Nat.lt_irrefl _)
      exact post D C H3 s4 m (fun h' hs' => gone σ s4 h' JX hs') JX hn cn (Nat.ne_of_lt (Nat.lt_of_lt_of_le I₂.lt hCle)) I4.free gone qn
    · refine thn (T.item (cxComp X N' sc cl C fp pins s₂ H₂) rfl rfl rfl hc i [] s3 σ3 H3 _ I3 (fpB fr3) st3 go) fun r s4 ⟨u, hr, h4⟩ => ?_
      subst hr
      refine thn h4 fun _ s5 ⟨x, H5, I5, r5, y5, st5, fr5⟩ => ?_
      have I5' := I5.pinned (fpB fr5) (T.obj _ _ st5)
      refine thn (hg cl C fp pins s₂ H₂ _ s5 σ3 H5 x u _ I5' r5 (step x H5 y5)) fun _ s6 ⟨σ6, H6, I6, q6⟩ => ?_
      refine thn (ht cl C fp pins s₂ H₂ _ s6 σ6 H6 _ I6 q6) fun ok s7 ⟨H7, I7, q7⟩ => ?_
      have again : ∀ {H8 : Hp} {s8 : Shared}, Inv (cxComp X N' sc cl C fp pins s₂ H₂) ([] ++ pinsAt fp s5.heap) σ6 H8 s8 → N σ6 H8 → ∃ m, m < n ∧ ∃ i σ' H', Inv (cxComp X N' sc cl C fp pins s₂ H₂) [] σ' H' s8 ∧ tn i s8.heap ∧ (∀ b ∈ fp, H' b = none) ∧ W i m σ' H' := fun {H8 s8} I8 n8 => by
        obtain ⟨m', hm, w8⟩ := hN σ6 H8 n8
        refine ⟨m', hm, i + 1, σ6, H8, I8.unpinned, T.keep _ _ _ st5 fun b hb o e => (I8.pin (b, o) (List.mem_append_right _ (List.mem_append_right _ (mem_pinsAt hb e)))).1, fun b hb => ?_, w8⟩
        obtain ⟨o, e, d⟩ := T.obj _ _ st5 b hb
        exact (I8.pin (b, o) (List.mem_append_right _ (List.mem_append_right _ (mem_pinsAt hb e)))).2.1
      cases ok with
      | false => exact again I7 q7
      | true =>
        refine thn (he cl C fp pins s₂ H₂ _ s7 σ6 H7 _ I7 q7) fun y s8 ⟨v, H8, I8, r8, q8⟩ => ?_
        obtain ⟨zs, z, rfl, hy, few, n8⟩ := q8
        obtain ⟨tk, rfl⟩ := r8
        exact set_addS (X := cxComp X N' sc cl C fp pins s₂ H₂) I8 hy few fun h9 tk9 I9 => again I9 n8
  exact start_set loop (T.self _ 0 _ _ _ st0 loop)
theorem pe_scomp {elt tg iter : Expr} {ifs : List Expr} {sc : Scope} {srcs : List (Option Nat)} {N' : List Str} {pos : Pos} {wi : TI} {g : TG} {tt : TT} {te : TE} {w : World} (hw : X.w = w) (hc : X.calm = true) (S : CompSc sc X.env.scope N' X.N srcs) (hi : PI X tg iter wi)
    (hg : ∀ cl C fp pins s₂ H₂, PG (cxComp X N' sc cl C fp pins s₂ H₂) tg g) (ht : ∀ cl C fp pins s₂ H₂, PTs (cxComp X N' sc cl C fp pins s₂ H₂) ifs tt) (he : ∀ cl C fp pins s₂ H₂, PE (cxComp X N' sc cl C fp pins s₂ H₂) elt te)
    (hs : ∀ x, foldedSetIterable iter X.env x = pure x := by intro _; rfl) : PE X (.SetComp elt [⟨tg, iter, ifs, 0⟩] sc pos) (tSComp w srcs wi g tt te) := by
  subst hw
  intro pins s σ H Q I h
  rw [arm_eval_SetComp]
  refine scomp_block (use := none) (Q := Q) hc S hi hg ht he hs I h fun D C H' s' m g1 J hn cn ln fr g2 q => ?_
  exact ⟨m, hn, fun h' hs' => ⟨.ref D, H', g1 h' hs', rfl, q⟩⟩
end
end L2

set_option Elab.async false
set_option linter.all false
set_option maxRecDepth 100000
set_option maxHeartbeats 4000000
namespace L2
open PySem PySem.Spec PyProof.Rows
section
variable {prog : Program} {w : World} {A : Around} {E : Value → Shared → Prop} {s : Shared}
structure Sti (h : Heap) (I a : Addr) (o : Obj) (first : Value) (i n ep : Nat) : Prop where
  it : h.get? I = some { cls := .type "set_iterator", data := .fields #[first, .int i 0, .ref a, .int n 0, .int ep 0] }
  st : h.get? a = some o
end
end L2

set_option Elab.async false
set_option linter.all false
set_option maxRecDepth 100000
set_option maxHeartbeats 4000000
namespace L2
open PySem PySem.Spec PyProof.Rows
section
variable {prog : Program} {w : World} {A : Around} {E : Value → Shared → Prop} {s : Shared}
end
end L2

set_option Elab.async false
set_option linter.all false
set_option maxRecDepth 100000
set_option maxHeartbeats 4000000
namespace L2
open PySem PySem.Spec PyProof.Rows
section
variable {prog : Program} {w : World} {A : Around} {E : Value → Shared → Prop} {s : Shared}
end
end L2

set_option Elab.async false
set_option linter.all false
set_option maxRecDepth 100000
set_option maxHeartbeats 4000000
namespace L2
open PySem PySem.Spec PyProof.Rows
section
variable {prog : Program} {w : World} {A : Around} {E : Value → Shared → Prop} {s : Shared}
end
section
variable {X : Cx}
end
end L2

set_option Elab.async false
set_option linter.all false
set_option maxRecDepth 100000
namespace L2
open PySem PySem.Spec PyProof.Rows
section
variable {K : PySem.W.Frag} {D : Addr} {z : Str} {g : TG} {tt : TT} {te : TE} {σ0 : St} {H : Hp} {Q : Hp → Prop}
theorem comp_text (Pv : Nat → St → Hp → Prop) (h0 : Pv 0 σ0 (upd H D (.lst []))) (hs : ∀ i c σ H', z.cps.toList[i]? = some c → Pv i σ H' → g (.str ⟨#[c]⟩) σ H' (cTurn D tt te (Pv (i + 1)))) (hd : ∀ σ H', Pv z.cps.toList.length σ H' → Q H') :
    ∃ W : Nat → Nat → St → Hp → Prop, (∃ m, W 0 m σ0 (upd H D (.lst []))) ∧ ∀ i m σ' H', W i m σ' H' →
      ((Its z).stop i H' ∧ Q H') ∨ ((Its z).go i H' ∧ ∃ N : St → Hp → Prop, (∀ σ2 H2, N σ2 H2 → ∃ m', m' < m ∧ W (i + 1) m' σ2 H2) ∧ ∀ x H2, (Its z).yld i H' x H2 → g x σ' H2 fun σ3 H3 => tt σ3 H3 fun b H4 =>
        if b = true then te σ3 H4 fun v H5 => ∃ ys, H5 D = some (.lst ys) ∧ ys.length < sizeLine ∧ N σ3 (upd H5 D (.lst (ys ++ [v]))) else N σ3 H4) := by
  have hl : z.cps.toList.length = z.cps.size := by simp
  rw [hl] at hd
  refine ⟨fun i m σ H => m = z.cps.size - i ∧ i ≤ z.cps.size ∧ Pv i σ H, ⟨_, rfl, Nat.zero_le _, h0⟩, ?_⟩
  rintro i m σ H1 ⟨rfl, hi, p⟩
  by_cases hlt : i < z.cps.size
  · refine .inr ⟨hlt, Pv (i + 1), fun σ' H' p' => ⟨z.cps.size - (i + 1), by omega, rfl, hlt, p'⟩, fun x H' y => ?_⟩
    obtain ⟨e, c, hc, e2⟩ := y
    subst e e2
    exact hs i c σ _ hc p
  · have e : i = z.cps.size := by omega
    subst e
    exact .inl ⟨Nat.le_refl _, hd σ H1 p⟩
theorem scomp_list {w : World} {a : Addr} {xs : List V} (Pv : Nat → St → Hp → Prop) (h0 : Pv 0 σ0 (upd H D (setO w D []))) (hl : ∀ i σ H, i ≤ xs.length → Pv i σ H → SqL K H a xs)
    (hs : ∀ i x σ H', xs[i]? = some x → Pv i σ H' → g x σ H' fun σ3 H3 => tt σ3 H3 fun b H4 => if b = true then te σ3 H4 fun v H5 => ∃ zs z, v = .str z ∧ H5 D = some (setO w D zs) ∧ zs.length < 2000 ∧ Pv (i + 1) σ3 (upd H5 D (setO w D (zs ++ [z]))) else Pv (i + 1) σ3 H4) (hd : ∀ σ H', Pv xs.length σ H' → Q H') :
    ∃ W : Nat → Nat → St → Hp → Prop, (∃ m, W 0 m σ0 (upd H D (setO w D []))) ∧ ∀ i m σ' H', W i m σ' H' →
      ((Itl K a).stop i H' ∧ Q H') ∨ ((Itl K a).go i H' ∧ ∃ N : St → Hp → Prop, (∀ σ2 H2, N σ2 H2 → ∃ m', m' < m ∧ W (i + 1) m' σ2 H2) ∧ ∀ x H2, (Itl K a).yld i H' x H2 → g x σ' H2 fun σ3 H3 => tt σ3 H3 fun b H4 =>
        if b = true then te σ3 H4 fun v H5 => ∃ zs z, v = .str z ∧ H5 D = some (setO w D zs) ∧ zs.length < 2000 ∧ N σ3 (upd H5 D (setO w D (zs ++ [z]))) else N σ3 H4) := by
  refine ⟨fun i m σ H => m = xs.length - i ∧ i ≤ xs.length ∧ Pv i σ H, ⟨xs.length, by simp, Nat.zero_le _, h0⟩, ?_⟩
  rintro i m σ H1 ⟨rfl, hi, p⟩
  have q := hl i σ H1 hi p
  by_cases hlt : i < xs.length
  · refine .inr ⟨⟨xs, xs[i], q, by simp [hlt]⟩, Pv (i + 1), fun σ' H' p' => ⟨xs.length - (i + 1), by omega, rfl, hlt, p'⟩, fun x H' y => ?_⟩
    obtain ⟨rfl, hy⟩ := y
    exact hs i x σ _ (hy xs q) p
  · have e : i = xs.length := by omega
    subst e
    exact .inl ⟨⟨xs, q, Nat.le_refl _⟩, hd σ H1 p⟩
end
section
variable {X : Cx} {CX : CXT} {k : Nat} {f C : Addr} {fd : FuncData} {ps : List Str} {sp : Sp} {x : Str} {p pos : Pos} {e : Expr} {es : List Expr} {t : TA} {W : St → XK}
theorem pi_r2 {tg a b : Expr} {ta : TA} (g : Gm X.env.scope "range") (hm : X.mg "range" = none) (ha : PA X [a, b] ta) (hs : starEach [a, b] X.env = [(false, eval a X.env), (false, eval b X.env)] := by rfl) (hs2 : starEach [b] X.env = [(false, eval b X.env)] := by rfl) : PI X tg (.Call (.Name "range" p) [a, b] [] pos) (iRng2 ta) := pi_range2 g.gl hm ha hs hs2
theorem pe_gmI {i : Int} (g : Gm X.env.scope x) (hm : ∃ t, X.mg x = some (Value.int i t)) : PE X (.Name x pos) (tC (.int i)) := by obtain ⟨t, h⟩ := hm; exact pe_gm g h ⟨t, rfl⟩
theorem pe_gmS {z : Str} (g : Gm X.env.scope x) (hm : ∃ t, X.mg x = some (Value.str z t)) : PE X (.Name x pos) (tC (.str z)) := by obtain ⟨t, h⟩ := hm; exact pe_gm g h ⟨t, rfl⟩
end
section
variable {X : Cx}
def rInsert : V → List V → Hp → VK → Prop := fun x vs H Q => ∃ l xs i y, x = .ref l ∧ vs = [.int i, y] ∧ H l = some (.lst xs) ∧ 0 ≤ i ∧ i ≤ xs.length ∧ xs.length < sizeLine ∧ Q .non (upd H l (.lst (xs.take i.toNat ++ y :: xs.drop i.toNat)))
theorem mt_insert : MtM X "list.insert" rInsert := by
  intro pins s σ H x vs v us Q I rx rv h
  obtain ⟨l, xs, i, y, rfl, rfl, hH, h0, h1, hz, q⟩ := h
  cases rx
  obtain ⟨u, u2, rfl, ⟨t, rfl⟩, r2⟩ := rv.two
  obtain ⟨z, its, n, r, hl, e⟩ := I.lstM hH
  have s63 : sizeLine < 2 ^ 62 := by rw [sizeLine_eq]; decide
  refine call_meets F.slot_list_insert ⟨_, e, rfl⟩ F.entry_list_insert (F.args_list_insert_3 _ _ _) (AutoListH.list_insert_list_int_val_1 l its.toArray n i t u2 (by rw [fitsIndex_both (by omega) (by omega)]; decide) (by rw [List.size_toArray]; omega)) ⟨e, ?_⟩
  refine ⟨.non, _, I.lset (its' := its.take i.toNat ++ u2 :: its.drop i.toNat) hH e ?_ ?_ ?_, rfl, q⟩
  · dsimp only
    rw [if_neg (by omega)]
    have em : min i.toNat its.toArray.size = i.toNat := by rw [List.size_toArray]; omega
    rw [em]
    apply Array.toList_inj.mp
    simp
    exact List.take_of_length_le (by simp)
  · exact (r.take _).append (.cons r2 (r.drop _))
  · rw [List.length_append, List.length_cons, List.length_take, List.length_drop]
    omega
end
end L2

set_option Elab.async false
set_option linter.all false
set_option maxRecDepth 100000
set_option maxHeartbeats 4000000
set_option pp.deepTerms false
set_option pp.deepTerms.threshold 8
set_option pp.maxSteps 1500
namespace Lw
open PySem L2
local macro_rules | `(tactic| walk_at "st") => `(tactic| repeat (first
  | refine ⟨_, rfl, ?_⟩
  | refine ⟨_, _, rfl, rfl, ?_⟩
  | refine ⟨_, _, rfl, ?_⟩
  | refine Or.inl ⟨_, _, rfl, rfl, ?_⟩
  | refine Or.inl ⟨rfl, ?_⟩
  | refine ⟨rfl, ?_⟩
  | refine Or.inl ⟨_, _, _, _, rfl, rfl, .of (by assumption), rfl, ?_⟩
  | (refine And.intro (show CMul _ _ from ?_) ?_; (first | exact Or.inr ⟨by omega, by omega⟩ | exact Or.inl ⟨by omega, by omega⟩))
  | (refine And.intro (show CDiv _ _ from ?_) ?_; exact ⟨by omega, by omega⟩)
  | (refine And.intro (show (0 : Int) < _ from ?_) ?_; first | decide | omega)))
structure TxtP (K : PySem.W.Frag) (mg : Str → Option Value) (a : Adr) : Prop extends Txt K mg a where
  n_all : mg "all" = none
  n_list : mg "list" = none
  n_tuple : mg "tuple" = none
  n_sorted : mg "sorted" = none
  n_set : mg "set" = none
  n_min : mg "min" = none
  g_SIGNS : ∃ t, mg "SIGNS" = some (Value.str "0123456789" t)
  g_LEAST_LONG : ∃ t, mg "LEAST_LONG" = some (Value.int 2 t)
  g_MOST_LONG : ∃ t, mg "MOST_LONG" = some (Value.int 4 t)
  g_MOST_LINES : ∃ t, mg "MOST_LINES" = some (Value.int 60 t)
  g_MOST_SEEKERS : ∃ t, mg "MOST_SEEKERS" = some (Value.int 60 t)
  g_MOST_GROUPS : ∃ t, mg "MOST_GROUPS" = some (Value.int 40 t)
  g_MOST_SWITCHES : ∃ t, mg "MOST_SWITCHES" = some (Value.int 10 t)
  g_BadPlan : mg "BadPlan" = some (.ref a.BadPlan)
  x_BadPlan : PySem.W.excIn K a.BadPlan [.type "ValueError", .type "Exception", .type "BaseException", .type "object"] "ValueError.__new__" = true
def digC (c : Nat) : Bool := decide (48 ≤ c) && decide (c ≤ 57)
theorem digC_iff {c : Nat} : digC c = true ↔ 48 ≤ c ∧ c ≤ 57 := by unfold digC; rw [Bool.and_eq_true, decide_eq_true_eq, decide_eq_true_eq]
theorem in_dig : ∀ c : Nat, c < 128 → inS ⟨#[c]⟩ "0123456789" = digC c := by decide +kernel
theorem asc_all {z : Str} (h : Asc z) : z.cps.all (· < 128) = true := by
  rw [← Array.all_toList, List.all_eq_true]
  intro c hc
  exact decide_eq_true (h c hc)
def spFigs : Sp := fun vs H Q _ => ∃ z : Str, vs = [.str z] ∧ Asc z ∧ z.length ≤ 1000 ∧ ∀ b H', (b = true ↔ Dig z) → Same H H' → Q (.bl b) H'
def spCounts (a : Adr) : Sp := fun vs H Q E => ∃ long seekers : Int, vs = [.int long, .int seekers] ∧ (2 ≤ long ∧ long ≤ 4 ∧ 1 ≤ seekers ∧ seekers ≤ 60 → Q .non H) ∧ (¬ (2 ≤ long ∧ long ≤ 4 ∧ 1 ≤ seekers ∧ seekers ≤ 60) → E (.ref a.BadPlan) none H)
section
variable {P : Program} {w : World} {K : PySem.W.Frag} {mg : Str → Option Value} {base : Heap} {a : Adr}
theorem sc_are_figures : FnScope ["text"] ["text"] (defScope (top 3)) := ⟨rfl, rfl, rfl, by decide +kernel, rfl, by decide +kernel, by decide +kernel⟩
theorem nm_are_figures_text : Nm (defScope (top 3)) "text" := ⟨by decide +kernel, by decide +kernel, by decide +kernel⟩
theorem gm_are_figures_all : Gm (defScope (top 3)) "all" := ⟨by decide +kernel, by decide +kernel, by decide +kernel⟩
def csc_are_figures_0 : Scope := { kind := .function, names := [(".0", .local), ("sign", .local), ("SIGNS", .globalImplicit)], isGenerator := false, isCoroutine := false, more := [] }
theorem cs_are_figures_0 : CompSc csc_are_figures_0 (defScope (top 3)) ["sign"] ["text"] [none] := CompSc.mk' rfl (by decide +kernel) (by decide +kernel) (by decide +kernel) (by decide +kernel) rfl (by decide +kernel)
theorem nmc_are_figures_0_sign : Nm csc_are_figures_0 "sign" := ⟨by decide +kernel, by decide +kernel, by decide +kernel⟩
theorem gmc_are_figures_0_SIGNS : Gm csc_are_figures_0 "SIGNS" := ⟨by decide +kernel, by decide +kernel, by decide +kernel⟩
theorem ok_figs {f : Addr} {fd : FuncData} (F : Fun K "are_figures" "are_figures" (top 3) f fd) (T : TxtP K mg a) : FnOk P w K mg base CX0 1 f fd ["text"] spFigs := by
  refine F.ok sc_are_figures (fun vs H Q E h => ?_) (fun cdv A outer s H vs Q E hr h => ?_)
  · obtain ⟨z, rfl, _⟩ := h
    rfl
  · obtain ⟨z, rfl, hz, hl, q⟩ := h
    have nd := sc_are_figures.nd
    refine ⟨_, (@pss_one _ _ _ (ps_ret (pe_cb (call_allB rfl) gm_are_figures_all T.n_all bt_all (pa_cons (pe_comp rfl cs_are_figures_0 (pi_str (pvN 0 nm_are_figures_text)) (fun cl C fp pins s₂ H₂ => (pg_nm 0 cs_are_figures_0.nd nmc_are_figures_0_sign.comp)) (fun cl C fp pins s₂ H₂ => pts_nil) (fun cl C fp pins s₂ H₂ => (pe_cmpR (op_inGB K rfl) (pvN 0 nmc_are_figures_0_sign.comp) (pe_gmS gmc_are_figures_0_SIGNS.comp T.g_SIGNS) (by with_unfolding_all rfl)))) pa_nil)))), ?_⟩
    walk_at "st"
    refine ⟨asc_all hz, fun D hD => ?_⟩
    have ll : z.cps.toList.length ≤ 1000 := by rw [← len_list]; exact hl
    refine comp_text (z := z) (fun i σ H' => ∃ x, σ = [x] ∧ Same H H' ∧ H' D = some (.lst (((z.cps.toList.take i).map digC).map V.bl))) ⟨none, rfl, (Same.refl H).upd hD, upd_same⟩ ?_ ?_
    · rintro i c σ H' hc ⟨x, rfl, sm, hL⟩
      have cl : c < 128 := hz c (List.mem_of_getElem? hc)
      walk_at "st"
      refine ⟨_, hL, ?_, _, rfl, sm.updN hD, ?_⟩
      · rw [List.length_map, List.length_map, List.length_take, sizeLine_eq]; omega
      · have e : V.bl (inS ⟨#[c]⟩ "0123456789") = V.bl (digC c) := by rw [in_dig c cl]
        rw [upd_same, List.take_add_one, hc, List.map_append, List.map_append]
        show some (HO.lst (_ ++ [V.bl (inS ⟨#[c]⟩ "0123456789")])) = _
        rw [e]; rfl
    · rintro σ H' ⟨x, rfl, sm, hL⟩
      rw [List.take_length] at hL
      refine ⟨D, _, rfl, .of hL, q _ H' ?_ sm⟩
      rw [List.all_map, List.all_eq_true]
      exact ⟨fun h c hc => digC_iff.mp (h c hc), fun h c hc => digC_iff.mpr (h c hc)⟩
theorem sc_check_counts : FnScope ["long", "seekers"] ["long", "seekers"] (defScope (top 18)) := ⟨rfl, rfl, rfl, by decide +kernel, rfl, by decide +kernel, by decide +kernel⟩
theorem nm_check_counts_long : Nm (defScope (top 18)) "long" := ⟨by decide +kernel, by decide +kernel, by decide +kernel⟩
theorem nm_check_counts_seekers : Nm (defScope (top 18)) "seekers" := ⟨by decide +kernel, by decide +kernel, by decide +kernel⟩
theorem gm_check_counts_within : Gm (defScope (top 18)) "within" := ⟨by decide +kernel, by decide +kernel, by decide +kernel⟩
theorem gm_check_counts_MOST_SEEKERS : Gm (defScope (top 18)) "MOST_SEEKERS" := ⟨by decide +kernel, by decide +kernel, by decide +kernel⟩
theorem gm_check_counts_BadPlan : Gm (defScope (top 18)) "BadPlan" := ⟨by decide +kernel, by decide +kernel, by decide +kernel⟩
theorem gm_check_counts_MOST_LONG : Gm (defScope (top 18)) "MOST_LONG" := ⟨by decide +kernel, by decide +kernel, by decide +kernel⟩
theorem gm_check_counts_LEAST_LONG : Gm (defScope (top 18)) "LEAST_LONG" := ⟨by decide +kernel, by decide +kernel, by decide +kernel⟩
theorem ok_counts {f : Addr} {fd : FuncData} (F : Fun K "check_counts" "check_counts" (top 18) f fd) (T : TxtP K mg a) (D_within : FnIn P w K mg base CX0 1 "within" ["number", "least", "most"] spWithin) : FnOk P w K mg base (CXE P w) 2 f fd ["long", "seekers"] (spCounts a) := by
  refine F.okX sc_check_counts (fun vs H Q E h => ?_) (fun cdv A outer s H vs Q E hr h => ?_)
  · obtain ⟨l, k, rfl, _⟩ := h
    rfl
  · obtain ⟨l, k, rfl, q1, q2⟩ := h
    refine ⟨_, (@pss_cons _ _ _ _ _ (ps_if (pt_not (pt_val (pe_fd D_within gm_check_counts_within (hr.mono (by decide)) pass0 (pa_cons (pvN 0 nm_check_counts_long) (pa_cons (pe_gmI gm_check_counts_LEAST_LONG T.g_LEAST_LONG) (pa_cons (pe_gmI gm_check_counts_MOST_LONG T.g_MOST_LONG) pa_nil)))))) (pss_one (ps_rs throws_def gm_check_counts_BadPlan rfl T.x_BadPlan T.g_BadPlan (pa_cons pe_str pa_nil))) pss_nil)
        (pss_one (ps_if (pt_not (pt_val (pe_fd D_within gm_check_counts_within (hr.mono (by decide)) pass0 (pa_cons (pvN 1 nm_check_counts_seekers) (pa_cons pe_int (pa_cons (pe_gmI gm_check_counts_MOST_SEEKERS T.g_MOST_SEEKERS) pa_nil)))))) (pss_one (ps_rs throws_def gm_check_counts_BadPlan rfl T.x_BadPlan T.g_BadPlan (pa_cons pe_str pa_nil))) pss_nil))), ?_⟩
    walk_at "st"
    refine ⟨l, 2, 4, rfl, ?_⟩
    walk_at "st"
    by_cases h1 : 2 ≤ l ∧ l ≤ 4
    · rw [decide_eq_true h1.1, decide_eq_true h1.2]
      refine iteF ?_
      walk_at "st"
      refine ⟨k, 1, 60, rfl, ?_⟩
      walk_at "st"
      by_cases h2 : 1 ≤ k ∧ k ≤ 60
      · rw [decide_eq_true h2.1, decide_eq_true h2.2]
        refine iteF ?_
        exact q1 ⟨h1.1, h1.2, h2.1, h2.2⟩
      · have e : (decide (1 ≤ k) && decide (k ≤ 60)) = false := Bool.eq_false_iff.mpr fun z => h2 (by simpa using z)
        rw [e]
        refine iteT ?_
        walk_at "st"
        exact ⟨(by show 1 ≤ sizeLine; decide), q2 fun z => h2 z.2.2⟩
    · have e : (decide (2 ≤ l) && decide (l ≤ 4)) = false := Bool.eq_false_iff.mpr fun z => h1 (by simpa using z)
      rw [e]
      refine iteT ?_
      walk_at "st"
      exact ⟨(by show 1 ≤ sizeLine; decide), q2 fun z => h1 ⟨z.1, z.2.1⟩⟩
end
end Lw

set_option Elab.async false
set_option linter.all false
set_option maxRecDepth 100000
set_option maxHeartbeats 4000000
set_option pp.deepTerms false
set_option pp.deepTerms.threshold 8
set_option pp.maxSteps 1500
namespace Lw
open PySem L2
local macro_rules | `(tactic| walk_at "st") => `(tactic| repeat (first
  | refine ⟨_, rfl, ?_⟩
  | refine ⟨_, _, rfl, rfl, ?_⟩
  | refine ⟨_, _, rfl, ?_⟩
  | refine Or.inl ⟨_, _, rfl, rfl, ?_⟩
  | refine Or.inl ⟨rfl, ?_⟩
  | refine ⟨rfl, ?_⟩
  | refine Or.inl ⟨_, _, _, _, rfl, rfl, .of (by assumption), rfl, ?_⟩
  | (refine And.intro (show CMul _ _ from ?_) ?_; (first | exact Or.inr ⟨by omega, by omega⟩ | exact Or.inl ⟨by omega, by omega⟩))
  | (refine And.intro (show CDiv _ _ from ?_) ?_; exact ⟨by omega, by omega⟩)
  | (refine And.intro (show (0 : Int) < _ from ?_) ?_; first | decide | omega)))
def Ok (z : Str) : Prop := Asc z ∧ z.length ≤ 20
def OkL (long : Int) (zs : List Str) : Prop := (1 ≤ zs.length ∧ zs.length ≤ 60) ∧ (∀ z ∈ zs, (z.length : Int) = long ∧ Dig z) ∧ zs.Nodup
def spLines (a : Adr) (K : PySem.W.Frag) : Sp := fun vs H Q E => ∃ (long : Int) (p : Addr) (zs : List Str), vs = [.int long, .ref p] ∧ 0 ≤ long ∧ long ≤ 1000 ∧ H p = some (.lst (zs.map V.str)) ∧ (∀ z ∈ zs, Ok z) ∧ zs.length < 2000 ∧ (OkL long zs → ∀ H', Same H H' → Q .non H') ∧ (¬ OkL long zs → ∀ H', Same H H' → E (.ref a.BadPlan) none H')
theorem repr_small {z : Str} (h : Ok z) : (PySem.reprText z).length ≤ 1000 := by
  have rl := StrLaws.reprText_len z fun c hc => by have := h.1 c hc; omega
  have := h.2
  omega
theorem app_len (x y : Str) : (x ++ y).length = x.length + y.length := by rw [len_list, len_list, len_list, app_list, List.length_append]
theorem take_snoc {α : Type} {xs : List α} {i : Nat} {x : α} {R : α → Prop} (h : xs[i]? = some x) (d : ∀ y ∈ xs.take i, R y) (hx : R x) : ∀ y ∈ xs.take (i + 1), R y := by
  rw [List.take_add_one, h]
  intro y hy
  rcases List.mem_append.mp hy with z | z
  · exact d y z
  · have : y = x := by simpa using z
    rw [this]; exact hx
section
variable {P : Program} {w : World} {K : PySem.W.Frag} {mg : Str → Option Value} {base : Heap} {a : Adr}
theorem sc_check_lines : FnScope ["long", "lines", "number"] ["long", "lines"] (defScope (top 19)) := ⟨rfl, rfl, rfl, by decide +kernel, rfl, by decide +kernel, by decide +kernel⟩
theorem nm_check_lines_long : Nm (defScope (top 19)) "long" := ⟨by decide +kernel, by decide +kernel, by decide +kernel⟩
theorem nm_check_lines_lines : Nm (defScope (top 19)) "lines" := ⟨by decide +kernel, by decide +kernel, by decide +kernel⟩
theorem nm_check_lines_number : Nm (defScope (top 19)) "number" := ⟨by decide +kernel, by decide +kernel, by decide +kernel⟩
theorem gm_check_lines_len : Gm (defScope (top 19)) "len" := ⟨by decide +kernel, by decide +kernel, by decide +kernel⟩
theorem gm_check_lines_set : Gm (defScope (top 19)) "set" := ⟨by decide +kernel, by decide +kernel, by decide +kernel⟩
theorem gm_check_lines_BadPlan : Gm (defScope (top 19)) "BadPlan" := ⟨by decide +kernel, by decide +kernel, by decide +kernel⟩
theorem gm_check_lines_are_figures : Gm (defScope (top 19)) "are_figures" := ⟨by decide +kernel, by decide +kernel, by decide +kernel⟩
theorem gm_check_lines_within : Gm (defScope (top 19)) "within" := ⟨by decide +kernel, by decide +kernel, by decide +kernel⟩
theorem gm_check_lines_MOST_LINES : Gm (defScope (top 19)) "MOST_LINES" := ⟨by decide +kernel, by decide +kernel, by decide +kernel⟩
theorem ok_lines {f : Addr} {fd : FuncData} (F : Fun K "check_lines" "check_lines" (top 19) f fd) (T : TxtP K mg a) (D_within : FnIn P w K mg base CX0 1 "within" ["number", "least", "most"] spWithin) (D_are_figures : FnIn P w K mg base CX0 1 "are_figures" ["text"] spFigs) :
    FnOk P w K mg base (CXE P w) 2 f fd ["long", "lines"] (spLines a K) := by
  refine F.okX sc_check_lines (fun vs H Q E h => ?_) (fun cdv A outer s H vs Q E hr h => ?_)
  · obtain ⟨l, p, zs, rfl, _⟩ := h
    rfl
  · obtain ⟨long, p, zs, rfl, l0, l1, hp, ok, few, q1, q2⟩ := h
    have hu := hr.units
    have nd := sc_check_lines.nd
    refine ⟨_, (@pss_cons _ _ _ _ _ (ps_if (pt_not (pt_val (pe_fd D_within gm_check_lines_within (hr.mono (by decide)) pass0 (pa_cons (pe_cb call_lenG gm_check_lines_len T.n_len bt_len (pa_cons (pvN 1 nm_check_lines_lines) pa_nil)) (pa_cons pe_int (pa_cons (pe_gmI gm_check_lines_MOST_LINES T.g_MOST_LINES) pa_nil)))))) (pss_one (ps_rs throws_def gm_check_lines_BadPlan rfl T.x_BadPlan T.g_BadPlan (pa_cons pe_str pa_nil))) pss_nil)
        (pss_cons (ps_for PassesOwn.leaving rfl (pi_list (pvN 1 nm_check_lines_lines)) (pg_nm 2 nd nm_check_lines_number) (pss_one (ps_if (PW.pt (pw_or (pt_cmpR (op_neG hu) (pe_cb call_lenG gm_check_lines_len T.n_len bt_len (pa_cons (pvN 2 nm_check_lines_number) pa_nil)) (pvN 0 nm_check_lines_long) (nomark _)) (pw_or1 (pt_not (pt_val (pe_fd D_are_figures gm_check_lines_are_figures (hr.mono (by decide)) pass0 (pa_cons (pvN 2 nm_check_lines_number) pa_nil))))))) (pss_one (ps_rs throws_def gm_check_lines_BadPlan rfl T.x_BadPlan T.g_BadPlan (pa_cons (pe_joined (pj_cons (pe_fRepr (pvN 2 nm_check_lines_number)) (pj_cons pe_str (pj_cons (pe_fG (pvN 0 nm_check_lines_long)) (pj_cons pe_str pj_nil))))) pa_nil))) pss_nil)))
        (pss_one (ps_if (pt_cmpR (op_neG hu) (pe_cb (call_lenSet (w := w) rfl) gm_check_lines_len T.n_len bt_len (pa_cons (pe_ct (call_setL (w := w) rfl rfl) gm_check_lines_set T.n_set bt_set (pa_cons (pvN 1 nm_check_lines_lines) pa_nil)) pa_nil)) (pe_cb call_lenG gm_check_lines_len T.n_len bt_len (pa_cons (pvN 1 nm_check_lines_lines) pa_nil)) (nomark _)) (pss_one (ps_rs throws_def gm_check_lines_BadPlan rfl T.x_BadPlan T.g_BadPlan (pa_cons pe_str pa_nil))) pss_nil)))), ?_⟩
    walk_at "st"
    refine Or.inr ⟨_, _, rfl, .inl (.of hp), ?_⟩
    rw [List.length_map]
    walk_at "st"
    refine ⟨_, 1, 60, rfl, ?_⟩
    walk_at "st"
    by_cases h1 : 1 ≤ zs.length ∧ zs.length ≤ 60
    · have e1 : (decide (1 ≤ (zs.length : Int)) && decide ((zs.length : Int) ≤ 60)) = true := by simp; omega
      rw [e1]
      refine iteF ?_
      walk_at "st"
      refine ⟨⟨_, .of hp⟩, for_list (K := K) (a := p) (xs := zs.map V.str) (fun i σ H2 => ∃ x, σ = [some (.int long), some (.ref p), x] ∧ Same H H2 ∧ ∀ z ∈ zs.take i, (z.length : Int) = long ∧ Dig z) ⟨none, rfl, Same.refl H, fun z hz => absurd hz (by simp)⟩ (fun i σ H2 _ ⟨_, _, s2, _⟩ => .of (s2 _ _ hp)) ?_ ?_⟩
      · rintro i y σ H2 hi ⟨x, rfl, s2, dn⟩
        rw [List.getElem?_map] at hi
        cases hk : zs[i]? with
        | none => rw [hk] at hi; cases hi
        | some z =>
          rw [hk] at hi; cases hi
          have hz := ok z (List.mem_of_getElem? hk)
          have zl : z.length ≤ 20 := hz.2
          walk_at "st"
          refine Or.inl ⟨z, rfl, (by rw [sizeLine_eq]; omega), ?_⟩
          walk_at "st"
          have e0 : Str.empty.length = 0 := rfl
          have e2 : (Str.ofString " is no number of ").length = 17 := by decide +kernel
          have e3 : (Str.ofString " figures").length = 8 := by decide +kernel
          have hr1 := repr_small hz
          by_cases he : (z.length : Int) = long
          · rw [decide_eq_true (congrArg V.int he)]
            refine iteF ?_
            walk_at "st"
            refine ⟨hz.1, by omega, fun b H3 hb s3 => ?_⟩
            walk_at "st"
            cases b with
            | true =>
              refine iteF ?_
              exact ⟨_, rfl, s2.trans s3, take_snoc hk dn ⟨he, hb.mp rfl⟩⟩
            | false =>
              refine iteT ?_
              walk_at "st"
              refine ⟨(by simp only [app_len, e0, e2, e3, sizeLine_eq]; omega), ?_⟩
              walk_at "st"
              refine ⟨(by simp only [app_len, e0, e2, e3, sizeLine_eq]; omega), ?_⟩
              walk_at "st"
              refine ⟨(by simp only [app_len, e0, e2, e3, sizeLine_eq]; omega), ?_⟩
              walk_at "st"
              refine Or.inl ⟨_, rfl, l0, l1, fun u hu' => ?_⟩
              walk_at "st"
              refine ⟨(by simp only [app_len, e0, e2, e3, sizeLine_eq]; omega), ?_⟩
              walk_at "st"
              refine ⟨(by simp only [app_len, e0, e2, e3, sizeLine_eq]; omega), ?_⟩
              refine ⟨(by simp only [app_len, e0, e2, e3, sizeLine_eq]; omega), ?_⟩
              exact ⟨(by show 1 ≤ sizeLine; decide), q2 (fun k => by have := hb.mpr (k.2.1 z (List.mem_of_getElem? hk)).2; cases this) H3 (s2.trans s3)⟩
          · rw [decide_eq_false (fun k => he (V.int.inj k))]
            refine iteT ?_
            walk_at "st"
            refine ⟨(by simp only [app_len, e0, e2, e3, sizeLine_eq]; omega), ?_⟩
            walk_at "st"
            refine ⟨(by simp only [app_len, e0, e2, e3, sizeLine_eq]; omega), ?_⟩
            walk_at "st"
            refine ⟨(by simp only [app_len, e0, e2, e3, sizeLine_eq]; omega), ?_⟩
            walk_at "st"
            refine Or.inl ⟨_, rfl, l0, l1, fun u hu' => ?_⟩
            walk_at "st"
            refine ⟨(by simp only [app_len, e0, e2, e3, sizeLine_eq]; omega), ?_⟩
            walk_at "st"
            refine ⟨(by simp only [app_len, e0, e2, e3, sizeLine_eq]; omega), ?_⟩
            refine ⟨(by simp only [app_len, e0, e2, e3, sizeLine_eq]; omega), ?_⟩
            exact ⟨(by show 1 ≤ sizeLine; decide), q2 (fun k => he (k.2.1 z (List.mem_of_getElem? hk)).1) H2 s2⟩
      · rintro σ H2 ⟨x, rfl, s2, dn⟩
        rw [List.length_map, List.take_length] at dn
        walk_at "st"
        refine ⟨p, zs, rfl, .of (s2 _ _ hp), few, fun l hl => ?_⟩
        have s3 : Same H (upd H2 l (setO w l zs)) := s2.upd hl
        refine ⟨l, zs, rfl, upd_same, fun n hn => ?_⟩
        walk_at "st"
        refine Or.inr ⟨_, _, rfl, .inl (.of (s3 _ _ hp)), ?_⟩
        rw [List.length_map]
        walk_at "st"
        by_cases hd : zs.Nodup
        · rw [decide_eq_true (congrArg (fun k : Nat => V.int k) (hn.mpr hd))]
          refine iteF ?_
          exact q1 ⟨h1, dn, hd⟩ _ s3
        · have ne : ¬ (V.int n = V.int zs.length) := fun k => hd (hn.mp (by have := V.int.inj k; omega))
          rw [decide_eq_false ne]
          refine iteT ?_
          walk_at "st"
          exact ⟨(by show 1 ≤ sizeLine; decide), q2 (fun k => hd k.2.2) _ s3⟩
    · have e1 : (decide (1 ≤ (zs.length : Int)) && decide ((zs.length : Int) ≤ 60)) = false := Bool.eq_false_iff.mpr fun z => h1 (by simp at z; omega)
      rw [e1]
      refine iteT ?_
      walk_at "st"
      exact ⟨(by show 1 ≤ sizeLine; decide), q2 (fun z => h1 z.1) H (Same.refl H)⟩
end
end Lw

set_option Elab.async false
set_option linter.all false
set_option maxRecDepth 100000
set_option maxHeartbeats 4000000
set_option pp.deepTerms false
set_option pp.deepTerms.threshold 8
set_option pp.maxSteps 1500
namespace Lw
open PySem L2
local macro_rules | `(tactic| walk_at "st") => `(tactic| repeat (first
  | refine ⟨_, rfl, ?_⟩
  | refine ⟨_, _, rfl, rfl, ?_⟩
  | refine ⟨_, _, rfl, ?_⟩
  | refine Or.inl ⟨_, _, rfl, rfl, ?_⟩
  | refine Or.inl ⟨rfl, ?_⟩
  | refine ⟨rfl, ?_⟩
  | refine Or.inl ⟨_, _, _, _, rfl, rfl, .of (by assumption), rfl, ?_⟩
  | (refine And.intro (show CMul _ _ from ?_) ?_; (first | exact Or.inr ⟨by omega, by omega⟩ | exact Or.inl ⟨by omega, by omega⟩))
  | (refine And.intro (show CDiv _ _ from ?_) ?_; exact ⟨by omega, by omega⟩)
  | (refine And.intro (show (0 : Int) < _ from ?_) ?_; first | decide | omega)))
def OkG (long : Int) (ts : List Pr) : Prop := ts.length ≤ 40 ∧ (∀ t ∈ ts, (1 ≤ (t.2.1.length : Int) ∧ (t.2.1.length : Int) ≤ long - 2) ∧ Dig t.2.1 ∧ 0 ≤ t.2.2 ∧ t.2.2 ≤ 10) ∧ (ts.map (·.2.1)).Nodup
def spGroups (a : Adr) : Sp := fun vs H Q E => ∃ (long : Int) (p : Addr) (ts : List Pr), vs = [.int long, .ref p] ∧ 0 ≤ long ∧ long ≤ 1000 ∧ H p = some (.lst (ts.map prV)) ∧ Lay H ts ∧ (∀ t ∈ ts, Ok t.2.1) ∧ ts.length < 2000 ∧ (OkG long ts → ∀ H', Same H H' → Q .non H') ∧ (¬ OkG long ts → ∀ H', Same H H' → E (.ref a.BadPlan) none H')
section
variable {P : Program} {w : World} {K : PySem.W.Frag} {mg : Str → Option Value} {base : Heap} {a : Adr}
theorem sc_check_groups : FnScope ["long", "groups", "prefix", "many"] ["long", "groups"] (defScope (top 20)) := ⟨rfl, rfl, rfl, by decide +kernel, rfl, by decide +kernel, by decide +kernel⟩
theorem nm_check_groups_long : Nm (defScope (top 20)) "long" := ⟨by decide +kernel, by decide +kernel, by decide +kernel⟩
theorem nm_check_groups_groups : Nm (defScope (top 20)) "groups" := ⟨by decide +kernel, by decide +kernel, by decide +kernel⟩
theorem nm_check_groups_prefix : Nm (defScope (top 20)) "prefix" := ⟨by decide +kernel, by decide +kernel, by decide +kernel⟩
theorem nm_check_groups_many : Nm (defScope (top 20)) "many" := ⟨by decide +kernel, by decide +kernel, by decide +kernel⟩
theorem gm_check_groups_len : Gm (defScope (top 20)) "len" := ⟨by decide +kernel, by decide +kernel, by decide +kernel⟩
theorem gm_check_groups_BadPlan : Gm (defScope (top 20)) "BadPlan" := ⟨by decide +kernel, by decide +kernel, by decide +kernel⟩
theorem gm_check_groups_within : Gm (defScope (top 20)) "within" := ⟨by decide +kernel, by decide +kernel, by decide +kernel⟩
theorem gm_check_groups_MOST_SWITCHES : Gm (defScope (top 20)) "MOST_SWITCHES" := ⟨by decide +kernel, by decide +kernel, by decide +kernel⟩
theorem gm_check_groups_are_figures : Gm (defScope (top 20)) "are_figures" := ⟨by decide +kernel, by decide +kernel, by decide +kernel⟩
theorem gm_check_groups_MOST_GROUPS : Gm (defScope (top 20)) "MOST_GROUPS" := ⟨by decide +kernel, by decide +kernel, by decide +kernel⟩
def csc_check_groups_0 : Scope := { kind := .function, names := [(".0", .local), ("prefix", .local), ("many", .local)], isGenerator := false, isCoroutine := false, more := [] }
theorem cs_check_groups_0 : CompSc csc_check_groups_0 (defScope (top 20)) ["prefix", "many"] ["long", "groups", "prefix", "many"] [none, none] := CompSc.mk' rfl (by decide +kernel) (by decide +kernel) (by decide +kernel) (by decide +kernel) rfl (by decide +kernel)
theorem nmc_check_groups_0_prefix : Nm csc_check_groups_0 "prefix" := ⟨by decide +kernel, by decide +kernel, by decide +kernel⟩
theorem nmc_check_groups_0_many : Nm csc_check_groups_0 "many" := ⟨by decide +kernel, by decide +kernel, by decide +kernel⟩
theorem ok_groups {f : Addr} {fd : FuncData} (F : Fun K "check_groups" "check_groups" (top 20) f fd) (T : TxtP K mg a) (D_within : FnIn P w K mg base CX0 1 "within" ["number", "least", "most"] spWithin) (D_are_figures : FnIn P w K mg base CX0 1 "are_figures" ["text"] spFigs) :
    FnOk P w K mg base (CXE P w) 2 f fd ["long", "groups"] (spGroups a) := by
  refine F.okX sc_check_groups (fun vs H Q E h => ?_) (fun cdv A outer s H vs Q E hr h => ?_)
  · obtain ⟨l, p, zs, rfl, _⟩ := h
    rfl
  · obtain ⟨long, p, ts, rfl, l0, l1, hp, lay, ok, few, q1, q2⟩ := h
    have hu := hr.units
    have nd := sc_check_groups.nd
    refine ⟨_, (@pss_cons _ _ _ _ _ (ps_if (pt_cmpR op_gt (pe_cb call_lenG gm_check_groups_len T.n_len bt_len (pa_cons (pvN 1 nm_check_groups_groups) pa_nil)) (pe_gmI gm_check_groups_MOST_GROUPS T.g_MOST_GROUPS) (nomark _)) (pss_one (ps_rs throws_def gm_check_groups_BadPlan rfl T.x_BadPlan T.g_BadPlan (pa_cons pe_str pa_nil))) pss_nil)
        (pss_cons (ps_for PassesOwn.leaving rfl (pi_list (pvN 1 nm_check_groups_groups)) (pg_tup rfl (pgs_cons (pg_nm 2 nd nm_check_groups_prefix) (pgs_cons (pg_nm 3 nd nm_check_groups_many) pgs_nil))) (pss_cons (ps_if (PW.pt (pw_or (pt_not (pt_val (pe_fd D_within gm_check_groups_within (hr.mono (by decide)) pass0 (pa_cons (pe_cb call_lenG gm_check_groups_len T.n_len bt_len (pa_cons (pvN 2 nm_check_groups_prefix) pa_nil)) (pa_cons pe_int (pa_cons (pe_op op_sub (pvN 0 nm_check_groups_long) pe_int) pa_nil)))))) (pw_or1 (pt_not (pt_val (pe_fd D_are_figures gm_check_groups_are_figures (hr.mono (by decide)) pass0 (pa_cons (pvN 2 nm_check_groups_prefix) pa_nil))))))) (pss_one (ps_rs throws_def gm_check_groups_BadPlan rfl T.x_BadPlan T.g_BadPlan (pa_cons (pe_joined (pj_cons (pe_fRepr (pvN 2 nm_check_groups_prefix)) (pj_cons pe_str (pj_cons (pe_fG (pvN 0 nm_check_groups_long)) (pj_cons pe_str pj_nil))))) pa_nil))) pss_nil)
          (pss_one (ps_if (pt_not (pt_val (pe_fd D_within gm_check_groups_within (hr.mono (by decide)) pass0 (pa_cons (pvN 3 nm_check_groups_many) (pa_cons pe_int (pa_cons (pe_gmI gm_check_groups_MOST_SWITCHES T.g_MOST_SWITCHES) pa_nil)))))) (pss_one (ps_rs throws_def gm_check_groups_BadPlan rfl T.x_BadPlan T.g_BadPlan (pa_cons pe_str pa_nil))) pss_nil))))
        (pss_one (ps_if (pt_cmpR (op_neG hu) (pe_cb (call_lenSet (w := w) rfl) gm_check_groups_len T.n_len bt_len (pa_cons (pe_scomp (w := w) rfl rfl cs_check_groups_0 (pi_list (pvN 1 nm_check_groups_groups)) (fun cl C fp pins s₂ H₂ => (pg_tupB (X := cxComp _ _ _ cl C fp pins s₂ H₂) K rfl 2 rfl (pgs_cons (pg_nm 0 cs_check_groups_0.nd nmc_check_groups_0_prefix.comp) (pgs_cons (pg_nm 1 cs_check_groups_0.nd nmc_check_groups_0_many.comp) pgs_nil)) rfl rfl)) (fun cl C fp pins s₂ H₂ => pts_nil) (fun cl C fp pins s₂ H₂ => (pvN 0 nmc_check_groups_0_prefix.comp))) pa_nil)) (pe_cb call_lenG gm_check_groups_len T.n_len bt_len (pa_cons (pvN 1 nm_check_groups_groups) pa_nil)) (nomark _)) (pss_one (ps_rs throws_def gm_check_groups_BadPlan rfl T.x_BadPlan T.g_BadPlan (pa_cons pe_str pa_nil))) pss_nil)))), ?_⟩
    walk_at "st"
    refine Or.inr ⟨_, _, rfl, .inl (.of hp), ?_⟩
    rw [List.length_map]
    walk_at "st"
    by_cases h1 : (ts.length : Int) > 40
    · rw [decide_eq_true h1]
      refine iteT ?_
      walk_at "st"
      exact ⟨(by show 1 ≤ sizeLine; decide), q2 (fun z => by have := z.1; omega) H (Same.refl H)⟩
    rw [decide_eq_false h1]
    refine iteF ?_
    walk_at "st"
    refine ⟨⟨_, .of hp⟩, for_list (K := K) (a := p) (xs := ts.map prV) (fun i σ H2 => ∃ x y, σ = [some (.int long), some (.ref p), x, y] ∧ Same H H2 ∧ ∀ t ∈ ts.take i, (1 ≤ (t.2.1.length : Int) ∧ (t.2.1.length : Int) ≤ long - 2) ∧ Dig t.2.1 ∧ 0 ≤ t.2.2 ∧ t.2.2 ≤ 10) ⟨none, none, rfl, Same.refl H, fun z hz => absurd hz (by simp)⟩ (fun i σ H2 _ ⟨_, _, _, s2, _⟩ => .of (s2 _ _ hp)) ?_ ?_⟩
    · rintro i y σ H2 hi ⟨x, y', rfl, s2, dn⟩
      rw [List.getElem?_map] at hi
      cases hk : ts[i]? with
      | none => rw [hk] at hi; cases hi
      | some t =>
        rw [hk] at hi; cases hi
        have tm := List.mem_of_getElem? hk
        have hz := ok t tm
        have zl : t.2.1.length ≤ 20 := hz.2
        have e0 : Str.empty.length = 0 := rfl
        have e2 : (Str.ofString " is no prefix where numbers have ").length = 33 := by decide +kernel
        have e3 : (Str.ofString " figures").length = 8 := by decide +kernel
        have hr1 := repr_small hz
        refine ⟨t.1, _, rfl, .of (s2 _ _ (lay t tm)), rfl, ?_⟩
        walk_at "st"
        refine Or.inl ⟨_, rfl, (by rw [sizeLine_eq]; omega), ?_⟩
        walk_at "st"
        refine ⟨_, 1, long - 2, rfl, ?_⟩
        walk_at "st"
        by_cases hw : 1 ≤ (t.2.1.length : Int) ∧ (t.2.1.length : Int) ≤ long - 2
        · rw [decide_eq_true hw.1, decide_eq_true hw.2]
          refine iteF ?_
          walk_at "st"
          refine ⟨hz.1, by omega, fun b H3 hb s3 => ?_⟩
          walk_at "st"
          cases b with
          | true =>
            refine iteF ?_
            walk_at "st"
            refine ⟨_, 0, 10, rfl, ?_⟩
            walk_at "st"
            by_cases hm : 0 ≤ t.2.2 ∧ t.2.2 ≤ 10
            · rw [decide_eq_true hm.1, decide_eq_true hm.2]
              refine iteF ?_
              exact ⟨_, _, rfl, s2.trans s3, take_snoc hk dn ⟨hw, hb.mp rfl, hm.1, hm.2⟩⟩
            · have e : (decide (0 ≤ t.2.2) && decide (t.2.2 ≤ 10)) = false := Bool.eq_false_iff.mpr fun z => hm (by simpa using z)
              rw [e]
              refine iteT ?_
              walk_at "st"
              exact ⟨(by show 1 ≤ sizeLine; decide), q2 (fun k => hm (k.2.1 t tm).2.2) H3 (s2.trans s3)⟩
          | false =>
            refine iteT ?_
            walk_at "st"
            refine ⟨(by simp only [app_len, e0, e2, e3, sizeLine_eq]; omega), ?_⟩
            walk_at "st"
            refine ⟨(by simp only [app_len, e0, e2, e3, sizeLine_eq]; omega), ?_⟩
            walk_at "st"
            refine ⟨(by simp only [app_len, e0, e2, e3, sizeLine_eq]; omega), ?_⟩
            walk_at "st"
            refine Or.inl ⟨_, rfl, l0, l1, fun u hu' => ?_⟩
            walk_at "st"
            refine ⟨(by simp only [app_len, e0, e2, e3, sizeLine_eq]; omega), ?_⟩
            walk_at "st"
            refine ⟨(by simp only [app_len, e0, e2, e3, sizeLine_eq]; omega), ?_⟩
            refine ⟨(by simp only [app_len, e0, e2, e3, sizeLine_eq]; omega), ?_⟩
            exact ⟨(by show 1 ≤ sizeLine; decide), q2 (fun k => by have := hb.mpr (k.2.1 t tm).2.1; cases this) H3 (s2.trans s3)⟩
        · have e : (decide (1 ≤ (t.2.1.length : Int)) && decide ((t.2.1.length : Int) ≤ long - 2)) = false := Bool.eq_false_iff.mpr fun z => hw (by simpa using z)
          rw [e]
          refine iteT ?_
          walk_at "st"
          refine ⟨(by simp only [app_len, e0, e2, e3, sizeLine_eq]; omega), ?_⟩
          walk_at "st"
          refine ⟨(by simp only [app_len, e0, e2, e3, sizeLine_eq]; omega), ?_⟩
          walk_at "st"
          refine ⟨(by simp only [app_len, e0, e2, e3, sizeLine_eq]; omega), ?_⟩
          walk_at "st"
          refine Or.inl ⟨_, rfl, l0, l1, fun u hu' => ?_⟩
          walk_at "st"
          refine ⟨(by simp only [app_len, e0, e2, e3, sizeLine_eq]; omega), ?_⟩
          walk_at "st"
          refine ⟨(by simp only [app_len, e0, e2, e3, sizeLine_eq]; omega), ?_⟩
          refine ⟨(by simp only [app_len, e0, e2, e3, sizeLine_eq]; omega), ?_⟩
          exact ⟨(by show 1 ≤ sizeLine; decide), q2 (fun k => hw (k.2.1 t tm).1) H2 s2⟩
    · rintro σ H2 ⟨x, y', rfl, s2, dn⟩
      rw [List.length_map, List.take_length] at dn
      walk_at "st"
      have hp2 := s2 _ _ hp
      refine ⟨⟨_, .of hp2⟩, fun D hD => ?_⟩
      refine scomp_list (K := K) (w := w) (a := p) (xs := ts.map prV) (fun i σ H' => ∃ x y, σ = [x, y] ∧ Same H2 H' ∧ H' D = some (setO w D ((ts.take i).map (·.2.1)))) ⟨none, none, rfl, (Same.refl H2).upd hD, upd_same⟩ (fun i σ H' _ ⟨_, _, _, sm, _⟩ => .of (sm _ _ (s2 _ _ hp))) ?_ ?_
      · rintro i x σ H' hi ⟨x0, x1, rfl, sm, hL⟩
        rw [List.getElem?_map] at hi
        cases hk : ts[i]? with
        | none => rw [hk] at hi; cases hi
        | some t =>
          rw [hk] at hi; cases hi
          have tm := List.mem_of_getElem? hk
          refine ⟨t.1, _, rfl, .of (sm _ _ (s2 _ _ (lay t tm))), rfl, ?_⟩
          walk_at "st"
          refine ⟨_, _, rfl, hL, ?_, _, _, rfl, sm.updN hD, ?_⟩
          · rw [List.length_map, List.length_take]; omega
          · rw [upd_same, List.take_add_one, hk, List.map_append]; rfl
      · rintro σ H' ⟨x0, x1, rfl, sm, hL⟩
        rw [List.length_map, List.take_length] at hL
        refine ⟨D, _, rfl, hL, fun n hn => ?_⟩
        rw [List.length_map] at hn
        walk_at "st"
        have s3 := s2.trans sm
        refine Or.inr ⟨_, _, rfl, .inl (.of (s3 _ _ hp)), ?_⟩
        rw [List.length_map]
        walk_at "st"
        by_cases hd : (ts.map (·.2.1)).Nodup
        · rw [decide_eq_true (congrArg (fun k : Nat => V.int k) (hn.mpr hd))]
          refine iteF ?_
          exact q1 ⟨by omega, dn, hd⟩ _ s3
        · have ne : ¬ (V.int n = V.int ts.length) := fun k => hd (hn.mp (by have := V.int.inj k; omega))
          rw [decide_eq_false ne]
          refine iteT ?_
          walk_at "st"
          exact ⟨(by show 1 ≤ sizeLine; decide), q2 (fun k => hd k.2.2) _ s3⟩
end
end Lw

set_option Elab.async false
set_option linter.all false
set_option maxRecDepth 100000
set_option maxHeartbeats 4000000
set_option pp.deepTerms false
set_option pp.deepTerms.threshold 8
set_option pp.maxSteps 1500
namespace Lw
open PySem L2
local macro_rules | `(tactic| walk_at "st") => `(tactic| repeat (first
  | refine ⟨_, rfl, ?_⟩
  | refine ⟨_, _, rfl, rfl, ?_⟩
  | refine ⟨_, _, rfl, ?_⟩
  | refine Or.inl ⟨_, _, rfl, rfl, ?_⟩
  | refine Or.inl ⟨rfl, ?_⟩
  | refine ⟨rfl, ?_⟩
  | refine Or.inl ⟨_, _, _, _, rfl, rfl, .of (by assumption), rfl, ?_⟩
  | (refine And.intro (show CMul _ _ from ?_) ?_; (first | exact Or.inr ⟨by omega, by omega⟩ | exact Or.inl ⟨by omega, by omega⟩))
  | (refine And.intro (show CDiv _ _ from ?_) ?_; exact ⟨by omega, by omega⟩)
  | (refine And.intro (show (0 : Int) < _ from ?_) ?_; first | decide | omega)))
def SameX (ws : List Addr) (H H' : Hp) : Prop := ∀ b o, b ∉ ws → H b = some o → H' b = some o
structure PlC (K : PySem.W.Frag) (C : Addr) : Prop where
  cls : Cls K C
  l : NoAttr K C "long"
  n : NoAttr K C "lines"
  s : NoAttr K C "seekers"
  g : NoAttr K C "groups"
def planF (long : Int) (lt : Addr) (seekers : Int) (gt : Addr) : List (Str × V) := [("long", .int long), ("lines", .ref lt), ("seekers", .int seekers), ("groups", .ref gt)]
def Good (long seekers : Int) (zs : List Str) (ts : List Pr) : Prop := (2 ≤ long ∧ long ≤ 4 ∧ 1 ≤ seekers ∧ seekers ≤ 60) ∧ OkL long zs ∧ OkG long ts
structure Pts (H : Hp) (l g : Addr) (zs : List Str) (ts : List Pr) : Prop where
  l : H l = some (.lst (zs.map V.str))
  g : H g = some (.lst (ts.map prV))
  lay : Lay H ts
  okl : ∀ z ∈ zs, Ok z
  okg : ∀ t ∈ ts, Ok t.2.1
  fl : zs.length < 2000
  fg : ts.length < 2000
theorem Pts.same {H H' : Hp} {l g : Addr} {zs : List Str} {ts : List Pr} (p : Pts H l g zs ts) (s : Same H H') : Pts H' l g zs ts := ⟨s _ _ p.l, s _ _ p.g, p.lay.same s, p.okl, p.okg, p.fl, p.fg⟩
def spPlanI (a : Adr) (K : PySem.W.Frag) : Sp := fun vs H Q E => ∃ (p : Addr) (long : Int) (l : Addr) (seekers : Int) (g C dx : Addr) (zs : List Str) (ts : List Pr), vs = [.ref p, .int long, .ref l, .int seekers, .ref g] ∧ H p = some (.ins C dx []) ∧ PlC K C ∧ Pts H l g zs ts ∧
  (Good long seekers zs ts → ∀ (H' : Hp) (lt gt : Addr) (zs' : List Str) (ts' : List Pr), SameX [p] H H' → H' p = some (.ins C dx (planF long lt seekers gt)) → H' lt = some (.tup (zs'.map V.str)) → H' gt = some (.tup (ts'.map prV)) → zs'.Perm zs → zs'.Pairwise leS → ts'.Perm ts → ts'.Pairwise (fun x y => leS x.2.1 y.2.1) → Q .non H') ∧
  (¬ Good long seekers zs ts → ∀ H', Same H H' → E (.ref a.BadPlan) none H')
section
variable {P : Program} {w : World} {K : PySem.W.Frag} {mg : Str → Option Value} {base : Heap} {a : Adr}
theorem sc_Plan___init__ : FnScope ["self", "long", "lines", "seekers", "groups"] ["self", "long", "lines", "seekers", "groups"] (defScope (inClass (top 17) 0)) := ⟨rfl, rfl, rfl, by decide +kernel, rfl, by decide +kernel, by decide +kernel⟩
theorem nm_Plan___init___self : Nm (defScope (inClass (top 17) 0)) "self" := ⟨by decide +kernel, by decide +kernel, by decide +kernel⟩
theorem nm_Plan___init___long : Nm (defScope (inClass (top 17) 0)) "long" := ⟨by decide +kernel, by decide +kernel, by decide +kernel⟩
theorem nm_Plan___init___lines : Nm (defScope (inClass (top 17) 0)) "lines" := ⟨by decide +kernel, by decide +kernel, by decide +kernel⟩
theorem nm_Plan___init___seekers : Nm (defScope (inClass (top 17) 0)) "seekers" := ⟨by decide +kernel, by decide +kernel, by decide +kernel⟩
theorem nm_Plan___init___groups : Nm (defScope (inClass (top 17) 0)) "groups" := ⟨by decide +kernel, by decide +kernel, by decide +kernel⟩
theorem gm_Plan___init___tuple : Gm (defScope (inClass (top 17) 0)) "tuple" := ⟨by decide +kernel, by decide +kernel, by decide +kernel⟩
theorem gm_Plan___init___sorted : Gm (defScope (inClass (top 17) 0)) "sorted" := ⟨by decide +kernel, by decide +kernel, by decide +kernel⟩
theorem gm_Plan___init___check_groups : Gm (defScope (inClass (top 17) 0)) "check_groups" := ⟨by decide +kernel, by decide +kernel, by decide +kernel⟩
theorem gm_Plan___init___check_lines : Gm (defScope (inClass (top 17) 0)) "check_lines" := ⟨by decide +kernel, by decide +kernel, by decide +kernel⟩
theorem gm_Plan___init___check_counts : Gm (defScope (inClass (top 17) 0)) "check_counts" := ⟨by decide +kernel, by decide +kernel, by decide +kernel⟩
theorem ok_planI {f : Addr} {fd : FuncData} (F : Fun K "__init__" "Plan.__init__" (inClass (top 17) 0) f fd) (T : TxtP K mg a) (D_check_counts : FnIn P w K mg base (CXE P w) 2 "check_counts" ["long", "seekers"] (spCounts a)) (D_check_lines : FnIn P w K mg base (CXE P w) 2 "check_lines" ["long", "lines"] (spLines a K)) (D_check_groups : FnIn P w K mg base (CXE P w) 2 "check_groups" ["long", "groups"] (spGroups a)) :
    FnOk P w K mg base (CXE P w) 3 f fd ["self", "long", "lines", "seekers", "groups"] (spPlanI a K) := by
  refine F.okX sc_Plan___init__ (fun vs H Q E h => ?_) (fun cdv A outer s H vs Q E hr h => ?_)
  · obtain ⟨p, long, l, seekers, g, C, dx, zs, ts, rfl, _⟩ := h
    rfl
  · obtain ⟨p, long, l, seekers, g, C, dx, zs, ts, rfl, hp, pc, pt, q1, q2⟩ := h
    have hu := hr.units
    have nd := sc_Plan___init__.nd
    refine ⟨_, (@pss_cons _ _ _ _ _ (ps_expr (pe_fd D_check_counts gm_Plan___init___check_counts (hr.mono (by decide)) pass_on (pa_cons (pvN 1 nm_Plan___init___long) (pa_cons (pvN 3 nm_Plan___init___seekers) pa_nil))))
        (pss_cons (ps_expr (pe_fd D_check_lines gm_Plan___init___check_lines (hr.mono (by decide)) pass_on (pa_cons (pvN 1 nm_Plan___init___long) (pa_cons (pvN 2 nm_Plan___init___lines) pa_nil))))
        (pss_cons (ps_expr (pe_fd D_check_groups gm_Plan___init___check_groups (hr.mono (by decide)) pass_on (pa_cons (pvN 1 nm_Plan___init___long) (pa_cons (pvN 4 nm_Plan___init___groups) pa_nil))))
        (pss_cons (ps_fld (pvN 0 nm_Plan___init___self) (pvN 1 nm_Plan___init___long) rfl)
        (pss_cons (ps_fld (pvN 0 nm_Plan___init___self) (pe_ct call_tuple_of gm_Plan___init___tuple T.n_tuple bt_tuple (pa_cons (pe_cb call_sortedS gm_Plan___init___sorted T.n_sorted bt_sorted (pa_cons (pvN 2 nm_Plan___init___lines) pa_nil)) pa_nil)) rfl)
        (pss_cons (ps_fld (pvN 0 nm_Plan___init___self) (pvN 3 nm_Plan___init___seekers) rfl)
        (pss_one (ps_fld (pvN 0 nm_Plan___init___self) (pe_ct call_tuple_of gm_Plan___init___tuple T.n_tuple bt_tuple (pa_cons (pe_cb call_sortedP gm_Plan___init___sorted T.n_sorted bt_sorted (pa_cons (pvN 4 nm_Plan___init___groups) pa_nil)) pa_nil)) rfl)))))))), ?_⟩
    walk_at "st"
    refine ⟨fun hC => ?_, fun hC => q2 (fun z => hC z.1) H (Same.refl H)⟩
    walk_at "st"
    refine ⟨long, l, zs, rfl, by omega, by omega, pt.l, pt.okl, pt.fl, fun hL H1 s1 => ?_, fun hL H1 s1 => q2 (fun z => hL z.2.1) H1 s1⟩
    have pt1 := pt.same s1
    walk_at "st"
    refine ⟨long, g, ts, rfl, by omega, by omega, pt1.g, pt1.lay, pt.okg, pt.fg, fun hG H2 s2 => ?_, fun hG H2 s2 => q2 (fun z => hG z.2.2) H2 (s1.trans s2)⟩
    have s02 := s1.trans s2
    have pt2 := pt.same s02
    have hp2 := s02 _ _ hp
    walk_at "st"
    refine ⟨p, C, dx, [], rfl, hp2, pc.cls, pc.l, (by show 0 < 1000; decide), ?_⟩
    generalize hA : upd H2 p (.ins C dx (putF "long" (.int long) [])) = HA
    have xA : SameX [p] H HA := fun b o hb e => by rw [← hA, upd_ne (by simpa using hb)]; exact s02 _ _ e
    have pA : HA p = some (.ins C dx [("long", .int long)]) := hA ▸ upd_same
    have np : ∀ {b xs}, H b = some (.lst xs) → b ∉ [p] := fun h z => by rw [List.mem_singleton.mp z, hp] at h; cases h
    have np' : ∀ {b xs}, H b = some (.tup xs) → b ∉ [p] := fun h z => by rw [List.mem_singleton.mp z, hp] at h; cases h
    walk_at "st"
    have hl := hL.1.2
    refine ⟨l, zs, rfl, .of (xA _ _ (np pt.l) pt.l), by omega, fun l1 zs' n1 pz so => ?_⟩
    have sB := (Same.refl HA).upd (o := .lst (zs'.map V.str)) n1
    refine ⟨l1, zs'.map V.str, rfl, Or.inl ⟨.of upd_same, fun lt n2 => ?_⟩⟩
    have sC := sB.upd (o := .tup (zs'.map V.str)) n2
    have eC : (upd (upd HA l1 (.lst (zs'.map V.str))) lt (.tup (zs'.map V.str))) lt = some (.tup (zs'.map V.str)) := upd_same
    have fC : HA lt = none := sB.free n2
    generalize upd (upd HA l1 (.lst (zs'.map V.str))) lt (.tup (zs'.map V.str)) = HC at sC eC ⊢
    walk_at "st"
    refine ⟨p, C, dx, _, rfl, sC _ _ pA, pc.cls, pc.n, (by show 1 < 1000; decide), ?_⟩
    generalize hD : upd HC p (.ins C dx (putF "lines" (.ref lt) [("long", .int long)])) = HD
    have nlt : lt ≠ p := fun z => by rw [z, pA] at fC; cases fC
    have xD : SameX [p] H HD := fun b o hb e => by rw [← hD, upd_ne (by simpa using hb)]; exact sC _ _ (xA _ _ hb e)
    have pD : HD p = some (.ins C dx [("long", .int long), ("lines", .ref lt)]) := hD ▸ upd_same
    have eD : HD lt = some (.tup (zs'.map V.str)) := by rw [← hD, upd_ne nlt]; exact eC
    walk_at "st"
    refine ⟨p, C, dx, _, rfl, pD, pc.cls, pc.s, (by show 2 < 1000; decide), ?_⟩
    generalize hE : upd HD p (.ins C dx (putF "seekers" (.int seekers) [("long", .int long), ("lines", .ref lt)])) = HE
    have xE : SameX [p] H HE := fun b o hb e => by rw [← hE, upd_ne (by simpa using hb)]; exact xD _ _ hb e
    have pE : HE p = some (.ins C dx [("long", .int long), ("lines", .ref lt), ("seekers", .int seekers)]) := hE ▸ upd_same
    have eE : HE lt = some (.tup (zs'.map V.str)) := by rw [← hE, upd_ne nlt]; exact eD
    walk_at "st"
    have layE : Lay HE ts := fun t m => xE _ _ (np' (pt.lay t m)) (pt.lay t m)
    have hg := hG.1
    refine ⟨g, ts, rfl, .of (xE _ _ (np pt.g) pt.g), layE, hG.2.2, by omega, fun l3 ts' n3 pts so3 => ?_⟩
    have sF := (Same.refl HE).upd (o := .lst (ts'.map prV)) n3
    refine ⟨l3, ts'.map prV, rfl, Or.inl ⟨.of upd_same, fun gt n4 => ?_⟩⟩
    have sG := sF.upd (o := .tup (ts'.map prV)) n4
    have eG : (upd (upd HE l3 (.lst (ts'.map prV))) gt (.tup (ts'.map prV))) gt = some (.tup (ts'.map prV)) := upd_same
    have fG : HE gt = none := sF.free n4
    generalize upd (upd HE l3 (.lst (ts'.map prV))) gt (.tup (ts'.map prV)) = HG at sG eG ⊢
    walk_at "st"
    refine ⟨p, C, dx, _, rfl, sG _ _ pE, pc.cls, pc.g, (by show 3 < 1000; decide), ?_⟩
    have ngt : gt ≠ p := fun z => by rw [z, pE] at fG; cases fG
    refine q1 ⟨hC, hL, hG⟩ _ lt gt zs' ts' (fun b o hb e => by rw [upd_ne (by simpa using hb)]; exact sG _ _ (xE _ _ hb e)) upd_same ?_ ?_ pz so pts so3
    · rw [upd_ne nlt]; exact sG _ _ eE
    · rw [upd_ne ngt]; exact eG
end
end Lw

set_option Elab.async false
set_option linter.all false
set_option maxRecDepth 100000
set_option maxHeartbeats 4000000
set_option pp.deepTerms false
set_option pp.deepTerms.threshold 8
set_option pp.maxSteps 1500
namespace Lw
open PySem L2
local macro_rules | `(tactic| walk_at "st") => `(tactic| repeat (first
  | refine ⟨_, rfl, ?_⟩
  | refine ⟨_, _, rfl, rfl, ?_⟩
  | refine ⟨_, _, rfl, ?_⟩
  | refine Or.inl ⟨_, _, rfl, rfl, ?_⟩
  | refine Or.inl ⟨rfl, ?_⟩
  | refine ⟨rfl, ?_⟩
  | refine Or.inl ⟨_, _, _, _, rfl, rfl, .of (by assumption), rfl, ?_⟩
  | (refine And.intro (show CMul _ _ from ?_) ?_; (first | exact Or.inr ⟨by omega, by omega⟩ | exact Or.inl ⟨by omega, by omega⟩))
  | (refine And.intro (show CDiv _ _ from ?_) ?_; exact ⟨by omega, by omega⟩)
  | (refine And.intro (show (0 : Int) < _ from ?_) ?_; first | decide | omega)))
theorem strOk_asc {z : Str} (h : Asc z) : PyData.canLay0 (.str z) = true := by
  show z.cps.all (· < 0x110000) = true
  rw [← Array.all_toList, List.all_eq_true]
  intro c hc
  have := h c hc
  simp only [decide_eq_true_eq]
  omega
theorem strs_lay : ∀ {zs : List Str}, (∀ z ∈ zs, Asc z) → PyData.canLayAll0 (zs.map PyData.str) = true ∧ PyData.depthAll (zs.map PyData.str) ≤ 1
  | [], _ => ⟨rfl, by decide⟩
  | z :: zs, h => by
    obtain ⟨i1, i2⟩ := strs_lay fun y hy => h y (List.mem_cons_of_mem _ hy)
    refine ⟨?_, ?_⟩
    · show (PyData.canLay0 _ && PyData.canLayAll0 _) = true
      rw [strOk_asc (h z List.mem_cons_self), i1]; rfl
    · show max (PyData.depth (.str z)) (PyData.depthAll _) ≤ 1
      refine Nat.max_le.mpr ⟨?_, i2⟩
      simp [PyData.depth]
theorem isAll_strs {K : PySem.W.Frag} {H : Hp} : ∀ zs : List Str, IsAll K H (zs.map V.str) (zs.map PyData.str)
  | [] => .nil
  | z :: zs => .cons (.str z) (isAll_strs zs)
theorem dep_tup (ds : List PyData) : PyData.depth (.tuple ds) = PyData.depthAll ds + 1 := by simp [PyData.depth]
theorem dep_lst (ds : List PyData) : PyData.depth (.list ds) = PyData.depthAll ds + 1 := by simp [PyData.depth]
end Lw

set_option Elab.async false
set_option linter.all false
set_option maxRecDepth 100000
set_option maxHeartbeats 4000000
set_option pp.deepTerms false
set_option pp.deepTerms.threshold 8
set_option pp.maxSteps 1500
namespace Lw
open PySem L2
local macro_rules | `(tactic| walk_at "st") => `(tactic| repeat (first
  | refine ⟨_, rfl, ?_⟩
  | refine ⟨_, _, rfl, rfl, ?_⟩
  | refine ⟨_, _, rfl, ?_⟩
  | refine Or.inl ⟨_, _, rfl, rfl, ?_⟩
  | refine Or.inl ⟨rfl, ?_⟩
  | refine ⟨rfl, ?_⟩
  | refine Or.inl ⟨_, _, _, _, rfl, rfl, .of (by assumption), rfl, ?_⟩
  | (refine And.intro (show CMul _ _ from ?_) ?_; (first | exact Or.inr ⟨by omega, by omega⟩ | exact Or.inl ⟨by omega, by omega⟩))
  | (refine And.intro (show CDiv _ _ from ?_) ?_; exact ⟨by omega, by omega⟩)
  | (refine And.intro (show (0 : Int) < _ from ?_) ?_; first | decide | omega)))
theorem pickI {xs : List Int} {i : Int} (h0 : 0 ≤ i) (h1 : i < xs.length) : ∃ z, atI (xs.map V.int) i = some (.int z) ∧ z ∈ xs := by
  obtain ⟨v, e1, e2⟩ := atI_in (xs := xs.map V.int) h0 (by rw [List.length_map]; exact h1)
  rw [List.getElem?_map] at e2
  cases q : xs[i.toNat]? with
  | none => rw [q] at e2; cases e2
  | some z => rw [q] at e2; cases e2; exact ⟨z, e1, List.mem_of_getElem? q⟩
theorem pickS {xs : List Str} {i : Int} (h0 : 0 ≤ i) (h1 : i < xs.length) : ∃ z, atI (xs.map V.str) i = some (.str z) ∧ z ∈ xs := by
  obtain ⟨v, e1, e2⟩ := atI_in (xs := xs.map V.str) h0 (by rw [List.length_map]; exact h1)
  rw [List.getElem?_map] at e2
  cases q : xs[i.toNat]? with
  | none => rw [q] at e2; cases e2
  | some z => rw [q] at e2; cases e2; exact ⟨z, e1, List.mem_of_getElem? q⟩
theorem inV_str (z : Str) (ks : List Str) : inV (.str z) (ks.map V.str) = decide (z ∈ ks) := by
  unfold inV
  rw [List.any_map, Bool.eq_iff_iff, List.any_eq_true, decide_eq_true_eq]
  constructor
  · rintro ⟨k, hk, e⟩
    have e' : decide (k = z) = true := by simpa [eqV] using e
    rw [← of_decide_eq_true e']; exact hk
  · exact fun h => ⟨z, h, by simp [eqV]⟩
theorem flat_str (ks : List Str) : (ks.map V.str).all flatV = true := by
  rw [List.all_map, List.all_eq_true]
  exact fun _ _ => rfl
theorem eight {row : List Int} (h : row.length = (8 : Int).toNat) : ∃ v0 v1 v2 v3 v4 v5 v6 v7, row = [v0, v1, v2, v3, v4, v5, v6, v7] := by
  match row, h with
  | [v0, v1, v2, v3, v4, v5, v6, v7], _ => exact ⟨_, _, _, _, _, _, _, _, rfl⟩
theorem Lay.put {H : Hp} {ts : List Pr} {g : Addr} {xs : List V} {o : HO} (h : Lay H ts) (hg : H g = some (.lst xs)) : Lay (upd H g o) ts := fun t m => by
  rw [upd_ne (ne_of (h t m) hg (by intro z; cases z))]; exact h t m
theorem cut_list {z : Str} {k : Int} (h0 : 0 ≤ k) : (cutS z none (some k)).cps.toList = z.cps.toList.take k.toNat := by
  obtain ⟨n, rfl⟩ := Int.eq_ofNat_of_zero_le h0
  show (cutC z.cps.toList none (some (n : Int))).toArray.toList = _
  unfold cutC
  rw [HT.sIx_nat, HT.sIx_none, List.drop_zero, Nat.sub_zero]
  have : (n : Int).toNat = n := rfl
  rw [this]
  simp only [List.toList_toArray]
  by_cases h : n ≤ z.cps.toList.length
  · rw [Nat.min_eq_left h]
  · rw [Nat.min_eq_right (by omega), List.take_length, List.take_of_length_le (by omega)]
theorem cut_len {z : Str} {k : Int} (h0 : 0 ≤ k) (h1 : k ≤ z.length) : (cutS z none (some k)).length = k.toNat := by
  rw [len_list, cut_list h0, List.length_take, ← len_list]
  omega
theorem cut_dig {z : Str} {k : Int} (h0 : 0 ≤ k) (h : Dig z) : Dig (cutS z none (some k)) := fun c hc => by
  rw [cut_list h0] at hc
  exact h c (List.mem_of_mem_take hc)
theorem app_dig {x y : Str} (hx : Dig x) (hy : Dig y) : Dig (x ++ y) := fun c hc => by
  rw [app_list] at hc
  rcases List.mem_append.mp hc with h | h
  · exact hx c h
  · exact hy c h
theorem cutV_int (ns : List Int) (k : Int) (h0 : 0 ≤ k) : cutV (ns.map V.int) none (some k) = (ns.take k.toNat).map V.int := by
  obtain ⟨n, rfl⟩ := Int.eq_ofNat_of_zero_le h0
  unfold cutV
  rw [HT.sIx_nat, HT.sIx_none, List.drop_zero, Nat.sub_zero, ← List.map_take, List.length_map]
  have : (n : Int).toNat = n := rfl
  rw [this]
  by_cases h : n ≤ ns.length
  · rw [Nat.min_eq_left h]
  · rw [Nat.min_eq_right (by omega), List.take_length, List.take_of_length_le (by omega)]
def preS (z : Str) (k : Nat) : Str := cutS z none (some (1 + (k : Int)))
def newHeads (z : Str) (hs : List Str) (n : Nat) : List Str := ((List.range n).map (preS z)).filter fun y => !decide (y ∈ hs)
theorem newHeads_succ (z : Str) (hs : List Str) (n : Nat) : newHeads z hs (n + 1) = newHeads z hs n ++ if preS z n ∈ hs then [] else [preS z n] := by
  unfold newHeads
  rw [List.range_succ, List.map_append, List.filter_append]
  congr 1
  show List.filter _ [preS z n] = _
  rw [List.filter_cons, List.filter_nil]
  by_cases h : preS z n ∈ hs
  · rw [if_pos h, decide_eq_true h]; rfl
  · rw [if_neg h, decide_eq_false h]; rfl
theorem newHeads_len (z : Str) (hs : List Str) (n : Nat) : (newHeads z hs n).length ≤ n := by
  unfold newHeads
  have := List.length_filter_le (fun y => !decide (y ∈ hs)) ((List.range n).map (preS z))
  rwa [List.length_map, List.length_range] at this
theorem preS_len {z : Str} {k : Nat} (h : k + 1 ≤ z.length) : (preS z k).length = k + 1 := by
  unfold preS
  rw [cut_len (by omega) (by omega)]
  omega
theorem newHeads_ok {z : Str} {hs : List Str} {n : Nat} (hn : n + 1 ≤ z.length) (hd : Dig z) (nd : hs.Nodup) : (hs ++ newHeads z hs n).Nodup ∧ ∀ y ∈ newHeads z hs n, (1 ≤ y.length ∧ y.length ≤ n) ∧ Dig y := by
  constructor
  · refine List.nodup_append.mpr ⟨nd, ?_, fun x hx y hy e => ?_⟩
    · unfold newHeads
      refine List.Pairwise.filter _ (List.pairwise_map.mpr (List.Pairwise.imp_of_mem (fun {i j} hi hj ne e => ?_) (List.nodup_range (n := n))))
      have h1 := List.mem_range.mp hi
      have h2 := List.mem_range.mp hj
      have := congrArg Str.length e
      rw [preS_len (by omega), preS_len (by omega)] at this
      omega
    · subst e
      have := (List.mem_filter.mp hy).2
      rw [decide_eq_true hx] at this
      cases this
  · intro y hy
    obtain ⟨k, hk, rfl⟩ := List.mem_map.mp (List.mem_filter.mp hy).1
    have := List.mem_range.mp hk
    rw [preS_len (by omega)]
    exact ⟨⟨by omega, by omega⟩, cut_dig (by omega) hd⟩
def spLawPlan (K : PySem.W.Frag) : Sp := fun vs H Q _ => ∃ (p : Addr) (ns : List Int) (at_ : Int), vs = [.ref p, .int at_] ∧ SqL K H p (ns.map V.int) ∧ ns.length ≤ 63 ∧ 0 ≤ at_ ∧ at_ < 900 ∧
  ∀ (H' : Hp) (t : Addr) (long : Int) (l : Addr) (seekers : Int) (g : Addr) (zs : List Str) (ts : List Pr), Same H H' → H' t = some (.tup [.int long, .ref l, .int seekers, .ref g]) → H' l = some (.lst (zs.map V.str)) → H' g = some (.lst (ts.map prV)) → Lay H' ts → Good long seekers zs ts → H t = none → H l = none → H g = none → l ≠ g → (∀ t ∈ ts, H t.1 = none) → Q (.ref t) H'
section
variable {P : Program} {w : World} {K : PySem.W.Frag} {mg : Str → Option Value} {base : Heap} {a : Adr}
theorem sc_law_plan : FnScope ["script", "at", "plan", "long", "many", "draws", "stems", "lines", "k", "keep", "stem", "line", "heads", "groups", "draw", "seekers"] ["script", "at"] (defScope (top 30)) := ⟨rfl, rfl, rfl, by decide +kernel, rfl, by decide +kernel, by decide +kernel⟩
theorem nm_law_plan_script : Nm (defScope (top 30)) "script" := ⟨by decide +kernel, by decide +kernel, by decide +kernel⟩
theorem nm_law_plan_at : Nm (defScope (top 30)) "at" := ⟨by decide +kernel, by decide +kernel, by decide +kernel⟩
theorem nm_law_plan_plan : Nm (defScope (top 30)) "plan" := ⟨by decide +kernel, by decide +kernel, by decide +kernel⟩
theorem nm_law_plan_long : NmC (defScope (top 30)) "long" := ⟨by decide +kernel, by decide +kernel, by decide +kernel⟩
theorem nm_law_plan_many : Nm (defScope (top 30)) "many" := ⟨by decide +kernel, by decide +kernel, by decide +kernel⟩
theorem nm_law_plan_draws : Nm (defScope (top 30)) "draws" := ⟨by decide +kernel, by decide +kernel, by decide +kernel⟩
theorem nm_law_plan_stems : Nm (defScope (top 30)) "stems" := ⟨by decide +kernel, by decide +kernel, by decide +kernel⟩
theorem nm_law_plan_lines : Nm (defScope (top 30)) "lines" := ⟨by decide +kernel, by decide +kernel, by decide +kernel⟩
theorem nm_law_plan_k : Nm (defScope (top 30)) "k" := ⟨by decide +kernel, by decide +kernel, by decide +kernel⟩
theorem nm_law_plan_keep : Nm (defScope (top 30)) "keep" := ⟨by decide +kernel, by decide +kernel, by decide +kernel⟩
theorem nm_law_plan_stem : Nm (defScope (top 30)) "stem" := ⟨by decide +kernel, by decide +kernel, by decide +kernel⟩
theorem nm_law_plan_line : NmC (defScope (top 30)) "line" := ⟨by decide +kernel, by decide +kernel, by decide +kernel⟩
theorem nm_law_plan_heads : NmC (defScope (top 30)) "heads" := ⟨by decide +kernel, by decide +kernel, by decide +kernel⟩
theorem nm_law_plan_groups : Nm (defScope (top 30)) "groups" := ⟨by decide +kernel, by decide +kernel, by decide +kernel⟩
theorem nm_law_plan_draw : Nm (defScope (top 30)) "draw" := ⟨by decide +kernel, by decide +kernel, by decide +kernel⟩
theorem nm_law_plan_seekers : Nm (defScope (top 30)) "seekers" := ⟨by decide +kernel, by decide +kernel, by decide +kernel⟩
theorem gm_law_plan_len : Gm (defScope (top 30)) "len" := ⟨by decide +kernel, by decide +kernel, by decide +kernel⟩
theorem gm_law_plan_range : Gm (defScope (top 30)) "range" := ⟨by decide +kernel, by decide +kernel, by decide +kernel⟩
theorem gm_law_plan_min : Gm (defScope (top 30)) "min" := ⟨by decide +kernel, by decide +kernel, by decide +kernel⟩
theorem gm_law_plan__law_number : Gm (defScope (top 30)) "_law_number" := ⟨by decide +kernel, by decide +kernel, by decide +kernel⟩
theorem gm_law_plan__law_draws : Gm (defScope (top 30)) "_law_draws" := ⟨by decide +kernel, by decide +kernel, by decide +kernel⟩
def csc_law_plan_0 : Scope := { kind := .function, names := [(".0", .local), ("size", .local), ("heads", .free), ("line", .free)], isGenerator := false, isCoroutine := false, more := [] }
theorem cs_law_plan_0 : CompSc csc_law_plan_0 (defScope (top 30)) ["size", "heads", "line"] ["script", "at", "plan", "long", "many", "draws", "stems", "lines", "k", "keep", "stem", "line", "heads", "groups", "draw", "seekers"] [none, some 12, some 11] := CompSc.mk' rfl (by decide +kernel) (by decide +kernel) (by decide +kernel) (by decide +kernel) rfl (by decide +kernel)
theorem nmc_law_plan_0_size : Nm csc_law_plan_0 "size" := ⟨by decide +kernel, by decide +kernel, by decide +kernel⟩
theorem nmc_law_plan_0_heads : NmR csc_law_plan_0 "heads" := ⟨by decide +kernel, by decide +kernel, by decide +kernel⟩
theorem nmc_law_plan_0_line : NmR csc_law_plan_0 "line" := ⟨by decide +kernel, by decide +kernel, by decide +kernel⟩
def csc_law_plan_1 : Scope := { kind := .function, names := [(".0", .local), ("draw", .local), ("_law_number", .globalImplicit), ("long", .free)], isGenerator := false, isCoroutine := false, more := [] }
theorem cs_law_plan_1 : CompSc csc_law_plan_1 (defScope (top 30)) ["draw", "long"] ["script", "at", "plan", "long", "many", "draws", "stems", "lines", "k", "keep", "stem", "line", "heads", "groups", "draw", "seekers"] [none, some 3] := CompSc.mk' rfl (by decide +kernel) (by decide +kernel) (by decide +kernel) (by decide +kernel) rfl (by decide +kernel)
theorem nmc_law_plan_1_draw : Nm csc_law_plan_1 "draw" := ⟨by decide +kernel, by decide +kernel, by decide +kernel⟩
theorem nmc_law_plan_1_long : NmR csc_law_plan_1 "long" := ⟨by decide +kernel, by decide +kernel, by decide +kernel⟩
theorem gmc_law_plan_1__law_number : Gm csc_law_plan_1 "_law_number" := ⟨by decide +kernel, by decide +kernel, by decide +kernel⟩
theorem ok_lawplan {f : Addr} {fd : FuncData} (F : Fun K "_law_plan" "_law_plan" (top 30) f fd) (T : TxtP K mg a) (D_law_draws : FnIn P w K mg base CX0 2 "_law_draws" ["script", "k", "many", "base"] (spDraws K)) (D_law_number : FnIn P w K mg base CX0 1 "_law_number" ["draw", "long"] spNumber) :
    FnOk P w K mg base CX0 3 f fd ["script", "at"] (spLawPlan K) := by
  refine F.ok sc_law_plan (fun vs H Q E h => ?_) (fun cdv A outer s H vs Q E hr h => ?_)
  · obtain ⟨p, ns, at_, rfl, _⟩ := h
    rfl
  · obtain ⟨p, ns, at_, rfl, hS, hn, a0, a1, q⟩ := h
    have hu := hr.units
    have nd := sc_law_plan.nd
    refine ⟨_, (@pss_cons _ _ _ _ _ (ps_nm 2 nd nm_law_plan_plan (pe_fd D_law_draws gm_law_plan__law_draws (hr.mono (by decide)) pass0 (pa_cons (pvN 0 nm_law_plan_script) (pa_cons (pvN 1 nm_law_plan_at) (pa_cons pe_int (pa_cons pe_int pa_nil))))))
        (pss_cons (ps_nmC 3 nd nm_law_plan_long (pe_ix ix_seq (pe_lst (pa_consts rfl)) (pe_op op_mod (pe_ix ix_seq (pvN 2 nm_law_plan_plan) pe_int (fun _ _ => rfl)) pe_int) (fun _ _ => rfl)))
        (pss_cons (ps_nm 4 nd nm_law_plan_many (pe_ix ix_seq (pe_lst (pa_cons (pe_op op_addG pe_int (pe_op op_mod (pe_ix ix_seq (pvN 2 nm_law_plan_plan) pe_int (fun _ _ => rfl)) pe_int)) (pa_cons (pe_op op_addG pe_int (pe_op op_mod (pe_ix ix_seq (pvN 2 nm_law_plan_plan) pe_int (fun _ _ => rfl)) pe_int)) (pa_cons pe_int (pa_cons (pe_op op_addG pe_int (pe_op op_mod (pe_ix ix_seq (pvN 2 nm_law_plan_plan) pe_int (fun _ _ => rfl)) pe_int)) pa_nil))))) (pe_op op_mod (pe_ix ix_seq (pvN 2 nm_law_plan_plan) pe_int (fun _ _ => rfl)) pe_int) (fun _ _ => rfl)))
        (pss_cons (ps_nm 5 nd nm_law_plan_draws (pe_fd D_law_draws gm_law_plan__law_draws (hr.mono (by decide)) pass0 (pa_cons (pvN 0 nm_law_plan_script) (pa_cons (pe_op op_addG (pvN 1 nm_law_plan_at) pe_int) (pa_cons pe_int (pa_cons pe_int pa_nil))))))
        (pss_cons (ps_setC (j := 6) rfl nd rfl (Or.inl nm_law_plan_stems.loc) cs_law_plan_1 (pi_list (pe_slice sl_G (pvN 5 nm_law_plan_draws) po_none (po_some (pe_op op_addG pe_int (pe_op op_mod (pe_ix ix_seq (pvN 2 nm_law_plan_plan) pe_int (fun _ _ => rfl)) pe_int))))) (fun cl C fp pins s₂ H₂ => (pg_nm 0 cs_law_plan_1.nd nmc_law_plan_1_draw.comp)) (fun cl C fp pins s₂ H₂ => pts_nil) (fun cl C fp pins s₂ H₂ => (pe_fd D_law_number gmc_law_plan_1__law_number.comp (hr.mono (by decide)) pass0 (pa_cons (pvN 0 nmc_law_plan_1_draw.comp) (pa_cons (pvF 1 nmc_law_plan_1_long.comp) pa_nil)))) (by rfl) (by intro _; rfl) (Or.inl rfl))
        (pss_cons (ps_nm 7 nd nm_law_plan_lines (pe_lst pa_nil))
        (pss_cons (ps_for PassesOwn.never rfl (pi_r1 gm_law_plan_range T.n_range (pa_cons (pvN 4 nm_law_plan_many) pa_nil)) (pg_nm 8 nd nm_law_plan_k) (pss_cons (ps_nm 9 nd nm_law_plan_keep (pe_ix ix_seq (pe_lst (pa_cons (pe_op op_sub (pvC 3 nm_law_plan_long) pe_int) (pa_cons (pe_op op_sub (pvC 3 nm_law_plan_long) pe_int) (pa_cons (pe_op op_sub (pvC 3 nm_law_plan_long) pe_int) (pa_cons pe_int pa_nil))))) (pe_op op_mod (pe_op op_fdiv (pe_ix ix_seq (pvN 5 nm_law_plan_draws) (pvN 8 nm_law_plan_k) (fun _ _ => rfl)) pe_int) pe_int) (fun _ _ => rfl)))
          (pss_cons (ps_nm 10 nd nm_law_plan_stem (pe_slice sl_G (pe_ix ix_seq (pvN 6 nm_law_plan_stems) (pe_op op_mod (pe_ix ix_seq (pvN 5 nm_law_plan_draws) (pvN 8 nm_law_plan_k) (fun _ _ => rfl)) (pe_cb call_lenG gm_law_plan_len T.n_len bt_len (pa_cons (pvN 6 nm_law_plan_stems) pa_nil))) (fun _ _ => rfl)) po_none (po_some (pvN 9 nm_law_plan_keep))))
          (pss_cons (ps_nmC 11 nd nm_law_plan_line (pe_op op_addG (pvN 10 nm_law_plan_stem) (pe_fd D_law_number gm_law_plan__law_number (hr.mono (by decide)) pass0 (pa_cons (pe_op op_addG (pe_op op_mulG (pe_op op_fdiv (pe_ix ix_seq (pvN 5 nm_law_plan_draws) (pvN 8 nm_law_plan_k) (fun _ _ => rfl)) pe_int) pe_int) (pe_op op_mulG (pvN 8 nm_law_plan_k) (pvN 8 nm_law_plan_k))) (pa_cons (pe_op op_sub (pvC 3 nm_law_plan_long) (pvN 9 nm_law_plan_keep)) pa_nil)))))
          (pss_one (ps_if (pt_cmpR op_notInG (pvC 11 nm_law_plan_line) (pvN 7 nm_law_plan_lines) (by with_unfolding_all rfl)) (pss_one (ps_expr (pe_bm PySem.F.plainAttrs_list PySem.F.slot_list_append PySem.F.type_list_append mt_append (pvN 7 nm_law_plan_lines) (pa_cons (pvC 11 nm_law_plan_line) pa_nil)))) pss_nil))))))
        (pss_cons (ps_nmC 12 nd nm_law_plan_heads (pe_lst pa_nil))
        (pss_cons (ps_for PassesOwn.never rfl (pi_list (pe_op op_addG (pvN 7 nm_law_plan_lines) (pe_lst (pa_cons (pe_fd D_law_number gm_law_plan__law_number (hr.mono (by decide)) pass0 (pa_cons (pe_ix ix_seq (pvN 2 nm_law_plan_plan) pe_int (fun _ _ => rfl)) (pa_cons (pvC 3 nm_law_plan_long) pa_nil))) pa_nil)))) (pg_nmC 11 nd nm_law_plan_line) (pss_one (ps_expr (pe_bm PySem.F.plainAttrs_list PySem.F.slot_list_extend PySem.F.type_list_extend mt_extend (pvC 12 nm_law_plan_heads) (pa_cons (pe_comp rfl cs_law_plan_0 (pi_r2 gm_law_plan_range T.n_range (pa_cons pe_int (pa_cons (pe_op op_sub (pvC 3 nm_law_plan_long) pe_int) pa_nil))) (fun cl C fp pins s₂ H₂ => (pg_nm 0 cs_law_plan_0.nd nmc_law_plan_0_size.comp)) (fun cl C fp pins s₂ H₂ => (pts_one (pt_cmpR (op_notInGB K rfl) (pe_slice (sl_GB K rfl) (pvF 2 nmc_law_plan_0_line.comp) po_none (po_some (pvN 0 nmc_law_plan_0_size.comp))) (pvF 1 nmc_law_plan_0_heads.comp) (by with_unfolding_all rfl)))) (fun cl C fp pins s₂ H₂ => (pe_slice (sl_GB K rfl) (pvF 2 nmc_law_plan_0_line.comp) po_none (po_some (pvN 0 nmc_law_plan_0_size.comp))))) pa_nil)))))
        (pss_cons (ps_nm 13 nd nm_law_plan_groups (pe_lst pa_nil))
        (pss_cons (ps_for PassesOwn.never rfl (pi_r1 gm_law_plan_range T.n_range (pa_cons (pe_cb (call_min2 rfl) gm_law_plan_min T.n_min bt_min (pa_cons pe_int (pa_cons (pe_cb call_lenG gm_law_plan_len T.n_len bt_len (pa_cons (pvC 12 nm_law_plan_heads) pa_nil)) pa_nil))) pa_nil)) (pg_nm 8 nd nm_law_plan_k) (pss_cons (ps_nm 14 nd nm_law_plan_draw (pe_op op_fdiv (pe_ix ix_seq (pvN 5 nm_law_plan_draws) (pe_op op_sub pe_int (pvN 8 nm_law_plan_k)) (fun _ _ => rfl)) pe_int))
          (pss_one (ps_if (pt_cmpR op_gt (pe_op op_mod (pvN 14 nm_law_plan_draw) pe_int) pe_int (nomark _)) (pss_one (ps_expr (pe_bm PySem.F.plainAttrs_list PySem.F.slot_list_append PySem.F.type_list_append mt_append (pvN 13 nm_law_plan_groups) (pa_cons (pe_tup (pa_cons (pe_ix ix_seq (pvC 12 nm_law_plan_heads) (pvN 8 nm_law_plan_k) (fun _ _ => rfl)) (pa_cons (pe_ix ix_seq (pe_lst (pa_cons (pe_op op_addG pe_int (pe_op op_mod (pe_op op_fdiv (pvN 14 nm_law_plan_draw) pe_int) pe_int)) (pa_cons (pe_op op_mod (pe_op op_fdiv (pvN 14 nm_law_plan_draw) pe_int) pe_int) (pa_cons pe_int pa_nil)))) (pe_op op_mod (pe_op op_fdiv (pvN 14 nm_law_plan_draw) pe_int) pe_int) (fun _ _ => rfl)) pa_nil))) pa_nil)))) pss_nil))))
        (pss_cons (ps_nm 15 nd nm_law_plan_seekers (pe_ix ix_seq (pe_lst (pa_cons (pe_op op_addG pe_int (pe_op op_mod (pe_ix ix_seq (pvN 2 nm_law_plan_plan) pe_int (fun _ _ => rfl)) pe_int)) (pa_cons (pe_op op_addG pe_int (pe_op op_mod (pe_ix ix_seq (pvN 2 nm_law_plan_plan) pe_int (fun _ _ => rfl)) pe_int)) (pa_cons (pe_cb call_lenG gm_law_plan_len T.n_len bt_len (pa_cons (pvN 7 nm_law_plan_lines) pa_nil)) (pa_cons (pe_op op_addG pe_int (pe_op op_mod (pe_ix ix_seq (pvN 2 nm_law_plan_plan) pe_int (fun _ _ => rfl)) pe_int)) pa_nil))))) (pe_op op_mod (pe_ix ix_seq (pvN 2 nm_law_plan_plan) pe_int (fun _ _ => rfl)) pe_int) (fun _ _ => rfl)))
        (pss_one (ps_ret (pe_tup (pa_cons (pvC 3 nm_law_plan_long) (pa_cons (pvN 7 nm_law_plan_lines) (pa_cons (pvN 15 nm_law_plan_seekers) (pa_cons (pvN 13 nm_law_plan_groups) pa_nil))))))))))))))))))), ?_⟩
    walk_at "st"
    refine ⟨p, ns, at_, _, _, rfl, hS, a0, by omega, hn, by decide, by decide, by decide, by decide, fun r row H1 s1 nr hr1 hl1 hb1 => ?_⟩
    obtain ⟨v0, v1, v2, v3, v4, v5, v6, v7, rfl⟩ := eight hl1
    have b0 := hb1 v0 (by simp)
    have b1 := hb1 v1 (by simp)
    have b2 := hb1 v2 (by simp)
    have b3 := hb1 v3 (by simp)
    have b4 := hb1 v4 (by simp)
    have b5 := hb1 v5 (by simp)
    have b6 := hb1 v6 (by simp)
    clear hb1 hl1
    walk_at "st"
    refine ⟨by decide, fun l1 n1 => ?_⟩
    have s2 := s1.upd (o := .lst [V.int 3, V.int 4, V.int 2, V.int 4]) n1
    have hr2 := ((Same.refl H1).upd (o := .lst [V.int 3, V.int 4, V.int 2, V.int 4]) n1) _ _ hr1
    obtain ⟨long, el, ml⟩ := pickI (xs := [3, 4, 2, 4]) (i := v0 % 4) (by omega) (by show v0 % 4 < 4; omega)
    have hlong : 2 ≤ long ∧ long ≤ 4 := by
      simp only [List.mem_cons, List.not_mem_nil, or_false] at ml
      rcases ml with h | h | h | h <;> omega
    walk_at "st"
    refine Or.inl ⟨l1, _, _, _, rfl, rfl, .of upd_same, el, ?_⟩
    generalize upd H1 l1 (.lst [V.int 3, V.int 4, V.int 2, V.int 4]) = H2 at s2 hr2 ⊢
    walk_at "st"
    refine ⟨(by show 4 ≤ sizeLine; decide), fun l2 n2 => ?_⟩
    have s3 := s2.upd (o := .lst [V.int (2 + v1 % 9), V.int (1 + v1 % 60), V.int 6, V.int (1 + v1 % 24)]) n2
    have hr3 := ((Same.refl H2).upd (o := .lst [V.int (2 + v1 % 9), V.int (1 + v1 % 60), V.int 6, V.int (1 + v1 % 24)]) n2) _ _ hr2
    obtain ⟨many, em, mm⟩ := pickI (xs := [2 + v1 % 9, 1 + v1 % 60, 6, 1 + v1 % 24]) (i := v2 % 4) (by omega) (by show v2 % 4 < 4; omega)
    have hmany : 1 ≤ many ∧ many ≤ 60 := by
      simp only [List.mem_cons, List.not_mem_nil, or_false] at mm
      rcases mm with h | h | h | h <;> omega
    walk_at "st"
    refine Or.inl ⟨l2, _, _, _, rfl, rfl, .of upd_same, em, ?_⟩
    generalize upd H2 l2 (.lst [V.int (2 + v1 % 9), V.int (1 + v1 % 60), V.int 6, V.int (1 + v1 % 24)]) = H3 at s3 hr3 ⊢
    clear em mm el ml
    walk_at "st"
    refine ⟨p, ns, at_ + 1, _, _, rfl, s3.seq hS, by omega, by omega, hn, by decide, by decide, by decide, by decide, fun d dr H4 s4' nd4 hd4 hld hbd => ?_⟩
    have s4 := s3.trans s4'
    have hr4 := s4' _ _ hr3
    have hld : dr.length = 60 := hld
    walk_at "st"
    refine Or.inr ⟨d, _, rfl, .of hd4, fun sl nsl => ?_⟩
    rw [cutV_int _ _ (by omega)]
    have s5 := s4.upd (o := .lst ((dr.take (1 + v3 % 6).toNat).map V.int)) nsl
    have t5 := (Same.refl H4).upd (o := .lst ((dr.take (1 + v3 % 6).toNat).map V.int)) nsl
    have hr5 := t5 _ _ hr4
    have hd5 := t5 _ _ hd4
    have hs5 : (upd H4 sl (.lst ((dr.take (1 + v3 % 6).toNat).map V.int))) sl = some (.lst ((dr.take (1 + v3 % 6).toNat).map V.int)) := upd_same
    generalize upd H4 sl (.lst ((dr.take (1 + v3 % 6).toNat).map V.int)) = H5 at s5 hr5 hd5 hs5 ⊢
    clear t5
    have lsl : (dr.take (1 + v3 % 6).toNat).length = (1 + v3 % 6).toNat := by rw [List.length_take]; omega
    generalize dr.take (1 + v3 % 6).toNat = sd at hs5 lsl ⊢
    refine ⟨sl, rfl, ⟨_, .of hs5⟩, fun st nst => ?_⟩
    refine comp_list (K := K) (a := sl) (xs := sd.map V.int) (fun i σ H' => ∃ x, σ = [x, some (.int long)] ∧ Same H5 H' ∧ ∃ ss : List Str, ss.length = i ∧ (∀ z ∈ ss, (z.length : Int) = long ∧ Dig z) ∧ H' st = some (.lst (ss.map V.str))) ⟨none, rfl, (Same.refl H5).upd nst, [], rfl, fun z hz => absurd hz (by simp), upd_same⟩ (fun i σ H' _ ⟨_, _, sm, _⟩ => .of (sm _ _ hs5)) ?_ ?_
    · rintro i y σ H' hi ⟨x, rfl, sm, ss, e1, e2, e3⟩
      have ilt : i < sd.length := by have := (List.getElem?_eq_some_iff.mp hi).1; rwa [List.length_map] at this
      rw [List.getElem?_map] at hi
      cases hk : sd[i]? with
      | none => rw [hk] at hi; cases hi
      | some v =>
        rw [hk] at hi; cases hi
        walk_at "st"
        refine ⟨by omega, by omega, fun z hz dz => ?_⟩
        refine ⟨_, e3, ?_, _, rfl, sm.updN nst, ss ++ [z], ?_, ?_, ?_⟩
        · rw [List.length_map, e1, sizeLine_eq]; omega
        · rw [List.length_append, e1]; rfl
        · intro y hy
          rcases List.mem_append.mp hy with m | m
          · exact e2 y m
          · rw [List.mem_singleton.mp m]; exact ⟨by omega, dz⟩
        · rw [upd_same, List.map_append]; rfl
    rintro σ6 H6 ⟨x6, rfl, sm6, ss, ess, hss, hst⟩
    rw [List.length_map, lsl] at ess
    have s6 := s5.trans sm6
    have hr6 := sm6 _ _ hr5
    have hd6 := sm6 _ _ hd5
    clear hs5 hr5 hd5 hr4 hd4 hr3 hr2 hr1
    walk_at "st"
    refine ⟨(by show 0 ≤ sizeLine; decide), fun ln nln => ?_⟩
    have fln : H ln = none := s6.free nln
    walk_at "st"
    refine ⟨by omega, by omega, for_range (n := many.toNat) (fun i σ H2 => ∃ x8 x9 x10 x11, σ = [some (.ref p), some (.int at_), some (.ref r), some (.int long), some (.int many), some (.ref d), some (.ref st), some (.ref ln), x8, x9, x10, x11, none, none, none, none] ∧ Same H6 H2 ∧ ∃ zs : List Str, H2 ln = some (.lst (zs.map V.str)) ∧ zs.Nodup ∧ zs.length ≤ i ∧ (0 < i → 1 ≤ zs.length) ∧ ∀ z ∈ zs, (z.length : Int) = long ∧ Dig z) ?_ ?_ ?_⟩
    · exact ⟨none, none, none, none, rfl, (Same.refl H6).upd nln, [], upd_same, List.nodup_nil, Nat.le_refl _, fun h => absurd h (Nat.lt_irrefl _), fun z hz => absurd hz (by simp)⟩
    · rintro i σ H2 hi ⟨x8, x9, x10, x11, rfl, sm, zs, hz, ndz, lz, pz, oz⟩
      simp only [Int.zero_add]
      have hd2 := sm _ _ hd6
      have hst2 := sm _ _ hst
      have ilt : (i : Int) < dr.length := by omega
      have ei := atI_int (ns := dr) (k := (i : Int)) (by omega) ilt
      have eb : 0 ≤ dr.getD ((i : Int)).toNat 0 ∧ dr.getD ((i : Int)).toNat 0 < 10080 := by
        have hlt : ((i : Int)).toNat < dr.length := by omega
        rw [List.getD, List.getElem?_eq_getElem hlt]
        exact hbd _ (List.getElem_mem hlt)
      generalize dr.getD ((i : Int)).toNat 0 = e at ei eb
      walk_at "st"
      refine ⟨(by show 4 ≤ sizeLine; decide), fun l3 n3 => ?_⟩
      have sm3 := sm.upd (o := .lst [V.int (long - 1), V.int (long - 2), V.int (long - 1), V.int 0]) n3
      have t3 := (Same.refl H2).upd (o := .lst [V.int (long - 1), V.int (long - 2), V.int (long - 1), V.int 0]) n3
      have hd3 := t3 _ _ hd2
      have hst3 := t3 _ _ hst2
      have hz3 := t3 _ _ hz
      obtain ⟨keep, ek, mk⟩ := pickI (xs := [long - 1, long - 2, long - 1, 0]) (i := e / 6 % 4) (by omega) (by show e / 6 % 4 < 4; omega)
      have hkeep : 0 ≤ keep ∧ keep ≤ long := by
        simp only [List.mem_cons, List.not_mem_nil, or_false] at mk
        rcases mk with h | h | h | h <;> omega
      walk_at "st"
      refine Or.inl ⟨d, _, _, _, rfl, rfl, .of hd3, ei, ?_⟩
      walk_at "st"
      refine Or.inl ⟨l3, _, _, _, rfl, rfl, .of upd_same, ek, ?_⟩
      generalize upd H2 l3 (.lst [V.int (long - 1), V.int (long - 2), V.int (long - 1), V.int 0]) = H3' at sm3 hd3 hst3 hz3 ⊢
      clear ek mk t3
      walk_at "st"
      refine Or.inl ⟨d, _, _, _, rfl, rfl, .of hd3, ei, ?_⟩
      walk_at "st"
      refine Or.inr ⟨_, _, rfl, .inl (.of hst3), ?_⟩
      rw [List.length_map]
      have lpos : 0 < (ss.length : Int) := by omega
      walk_at "st"
      obtain ⟨stem, es, ms⟩ := pickS (xs := ss) (i := e % ss.length) (Int.emod_nonneg _ (by omega)) (Int.emod_lt_of_pos _ lpos)
      obtain ⟨ls, ds⟩ := hss stem ms
      refine Or.inl ⟨st, _, _, _, rfl, rfl, .of hst3, es, ?_⟩
      walk_at "st"
      refine Or.inl ⟨stem, rfl, (by rw [sizeLine_eq]; omega), ?_⟩
      walk_at "st"
      refine Or.inl ⟨d, _, _, _, rfl, rfl, .of hd3, ei, ?_⟩
      have ii : (i : Int) < 60 := by omega
      walk_at "st"
      refine ⟨by omega, by omega, fun z2 hz2 dz2 => ?_⟩
      have lc := cut_len (z := stem) hkeep.1 (by omega)
      have dl : Dig (cutS stem none (some keep) ++ z2) := app_dig (cut_dig hkeep.1 ds) dz2
      have ll : ((cutS stem none (some keep) ++ z2).length : Int) = long := by rw [app_len, lc, hz2]; omega
      refine Or.inr (Or.inl ⟨_, _, rfl, rfl, (by rw [lc, hz2, sizeLine_eq]; omega), ?_⟩)
      generalize cutS stem none (some keep) ++ z2 = line at dl ll ⊢
      walk_at "st"
      refine Or.inr ⟨ln, zs.map V.str, rfl, .inl (.of hz3), rfl, flat_str zs, ?_⟩
      simp only [if_true]
      rw [inV_str]
      walk_at "st"
      by_cases hm : line ∈ zs
      · rw [decide_eq_true hm]
        refine iteF ?_
        exact ⟨_, _, _, _, rfl, sm3, zs, hz3, ndz, by omega, fun _ => List.length_pos_of_mem hm, oz⟩
      · rw [decide_eq_false hm]
        refine iteT ?_
        walk_at "st"
        refine ⟨.inl ⟨rfl, _, .of hz3⟩, ?_⟩
        walk_at "st"
        refine ⟨ln, _, _, rfl, rfl, hz3, (by rw [List.length_map, sizeLine_eq]; omega), ?_⟩
        refine ⟨_, _, _, _, rfl, sm3.updN nln, zs ++ [line], ?_, ?_, ?_, ?_, ?_⟩
        · rw [upd_same, List.map_append]; rfl
        · exact List.nodup_append.mpr ⟨ndz, List.nodup_cons.mpr ⟨by simp, List.nodup_nil⟩, fun x hx y hy z => by rw [List.mem_singleton.mp hy] at z; exact hm (z ▸ hx)⟩
        · rw [List.length_append]; simp; omega
        · intro _; rw [List.length_append]; simp
        · intro y hy
          rcases List.mem_append.mp hy with m | m
          · exact oz y m
          · rw [List.mem_singleton.mp m]; exact ⟨ll, dl⟩
    · rintro σ7 H7 ⟨x8, x9, x10, x11, rfl, sm7, zs, hz, ndz, lz, pz, oz⟩
      have lz1 : 1 ≤ zs.length := pz (by omega)
      have lz2 : zs.length ≤ 60 := by omega
      have s7 := s6.trans sm7
      have hr7 := sm7 _ _ hr6
      have hd7 := sm7 _ _ hd6
      clear hst hr6 hd6 pz lz
      walk_at "st"
      refine ⟨(by show 0 ≤ sizeLine; decide), fun hh nhh => ?_⟩
      have fhh : H hh = none := s7.free nhh
      have t8 := (Same.refl H7).upd (o := .lst []) nhh
      have hr8 := t8 _ _ hr7
      have hd8 := t8 _ _ hd7
      have hz8 := t8 _ _ hz
      have s8 := s7.trans t8
      have hh8 : (upd H7 hh (.lst [])) hh = some (.lst (([] : List Str).map V.str)) := upd_same
      generalize upd H7 hh (.lst []) = H8 at t8 hr8 hd8 hz8 s8 hh8 ⊢
      walk_at "st"
      refine ⟨by omega, by omega, fun z4 hz4 dz4 => ?_⟩
      refine ⟨(by show 1 ≤ sizeLine; decide), fun l4 n4 => ?_⟩
      have t9 := (Same.refl H8).upd (o := .lst [V.str z4]) n4
      refine Or.inr (Or.inr ⟨ln, l4, _, _, rfl, rfl, t9 _ _ hz8, upd_same, (by rw [List.length_map, sizeLine_eq]; simp; omega), fun l5 n5 => ?_⟩)
      have e5 : zs.map V.str ++ [V.str z4] = (zs ++ [z4]).map V.str := by rw [List.map_append]; rfl
      rw [e5]
      have ta := t9.upd (o := .lst ((zs ++ [z4]).map V.str)) n5
      have ha : (upd (upd H8 l4 (.lst [V.str z4])) l5 (.lst ((zs ++ [z4]).map V.str))) l5 = some (.lst ((zs ++ [z4]).map V.str)) := upd_same
      have nlh : l5 ≠ hh := fun z => by rw [z, t9 _ _ hh8] at n5; cases n5
      generalize upd (upd H8 l4 (.lst [V.str z4])) l5 (.lst ((zs ++ [z4]).map V.str)) = Ha at ta ha ⊢
      clear t9 e5 n4 n5
      have oz4 : ∀ z ∈ zs ++ [z4], (z.length : Int) = long ∧ Dig z := fun y hy => by
        rcases List.mem_append.mp hy with m | m
        · exact oz y m
        · rw [List.mem_singleton.mp m]; exact ⟨by omega, dz4⟩
      have lz4 : (zs ++ [z4]).length ≤ 61 := by rw [List.length_append]; simp; omega
      walk_at "st"
      refine ⟨⟨_, .of ha⟩, for_list (K := K) (a := l5) (xs := (zs ++ [z4]).map V.str) (fun i σ H2 => ∃ x8 x9 x10 x11, σ = [some (.ref p), some (.int at_), some (.ref r), some (.int long), some (.int many), some (.ref d), some (.ref st), some (.ref ln), x8, x9, x10, x11, some (.ref hh), none, none, none] ∧ SameX [hh] Ha H2 ∧ ∃ hs : List Str, H2 hh = some (.lst (hs.map V.str)) ∧ hs.Nodup ∧ hs.length ≤ 4 * i ∧ ∀ z ∈ hs, (1 ≤ z.length ∧ (z.length : Int) ≤ long - 2) ∧ Dig z)
        ⟨_, _, _, _, rfl, fun b o _ e => e, [], ta _ _ hh8, List.nodup_nil, Nat.le_refl _, fun z hz => absurd hz (by simp)⟩ (fun i σ H2 _ ⟨_, _, _, _, _, sm, _⟩ => .of (sm _ _ (by simpa using nlh) ha)) ?_ ?_⟩
      · rintro i y σ H2 hi ⟨x8, x9, x10, x11, rfl, sm, hs, hH, ndh, lh, oh⟩
        have ilt : i < (zs ++ [z4]).length := by have := (List.getElem?_eq_some_iff.mp hi).1; rwa [List.length_map] at this
        rw [List.getElem?_map] at hi
        cases hk : (zs ++ [z4])[i]? with
        | none => rw [hk] at hi; cases hi
        | some z =>
          rw [hk] at hi; cases hi
          obtain ⟨zl, zd⟩ := oz4 z (List.mem_of_getElem? hk)
          walk_at "st"
          refine ⟨.inl ⟨rfl, _, .of hH⟩, ?_⟩
          walk_at "st"
          refine ⟨⟨by omega, by omega, by omega, by omega⟩, fun D nD => ?_⟩
          refine comp_range (lo := 1) (n := (long - 1 - 1).toNat) (fun k σ H3 => ∃ x, σ = [x, some (.ref hh), some (.str z)] ∧ Same H2 H3 ∧ H3 D = some (.lst ((newHeads z hs k).map V.str))) ⟨none, rfl, (Same.refl H2).upd nD, upd_same⟩ ?_ ?_
          · rintro k σ H3 hk' ⟨x, rfl, sm3, hL⟩
            walk_at "st"
            refine Or.inl ⟨z, rfl, (by rw [sizeLine_eq]; omega), ?_⟩
            walk_at "st"
            refine Or.inr ⟨hh, hs.map V.str, rfl, .inl (.of (sm3 _ _ hH)), rfl, flat_str hs, ?_⟩
            simp only [if_true]
            rw [inV_str]
            walk_at "st"
            have es := newHeads_succ z hs k
            by_cases hm : preS z k ∈ hs
            · have hm' : cutS z none (some (1 + (k : Int))) ∈ hs := hm
              rw [decide_eq_true hm']
              refine iteF ?_
              rw [if_pos hm, List.append_nil] at es
              exact ⟨_, rfl, sm3, by rw [es]; exact hL⟩
            · have hm' : cutS z none (some (1 + (k : Int))) ∉ hs := hm
              rw [decide_eq_false hm']
              refine iteT ?_
              walk_at "st"
              refine Or.inl ⟨z, rfl, (by rw [sizeLine_eq]; omega), ?_⟩
              rw [if_neg hm] at es
              have := newHeads_len z hs k
              refine ⟨_, hL, (by rw [List.length_map, sizeLine_eq]; omega), _, rfl, sm3.updN nD, ?_⟩
              rw [upd_same, es, List.map_append]; rfl
          · rintro σ H3 ⟨x, rfl, sm3, hL⟩
            have nl := newHeads_len z hs (long - 1 - 1).toNat
            obtain ⟨ok1, ok2⟩ := newHeads_ok (z := z) (hs := hs) (n := (long - 1 - 1).toNat) (by omega) zd ndh
            refine ⟨hh, D, _, _, rfl, rfl, sm3 _ _ hH, hL, (by rw [List.length_map, List.length_map, sizeLine_eq]; omega), ?_⟩
            refine ⟨_, _, _, _, rfl, fun b o hb e => by rw [upd_ne (by simpa using hb)]; exact sm3 _ _ (sm b o hb e), hs ++ newHeads z hs (long - 1 - 1).toNat, by rw [upd_same, List.map_append], ok1, by rw [List.length_append]; omega, fun y hy => ?_⟩
            rcases List.mem_append.mp hy with m | m
            · exact oh y m
            · obtain ⟨⟨g1, g2⟩, g3⟩ := ok2 y m
              exact ⟨⟨g1, by omega⟩, g3⟩
      · rintro σb Hb ⟨x8b, x9b, x10b, x11b, rfl, smb, hs, hH, ndh, lh, oh⟩
        rw [List.length_map] at lh
        have nrh : ∀ {b o}, H7 b = some o → b ∉ [hh] := fun e z => by rw [List.mem_singleton.mp z, nhh] at e; cases e
        have s7b : ∀ {b o}, H7 b = some o → Hb b = some o := fun e => smb _ _ (nrh e) (ta _ _ (t8 _ _ e))
        have hrb := s7b hr7
        have hdb := s7b hd7
        have hzb := s7b hz
        have sb : Same H Hb := fun b o e => s7b (s7 _ _ e)
        walk_at "st"
        refine ⟨(by show 0 ≤ sizeLine; decide), fun gg ngg => ?_⟩
        have fgg : H gg = none := sb.free ngg
        have tc := (Same.refl Hb).upd (o := .lst []) ngg
        have gc : (upd Hb gg (.lst [])) gg = some (.lst (([] : List Pr).map prV)) := upd_same
        generalize upd Hb gg (.lst []) = Hc at tc gc ⊢
        walk_at "st"
        refine Or.inr ⟨_, _, rfl, .inl (.of (tc _ _ hH)), ?_⟩
        rw [List.length_map]
        walk_at "st"
        have mn : 0 ≤ (if (hs.length : Int) < 40 then (hs.length : Int) else 40) ∧ (if (hs.length : Int) < 40 then (hs.length : Int) else 40) ≤ 40 ∧ (if (hs.length : Int) < 40 then (hs.length : Int) else 40) ≤ hs.length := by split <;> omega
        generalize (if (hs.length : Int) < 40 then (hs.length : Int) else 40) = mm at mn ⊢
        refine ⟨by omega, by omega, for_range (n := mm.toNat) (fun i σ H2 => ∃ x8 x9 x10 x11 x14, σ = [some (.ref p), some (.int at_), some (.ref r), some (.int long), some (.int many), some (.ref d), some (.ref st), some (.ref ln), x8, x9, x10, x11, some (.ref hh), some (.ref gg), x14, none] ∧ Same Hb H2 ∧ ∃ ts : List Pr, H2 gg = some (.lst (ts.map prV)) ∧ Lay H2 ts ∧ (ts.map (·.2.1)).Sublist (hs.take i) ∧ (∀ t ∈ ts, (0 ≤ t.2.2 ∧ t.2.2 ≤ 10) ∧ H t.1 = none)) ?_ ?_ ?_⟩
        · exact ⟨_, _, _, _, none, rfl, tc, [], gc, fun t m => absurd m (by simp), List.Sublist.refl _, fun t m => absurd m (by simp)⟩
        · rintro i σ H2 hi ⟨x8, x9, x10, x11, x14, rfl, sm, ts, hG, lay, sub, ok⟩
          simp only [Int.zero_add]
          have hd2 := sm _ _ hdb
          have hh2 := sm _ _ hH
          have lts : ts.length ≤ i := by have := sub.length_le; rw [List.length_map, List.length_take] at this; omega
          have ei := atI_int (ns := dr) (k := 59 - (i : Int)) (by omega) (by omega)
          have eb : 0 ≤ dr.getD (59 - (i : Int)).toNat 0 ∧ dr.getD (59 - (i : Int)).toNat 0 < 10080 := by
            have hlt : (59 - (i : Int)).toNat < dr.length := by omega
            rw [List.getD, List.getElem?_eq_getElem hlt]
            exact hbd _ (List.getElem_mem hlt)
          generalize dr.getD (59 - (i : Int)).toNat 0 = e at ei eb
          have hil : i < hs.length := by omega
          walk_at "st"
          refine Or.inl ⟨d, _, _, _, rfl, rfl, .of hd2, ei, ?_⟩
          walk_at "st"
          have tk : hs.take (i + 1) = hs.take i ++ [hs[i]] := by rw [List.take_add_one, List.getElem?_eq_getElem hil]; rfl
          by_cases hp : e / 7 % 9 > 0
          case neg =>
            rw [decide_eq_false hp]
            refine iteF ?_
            exact ⟨_, _, _, _, _, rfl, sm, ts, hG, lay, by rw [tk]; exact sub.trans (List.sublist_append_left _ _), ok⟩
          rw [decide_eq_true hp]
          refine iteT ?_
          walk_at "st"
          refine ⟨.inl ⟨rfl, _, .of hG⟩, ?_⟩
          have eh : atI (hs.map V.str) (i : Int) = some (.str hs[i]) := by
            obtain ⟨v, e1, e2⟩ := atI_in (xs := hs.map V.str) (k := (i : Int)) (by omega) (by rw [List.length_map]; omega)
            rw [e1, ← e2]
            show (hs.map V.str)[i]? = _
            rw [List.getElem?_map, List.getElem?_eq_getElem hil]; rfl
          walk_at "st"
          refine Or.inl ⟨hh, _, _, _, rfl, rfl, .of hh2, eh, ?_⟩
          walk_at "st"
          refine ⟨(by show 3 ≤ sizeLine; decide), fun l6 n6 => ?_⟩
          obtain ⟨mv, em, mmv⟩ := pickI (xs := [1 + e / 7 / 9 % 3, e / 7 / 9 % 11, 1]) (i := e / 7 / 99 % 3) (by omega) (by show e / 7 / 99 % 3 < 3; omega)
          have hmv : 0 ≤ mv ∧ mv ≤ 10 := by
            simp only [List.mem_cons, List.not_mem_nil, or_false] at mmv
            rcases mmv with h | h | h <;> omega
          have td := (Same.refl H2).upd (o := .lst [V.int (1 + e / 7 / 9 % 3), V.int (e / 7 / 9 % 11), V.int 1]) n6
          walk_at "st"
          refine Or.inl ⟨l6, _, _, _, rfl, rfl, .of upd_same, em, ?_⟩
          generalize upd H2 l6 (.lst [V.int (1 + e / 7 / 9 % 3), V.int (e / 7 / 9 % 11), V.int 1]) = H3 at td ⊢
          refine ⟨(by show 2 ≤ sizeLine; decide), fun tt ntt => ?_⟩
          have te := td.upd (o := .tup [V.str hs[i], V.int mv]) ntt
          have gt : (upd H3 tt (.tup [V.str hs[i], V.int mv])) tt = some (.tup [V.str hs[i], V.int mv]) := upd_same
          have ftt : H2 tt = none := td.free ntt
          generalize upd H3 tt (.tup [V.str hs[i], V.int mv]) = H4 at te gt ⊢
          have hG4 := te _ _ hG
          walk_at "st"
          refine ⟨gg, _, _, rfl, rfl, hG4, (by rw [List.length_map, sizeLine_eq]; omega), ?_⟩
          refine ⟨_, _, _, _, _, rfl, (sm.trans te).updN ngg, ts ++ [(tt, hs[i], mv)], ?_, ?_, ?_, ?_⟩
          · rw [upd_same, List.map_append]; rfl
          · refine Lay.put (fun t m => ?_) hG4
            rcases List.mem_append.mp m with z | z
            · exact te _ _ (lay t z)
            · rw [List.mem_singleton.mp z]; exact gt
          · rw [tk, List.map_append]
            exact sub.append (List.Sublist.refl _)
          · intro t m
            rcases List.mem_append.mp m with z | z
            · exact ok t z
            · rw [List.mem_singleton.mp z]
              exact ⟨hmv, (sb.trans sm).free ftt⟩
        · rintro σd Hd ⟨y8, y9, y10, y11, y14, rfl, smd, ts, hG, lay, sub, ok⟩
          have hrd := smd _ _ hrb
          have hzd := smd _ _ hzb
          walk_at "st"
          refine Or.inr ⟨_, _, rfl, .inl (.of hzd), ?_⟩
          rw [List.length_map]
          walk_at "st"
          refine ⟨(by show 4 ≤ sizeLine; decide), fun l7 n7 => ?_⟩
          have tf := (Same.refl Hd).upd (o := .lst [V.int (1 + v5 % 4), V.int (1 + v5 % 60), V.int zs.length, V.int (1 + v5 % 8)]) n7
          have hre := tf _ _ hrd
          obtain ⟨seekers, em, mms⟩ := pickI (xs := [1 + v5 % 4, 1 + v5 % 60, (zs.length : Int), 1 + v5 % 8]) (i := v6 % 4) (by omega) (by show v6 % 4 < 4; omega)
          have hseek : 1 ≤ seekers ∧ seekers ≤ 60 := by
            simp only [List.mem_cons, List.not_mem_nil, or_false] at mms
            rcases mms with h | h | h | h <;> omega
          walk_at "st"
          refine Or.inl ⟨l7, _, _, _, rfl, rfl, .of upd_same, em, ?_⟩
          generalize upd Hd l7 (.lst [V.int (1 + v5 % 4), V.int (1 + v5 % 60), V.int zs.length, V.int (1 + v5 % 8)]) = He at tf hre ⊢
          walk_at "st"
          refine ⟨(by show 4 ≤ sizeLine; decide), fun tt ntt => ?_⟩
          have tg := tf.upd (o := .tup [V.int long, V.ref ln, V.int seekers, V.ref gg]) ntt
          have sall := sb.trans (smd.trans tg)
          have lts : ts.length ≤ 40 := by have := sub.length_le; rw [List.length_map, List.length_take] at this; omega
          refine q _ tt long ln seekers gg zs ts sall upd_same (tg _ _ hzd) (tg _ _ hG) (lay.same tg) ⟨⟨hlong.1, hlong.2, hseek.1, hseek.2⟩, ⟨⟨lz1, lz2⟩, oz, ndz⟩, lts, fun t m => ?_, ?_⟩ ((sb.trans (smd.trans tf)).free ntt) fln fgg (ne_of_none hzb ngg) fun t m => (ok t m).2
          · obtain ⟨⟨g1, g2⟩, g3⟩ := oh t.2.1 (List.mem_of_mem_take (sub.subset (List.mem_map.mpr ⟨t, m, rfl⟩)))
            exact ⟨⟨by omega, g2⟩, g3, (ok t m).1⟩
          · exact (ndh.sublist (List.take_sublist _ _)).sublist sub
end
end Lw

set_option Elab.async false
set_option linter.all false
set_option maxRecDepth 100000
set_option maxHeartbeats 4000000
namespace L2
open PySem PySem.Spec PyProof.Rows
section
variable {prog : Program} {w : World} {A : Around} {R : Result → Shared → Prop} {E : Value → Shared → Prop} {s : Shared}
theorem dcomp_turns {kx vx tg iter : Expr} {ifs : List Expr} {sc : Scope} {pos : Pos} {it : Value} {D : Addr} {env : Env} (I : Nat → Shared → Prop)
    (turn : ∀ n s, I n s → wpAny (model prog w) A (pyNext it) (fun r s₁ => match r with
      | none => R (.ok .next) s₁
      | some v => wpAny (model prog w) A (letOwnedTupleGo tg it v) (fun _ s₂ => wpAny (model prog w) A (assign tg env v) (fun _ s₃ => wpAny (model prog w) A (testsOf ifs env) (fun ok s₄ =>
          if ok = true then wpAny (model prog w) A (eval kx env) (fun x s₅ => wpAny (model prog w) A (eval vx env) (fun y s₆ => wpAny (model prog w) A (dictSet D x y) (fun _ s₇ => ∃ m, m < n ∧ I m s₇) (fun _ _ => False) s₆) (fun _ _ => False) s₅) (fun _ _ => False) s₄
          else ∃ m, m < n ∧ I m s₄) (fun _ _ => False) s₃) (fun _ _ => False) s₂) (fun _ _ => False) s₁) (fun _ _ => False) s)
    (n : Nat) (h : I n s) : codeAny (model prog w) A (.compLoop (.DictComp kx vx [⟨tg, iter, ifs, 0⟩] sc pos) 0 it (.ref D) env) R s := by
  refine codeAny_loop rfl I (fun n s hI => ?_) n h
  show wpAny _ A ((compTurn (.DictComp kx vx [⟨tg, iter, ifs, 0⟩] sc pos) 0 it (.ref D) env).onRaise _) _ _ s
  refine wpAny_noted ?_
  rw [compTurn_dict]
  refine wpAny_bind (wpAny_standAt (wpAny_bind (calmed (turn n s hI) fun r s₁ h₁ => ?_)))
  match r, h₁ with
  | none, h₁ => exact wpAny_pure h₁
  | some v, h₁ =>
    refine wpAny_bind (calmed h₁ fun _ s₂ h₂ => wpAny_bind (calmed h₂ fun _ s₃ h₃ => wpAny_bind (calmed h₃ fun ok s₄ h₄ => ?_)))
    match ok, h₄ with
    | false, h₄ => exact wpAny_pure ⟨rfl, h₄⟩
    | true, h₄ => exact wpAny_bind (wpAny_bind (calmed h₄ fun x s₅ h₅ => wpAny_bind (wpAny_holding (calmed h₅ fun y s₆ h₆ => wpAny_bind (wpAny_standAt (wpAny_holding (calmed h₆ fun _ s₇ h₇ => wpAny_pure ⟨rfl, h₇⟩)))))))
end
section
variable {X : Cx} {N' : List Str} {sc : Scope} {srcs : List (Option Nat)} {cl : List (Str × Addr)} {C : Addr} {fp : List Addr} {pins : List (Addr × Obj)} {s₂ : Shared} {H₂ : Hp} {σ : St}
theorem dict_setS {s : Shared} {H : Hp} {D : Addr} {kvs : List (Key × V)} {k : Key} {v : V} {x y : Value} {Q : Unit → Shared → Prop} {E : Value → Shared → Prop} (I : Inv X pins σ H s) (e : H D = some (.dK kvs)) (few : kvs.length < sizeLine) (rk : RelV (kV k) x) (rv : RelV v y)
    (q : ∀ s', Inv X pins σ (upd H D (.dK (putK kvs k v))) s' → Q () s') : wpAny (model X.prog X.w) X.A (dictSet D x y) Q E s := by
  obtain ⟨z, hd, vs, rel, dd⟩ := dk_of I.hok e
  have hz : vs.length ≤ sizeLine := by rw [← rel.length]; exact z
  have hl : (putK kvs k v).length ≤ sizeLine := by have := length_putK kvs k v; omega
  refine wpAny_dictSet_pairs (hsz := hz) (kV_is rk) dd fun h' dd' hs => q _ ?_
  have he : ∃ q, h'.get? D = some q := let ⟨q, _, _, hq, _⟩ := dd'; ⟨q, hq⟩
  exact d_write I (by rw [e]; exact True.intro) hs he (dk_new hl hd (rel.put k rv) dd')
theorem dcomp_begin {D : Addr} {h₁ : Heap} {tk : Nat} {m : Str → Option Value} (S : CompSc sc X.env.scope N' X.N srcs) (I : Inv X pins σ H₂ s₂) (hcl : ∀ x c, cl.lookup x = some c → X.env.cells.lookup x = some c) (hcl2 : ∀ y ∈ sc.names, y.2 = .free → ∃ c, cl.lookup y.1 = some c)
    (hfp : ∀ b ∈ fp, FpOk X pins H₂ b) (hfo : ∀ b ∈ fp, ∃ o, s₂.heap.get? b = some o) (hD : D = s₂.heap.objs.size) (hC : C = s₂.heap.objs.size + 1) (hk : ∀ b o, (s₂.heap.push { cls := .type "dict", dict := none, data := .dict #[] }).get? b = some o → h₁.get? b = some o) (hns : h₁.Ns C m) :
    Inv (cxComp X N' sc cl C fp pins s₂ H₂) [] (srcSt srcs σ) (upd H₂ D (.dK [])) { s₂ with heap := h₁, toks := tk } := by
  subst hD
  have hCle : s₂.heap.objs.size ≤ C := by rw [hC]; exact Nat.le_succ _
  have ok := cx_ok S I hcl hcl2 hCle hfp hfo
  have I3 : Inv X pins σ (upd H₂ s₂.heap.objs.size (.dK [])) { s₂ with heap := s₂.heap.push { cls := .type "dict", dict := none, data := .dict #[] }, toks := tk } := I.laid (t' := tk) (fun b o q => Heap.get?_push_of_some _ q) (Nat.le_refl _) (dk_empty s₂.heap I.big)
  have I4 : Inv X pins σ (upd H₂ s₂.heap.objs.size (.dK [])) { s₂ with heap := h₁, toks := tk } := I3.kept (t' := tk) hk
  have old : ∀ b o, s₂.heap.get? b = some o → h₁.get? b = some o := fun b o e => hk b o (Heap.get?_push_of_some _ e)
  have neD : ∀ b o, s₂.heap.get? b = some o → b ≠ s₂.heap.objs.size := fun b o e => Nat.ne_of_lt (Heap.lt_size e)
  have cellOld : ∀ x c, cl.lookup x = some c → ∃ v o, s₂.heap.get? c = some o ∧ o.data = .cell v := fun x c e => by
    obtain ⟨v, o, ho, hd⟩ := I.cell x c (hcl x c e)
    exact ⟨v, o, ho, hd⟩
  refine ⟨ok, rfl, I.bare, Un.laid old (Nat.le_refl _) I.fresh, ⟨m, hns, fun i x v e1 e2 e3 => ?_⟩, fun x c e => ?_, ?_, fun x c e => ?_, fun p hp => ?_, I4.hok, ?_⟩
  · have e2' : (srcs[i]?).map (fun o => o.bind fun j => (σ[j]?).join) = some (some v) := by
      have := e2
      unfold srcSt at this
      rwa [List.getElem?_map] at this
    cases q : srcs[i]? with
    | none => rw [q] at e2'; cases e2'
    | some oj =>
      rw [q, Option.map_some] at e2'
      cases oj with
      | none => cases e2'
      | some j =>
        have e4 : (σ[j]?).join = some v := by simpa using e2'
        have e5 : σ[j]? = some (some v) := by
          cases z : σ[j]? with
          | none => rw [z] at e4; cases e4
          | some w => rw [z] at e4; rw [← e4]; rfl
        obtain ⟨x', n1, n2, n3, n4⟩ := S.out i j q
        have e1' : N'[i]? = some x := e1
        rw [n1] at e1'; cases e1'
        obtain ⟨m2, hn2, hl⟩ := I.loc
        have hv : Vis X.env.scope x := n4.elim (fun z => .inr (.inl z)) fun z => .inr (.inr z)
        obtain ⟨u, r, l⟩ := hl j x v n2 e5 hv
        refine ⟨u, r, .inr ⟨relab_free n3, ?_⟩⟩
        rcases l with ⟨k, _⟩ | ⟨_, c, ec, z⟩
        · have k' : X.env.scope.names.lookup x = some .local := k
          rcases n4 with z | z <;> rw [k'] at z <;> cases z
        · obtain ⟨c', ec'⟩ := hcl2 _ (PySem.mem_of_lookup n3) rfl
          have := hcl x c' ec'
          rw [ec] at this; cases this
          obtain ⟨o, ho, hd⟩ := z
          exact ⟨c, ec', o, old c o ho, hd⟩
  · obtain ⟨v, o, ho, hd⟩ := cellOld x c e
    exact ⟨v, o, old c o ho, hd⟩
  · show upd H₂ s₂.heap.objs.size (.dK []) C = none
    rw [upd_ne (by rw [hC]; exact Nat.succ_ne_self _)]
    exact I.hok.fresh hCle
  · obtain ⟨v, o, ho, hd⟩ := cellOld x c e
    show upd H₂ s₂.heap.objs.size (.dK []) c = none
    rw [upd_ne (neD c o ho)]
    exact I.freeC x c (hcl x c e)
  · have hp' : p ∈ X.pn ++ pins := by simpa [cxComp] using hp
    obtain ⟨e, n, ne, nf, d⟩ := I.pin p hp'
    obtain ⟨_, n4, _⟩ := I4.pin p hp'
    exact ⟨old _ _ e, n4, Nat.ne_of_lt (Nat.lt_of_lt_of_le (Heap.lt_size e) hCle), fun z => (List.mem_cons.mp (I.stkSub _ z)).elim ne nf, d⟩
  · show (srcs.map _).length = N'.length
    rw [List.length_map]
    exact S.len
def tDComp (srcs : List (Option Nat)) (wi : TI) (g : TG) (tt : TT) (tk tv : TE) : TE := fun σ H Q => wi σ H fun J H1 => ∀ D, H1 D = none → ∃ W : Nat → Nat → St → Hp → Prop, (∃ m, W 0 m (srcSt srcs σ) (upd H1 D (.dK []))) ∧ ∀ i m σ' H', W i m σ' H' →
  (J.stop i H' ∧ Q (.ref D) H') ∨ (J.go i H' ∧ ∃ N : St → Hp → Prop, (∀ σ2 H2, N σ2 H2 → ∃ m', m' < m ∧ W (i + 1) m' σ2 H2) ∧ ∀ x H2, J.yld i H' x H2 → g x σ' H2 fun σ3 H3 => tt σ3 H3 fun b H4 =>
    if b = true then tk σ3 H4 fun k H5 => tv σ3 H5 fun v H6 => ∃ kvs kk, k = kV kk ∧ H6 D = some (.dK kvs) ∧ kvs.length < sizeLine ∧ N σ3 (upd H6 D (.dK (putK kvs kk v))) else N σ3 H4)
theorem dcomp_block {kx vx tg iter : Expr} {ifs : List Expr} {sc : Scope} {srcs : List (Option Nat)} {N' : List Str} {pos : Pos} {wi : TI} {g : TG} {tt : TT} {te tv : TE} {s : Shared} {H : Hp} {use : Option (Value → Sem Unit)} {Qv : Value → Shared → Prop} {Q : VK}
    (hc : X.calm = true) (S : CompSc sc X.env.scope N' X.N srcs) (hi : PI X tg iter wi)
    (hg : ∀ cl C fp pins s₂ H₂, PG (cxComp X N' sc cl C fp pins s₂ H₂) tg g) (ht : ∀ cl C fp pins s₂ H₂, PTs (cxComp X N' sc cl C fp pins s₂ H₂) ifs tt) (he : ∀ cl C fp pins s₂ H₂, PE (cxComp X N' sc cl C fp pins s₂ H₂) kx te) (hv : ∀ cl C fp pins s₂ H₂, PE (cxComp X N' sc cl C fp pins s₂ H₂) vx tv)
    (hs : ∀ x, foldedSetIterable iter X.env x = pure x) (I : Inv X pins σ H s) (h : tDComp srcs wi g tt te tv σ H Q)
    (post : ∀ D C H' s' m, (∀ h', Heap.SameBut C s'.heap h' → Inv X pins σ H' { s' with heap := h' }) → Inv X pins σ H' s' → s'.heap.Ns C m → (∀ x c, X.env.cells.lookup x = some c → c ≠ C) → X.env.locals ≠ C → H' C = none →
      (∀ σ' s'' h', Inv X pins σ' H' s'' → Heap.SameBut C s''.heap h' → Inv X pins σ' H' { s'' with heap := h' }) → Q (.ref D) H' → compPost (model X.prog X.w) X.A X.xe use Qv (.ref D) C (.ok .next) s') :
    wpAny (model X.prog X.w) X.A (comprehension (.DictComp kx vx [⟨tg, iter, ifs, 0⟩] sc pos) sc X.env (firstIterPos [⟨tg, iter, ifs, 0⟩] pos) newDict false (eval iter X.env) use) Qv X.xe s := by
  obtain ⟨cl, hclos, hcl, hcl2⟩ := clos_mk (env := X.env) (sc := sc) fun y hy hf => I.ok.has y.1 (S.frees y hy hf)
  refine wpAny_comprehension_free rfl hs hclos S.kind S.one (thn (hi pins s σ H _ I h) fun xv s₁ h₁ => thn h₁ fun itv s₂ h₂ => ?_)
  obtain ⟨it, fp, tn, J, H₂, e, I₂, T, st₂, f₂, rd⟩ := h₂
  subst e
  refine wpAny_newObj_type (wpAny_newFunctionEnv S.nocell (by intro y hy; simp at hy) (fun h₁ hns hsb => ?_) S.kind)
  dsimp only at hns hsb ⊢
  have hfo : ∀ b ∈ fp, ∃ o, s₂.heap.get? b = some o := fun b hb => let ⟨o, e, _⟩ := T.obj _ _ st₂ b hb; ⟨o, e⟩
  have hCe : (s₂.heap.push { cls := .type "dict", dict := none, data := .dict #[] }).objs.size = s₂.heap.objs.size + 1 := Heap.size_push ..
  have hk : ∀ b o, (s₂.heap.push { cls := .type "dict", dict := none, data := .dict #[] }).get? b = some o → h₁.get? b = some o := fun b o e => hsb.extBut b o (Nat.ne_of_lt (Heap.lt_size e)) (Heap.get?_push_of_some _ e)
  have IB := dcomp_begin (tk := s₂.toks + ([] : List (Str × Value)).length) S I₂ hcl hcl2 f₂ hfo rfl hCe hk hns
  generalize (s₂.heap.push { cls := .type "dict", dict := none, data := .dict #[] }).objs.size = C at hCe hns hsb IB ⊢
  generalize hD : s₂.heap.objs.size = D at IB hCe ⊢
  have hCle : s₂.heap.objs.size ≤ C := by rw [hD, hCe]; exact Nat.le_succ _
  obtain ⟨W, ⟨m0, w0⟩, turn⟩ := rd D (by rw [← hD]; exact I₂.fresh)
  have fpB : ∀ {H' : Hp}, (∀ b ∈ fp, H' b = none) → ∀ b ∈ fp, FpOk (cxComp X N' sc cl C fp pins s₂ H₂) [] H' b := fun hn b hb => by
    obtain ⟨z1, z2⟩ := (cx_ok S I₂ hcl hcl2 hCle f₂ hfo).exf b hb
    exact ⟨hn b hb, z1, (cx_ok S I₂ hcl hcl2 hCle f₂ hfo).exfs b hb, .inl hb, z2, fun p hp => (f₂ b hb).2.2.2.2.2 p (by simpa [cxComp] using hp)⟩
  have fr0 : ∀ b ∈ fp, (upd H₂ D (.dK [])) b = none := fun b hb => by
    obtain ⟨o, ho⟩ := hfo b hb
    rw [upd_ne (by rw [← hD]; exact Nat.ne_of_lt (Heap.lt_size ho))]
    exact (f₂ b hb).1
  have st0 : tn 0 h₁ := T.keep _ _ _ st₂ fun b hb o e => hk b o (Heap.get?_push_of_some _ e)
  have loop : codeAny (model X.prog X.w) X.A (.compLoop (.DictComp kx vx [⟨tg, iter, ifs, 0⟩] sc pos) 0 (.ref it) (.ref D) (compEnvC sc cl C X.env)) (compPost (model X.prog X.w) X.A X.xe use Qv (.ref D) C) { s₂ with heap := h₁, toks := s₂.toks + ([] : List (Str × Value)).length } := by
    refine dcomp_turns (fun n s' => ∃ i σ' H', Inv (cxComp X N' sc cl C fp pins s₂ H₂) [] σ' H' s' ∧ tn i s'.heap ∧ (∀ b ∈ fp, H' b = none) ∧ W i n σ' H') ?_ m0 ⟨0, _, _, IB, st0, fr0, w0⟩
    rintro n s3 ⟨i, σ3, H3, I3, st3, fr3, w3⟩
    rcases turn i n σ3 H3 w3 with ⟨stop, qn⟩ | ⟨go, N, hN, step⟩
    · refine thn (T.done (cxComp X N' sc cl C fp pins s₂ H₂) rfl rfl rfl hc i [] s3 σ3 H3 _ I3 (fpB fr3) st3 stop) fun r s4 ⟨hr, I4⟩ => ?_
      subst hr
      have JX := comp_end I₂ f₂ I4
      obtain ⟨m, hn, _⟩ := I4.loc
      have cn : ∀ x c, X.env.cells.lookup x = some c → c ≠ C := fun x c e z => by
        obtain ⟨v, q⟩ := I₂.cell x c e
        exact absurd (Nat.lt_of_lt_of_le q.lt (by rw [z]; exact hCle)) (Nat.lt_irrefl _)
      have gone : ∀ σ' s'' h', Inv X pins σ' H3 s'' → Heap.SameBut C s''.heap h' → Inv X pins σ' H3 { s'' with heap := h' } := fun σ' s'' h' K3 hs3 =>
        K3.turned (t' := s''.toks) (it := C) (fun b o hb e => (hs3.2 b hb).trans e) I4.free (Nat.ne_of_gt (Nat.lt_of_lt_of_le I₂.lt hCle)) (.inr (Nat.le_trans I₂.sz hCle)) cn fun p hp z => by
          exact absurd (Nat.lt_of_lt_of_le (Heap.lt_size (I₂.pin p hp).1) (by rw [z]; exact hCle)) (Nat.lt_irrefl _)
      exact post D C H3 s4 m (fun h' hs' => gone σ s4 h' JX hs') JX hn cn (Nat.ne_of_lt (Nat.lt_of_lt_of_le I₂.lt hCle)) I4.free gone qn
    · refine thn (T.item (cxComp X N' sc cl C fp pins s₂ H₂) rfl rfl rfl hc i [] s3 σ3 H3 _ I3 (fpB fr3) st3 go) fun r s4 ⟨u, hr, h4⟩ => ?_
      subst hr
      refine thn h4 fun _ s5 ⟨x, H5, I5, r5, y5, st5, fr5⟩ => ?_
      have I5' := I5.pinned (fpB fr5) (T.obj _ _ st5)
      refine thn (hg cl C fp pins s₂ H₂ _ s5 σ3 H5 x u _ I5' r5 (step x H5 y5)) fun _ s6 ⟨σ6, H6, I6, q6⟩ => ?_
      refine thn (ht cl C fp pins s₂ H₂ _ s6 σ6 H6 _ I6 q6) fun ok s7 ⟨H7, I7, q7⟩ => ?_
      have again : ∀ {H8 : Hp} {s8 : Shared}, Inv (cxComp X N' sc cl C fp pins s₂ H₂) ([] ++ pinsAt fp s5.heap) σ6 H8 s8 → N σ6 H8 → ∃ m, m < n ∧ ∃ i σ' H', Inv (cxComp X N' sc cl C fp pins s₂ H₂) [] σ' H' s8 ∧ tn i s8.heap ∧ (∀ b ∈ fp, H' b = none) ∧ W i m σ' H' := fun {H8 s8} I8 n8 => by
        obtain ⟨m', hm, w8⟩ := hN σ6 H8 n8
        refine ⟨m', hm, i + 1, σ6, H8, I8.unpinned, T.keep _ _ _ st5 fun b hb o e => (I8.pin (b, o) (List.mem_append_right _ (List.mem_append_right _ (mem_pinsAt hb e)))).1, fun b hb => ?_, w8⟩
        obtain ⟨o, e, d⟩ := T.obj _ _ st5 b hb
        exact (I8.pin (b, o) (List.mem_append_right _ (List.mem_append_right _ (mem_pinsAt hb e)))).2.1
      cases ok with
      | false => exact again I7 q7
      | true =>
        refine thn (he cl C fp pins s₂ H₂ _ s7 σ6 H7 _ I7 q7) fun y s8 ⟨v, H8, I8, r8, q8⟩ => ?_
        refine thn (hv cl C fp pins s₂ H₂ _ s8 σ6 H8 _ I8 q8) fun y' s9 ⟨v', H9, I9, r9, q9⟩ => ?_
        obtain ⟨kvs, kk, rfl, hy, few, n9⟩ := q9
        exact dict_setS (X := cxComp X N' sc cl C fp pins s₂ H₂) I9 hy few r8 r9 fun s10 I10 => again I10 n9
  exact codeAny_compStart_dict loop (T.self _ 0 _ _ _ st0 loop)
theorem ps_setD {kx vx tg iter : Expr} {ifs : List Expr} {sc : Scope} {srcs : List (Option Nat)} {N' : List Str} {pos spos pos' : Pos} {wi : TI} {g : TG} {tt : TT} {te tv : TE} {j : Nat} {y : Str} (hc : X.calm = true) (nd : X.N.Nodup) (hj : X.N[j]? = some y) (hy : Loc X.env.scope y) (S : CompSc sc X.env.scope N' X.N srcs) (hi : PI X tg iter wi)
    (hg : ∀ cl C fp pins s₂ H₂, PG (cxComp X N' sc cl C fp pins s₂ H₂) tg g) (ht : ∀ cl C fp pins s₂ H₂, PTs (cxComp X N' sc cl C fp pins s₂ H₂) ifs tt) (he : ∀ cl C fp pins s₂ H₂, PE (cxComp X N' sc cl C fp pins s₂ H₂) kx te) (hv : ∀ cl C fp pins s₂ H₂, PE (cxComp X N' sc cl C fp pins s₂ H₂) vx tv)
    (hsw : swapsWith (.DictComp kx vx [⟨tg, iter, ifs, 0⟩] sc pos) (some (.Name y pos')) spos.line X.env = pure true) (hs : ∀ x, foldedSetIterable iter X.env x = pure x := by intro _; rfl)
    (hf : X.fn y = true ∨ X.env.scope.names.lookup y = some .local := by first | exact .inl rfl | exact .inr rfl | assumption) :
    PS X (.Assign [.Name y pos'] (.DictComp kx vx [⟨tg, iter, ifs, 0⟩] sc pos) spos) (tAsg (tDComp srcs wi g tt te tv) (gName j)) := by
  intro pins s σ H D I h
  rw [exec_Assign_Name_used _ _ _ _ hsw]
  refine wpAny_bind (wpAny_standAt (wpAny_bind ?_))
  show wpAny _ X.A (do let _ ← comprehension (.DictComp kx vx [⟨tg, iter, ifs, 0⟩] sc pos) sc X.env _ newDict false (eval iter X.env) (some (assign (.Name y pos') X.env))) _ _ s
  refine wpAny_bind (thn (dcomp_block (use := some (assign (.Name y pos') X.env)) (Qv := fun _ s' => SP X pins D .next s') hc S hi hg ht he hv hs I h fun L C H' s' m g1 J hn cn ln fr g2 q => ?_) fun _ s' hq => wpAny_pure (wpAny_pure hq))
  show wpAny _ X.A (assign (.Name y pos') X.env (.ref L)) _ _ _
  refine wpAny_assign_Name (store_ok2 J nd hj hy (v := .ref L) rfl (fun s'' K hsame => ?_) hf)
  obtain ⟨a, hsm, ha⟩ := hsame
  have hac : C ≠ a := by
    rcases ha with z | z
    · rw [z]; exact Ne.symm ln
    · exact Ne.symm (cn y a z)
  exact ⟨m, hn.sameBut hsm hac, fun h' hs' => ⟨_, H', g2 _ s'' h' K hs', q⟩⟩
end
end L2

set_option Elab.async false
set_option linter.all false
set_option maxRecDepth 100000
set_option maxHeartbeats 4000000
namespace L2
open PySem PySem.Spec PyProof.Rows
structure KDict (P : Program) (w : World) (K : PySem.W.Frag) (a : Addr) (kvs : List (Key × V)) : Prop where
  lo : (a == sysModules) = false
  sz : kvs.length ≤ sizeLine
  dct : ∃ o vs ep, K.lookup a = some o ∧ KV kvs vs ∧ ∀ h : Heap, h.get? a = some o → h.DictAt (mixKind P w) a vs ep
def DAt (P : Program) (w : World) (K : PySem.W.Frag) (H : Hp) (a : Addr) (kvs : List (Key × V)) : Prop := Rd H a (.dK kvs) ∨ KDict P w K a kvs
theorem DAt.of {P : Program} {w : World} {K : PySem.W.Frag} {H : Hp} {a : Addr} {kvs : List (Key × V)} (h : H a = some (.dK kvs)) : DAt P w K H a kvs := .inl (.inl h)
theorem key_rel {P : Program} {w : World} {k : Key} {u : Value} (h : (mixKind P w).is k u = true) : RelV (kV k) u := by
  rw [mixKind_is] at h
  cases k with
  | inl i =>
    show ∃ t, u = Value.int i t
    cases u <;> simp [keyIs, Value.isInt] at h
    rename_i j t
    exact ⟨t, by rw [h]⟩
  | inr x =>
    show ∃ t, u = Value.str x t
    cases u <;> simp [keyIs, Value.isStrOf] at h
    rename_i j t
    exact ⟨t, by rw [h]⟩
section
variable {X : Cx} {pins : List (Addr × Obj)} {σ : St} {H : Hp} {s : Shared} {a : Addr} {kvs : List (Key × V)} {P : Program} {w : World} {K : PySem.W.Frag}
theorem dat_of (I : Inv X pins σ H s) (e : DAt X.prog X.w X.K H a kvs) : kvs.length ≤ sizeLine ∧ (a == sysModules) = false ∧ ∃ vs, KV kvs vs ∧ s.heap.DictOf (mixKind X.prog X.w) a vs := by
  rcases e with e | e
  · exact dk_rd I.hok e
  · obtain ⟨o, vs, ep, l, r, d⟩ := e.dct
    exact ⟨e.sz, e.lo, vs, r, (d _ (I.bk _ _ (I.mod.kin _ _ l))).dictOf⟩
def rDIn (P : Program) (w : World) (K : PySem.W.Frag) (neg : Bool) : R2 := fun x y H Q => ∃ a kvs k, y = .ref a ∧ x = kV k ∧ DAt P w K H a kvs ∧ Q (.bl (if neg then !(valV kvs k).isSome else (valV kvs k).isSome)) H
theorem op_dNotIn (hP : X.prog = P := by rfl) (hw : X.w = w := by rfl) (hK : X.K = K := by rfl) : OpR X (compareOp .NotIn) (rDIn P w K true) := by
  subst hP hw hK
  intro pins s σ H x y v u Q I rx ry h
  obtain ⟨a, kvs, k, rfl, rfl, e, q⟩ := h
  cases (show u = Value.ref a from ry)
  obtain ⟨z, hd, vs, rel, dd⟩ := dat_of I e
  refine wpAny_notIn_of (kV_is rx) hd dd.mapOf ?_
  rw [← (rel.val k).isSome_eq]
  exact ⟨.bl (!(valV kvs k).isSome), H, I.tok _, rfl, q⟩
def tDIx (P : Program) (w : World) (K : PySem.W.Frag) (td ty : TE) : TE := fun σ H Q => td σ H fun x H1 => ty σ H1 fun y H2 => ∃ a kvs k v, x = .ref a ∧ y = kV k ∧ DAt P w K H2 a kvs ∧ valV kvs k = some v ∧ Q v H2
theorem pe_dix {o i : Expr} {pos : Pos} {td ty : TE} (ho : PE X o td) (hi : PE X i ty) (hs : NoSl i) (hP : X.prog = P := by rfl) (hw : X.w = w := by rfl) (hK : X.K = K := by rfl) : PE X (.Subscript o i pos) (tDIx P w K td ty) := by
  subst hP hw hK
  intro pins s σ H Q I h
  refine subD_of PySem.F.slot_dict_getitem.lookup hs (thn (ho pins s σ H _ I h) fun u s1 ⟨x, H1, I1, rx, q1⟩ => thn (hi pins s1 σ H1 _ I1 q1) fun iv s2 ⟨y, H2, I2, ry, a, kvs, k, v, ex, ey, g, l, q2⟩ => ?_)
  subst ex ey
  obtain rfl : u = Value.ref a := rx
  obtain ⟨z, hd, vs, rel, dd⟩ := dat_of I2 g
  obtain ⟨w', hw, rw'⟩ := RelO.some_of (v := v) (o := valueAt vs k) (by rw [← l]; exact rel.val k)
  exact ⟨dd.typeIs, wpAny_getItem_of (kV_is ry) dd.mapOf hw ⟨v, H2, I2.tok _, rw', q2⟩⟩
def Itk (kvs : List (Key × V)) : It := ⟨fun i _ => i < kvs.length, fun i H x H' => H' = H ∧ ∃ p, kvs[i]? = some p ∧ x = kV p.1, fun i _ => kvs.length ≤ i⟩
theorem turn_kd {tg : Expr} {it : Addr} {o : Obj} {vs : List (Key × Value)} {ep : Nat} (l : K.lookup a = some o) (r : KV kvs vs) (d : ∀ h : Heap, h.get? a = some o → h.DictAt (mixKind P w) a vs ep) :
    Turn P w K tg (Itk kvs) [it] it (fun i h => h.IsKeyIter it a i vs.length ep) where
  mem := by simp
  obj := fun i h st b hb => by
    have e : b = it := by simpa using hb
    subst e
    obtain ⟨o, e, c, d⟩ := st
    exact ⟨o, e, fun v z => by rw [d] at z; cases z⟩
  keep := fun i h h' st k => st.at fun o e => k it (by simp) o e
  item := by
    intro X hP hw hK hc i pins s σ H E I hf st hg
    subst hP hw hK
    obtain ⟨f0, f1, f2, f3, f4, f5⟩ := hf it (by simp)
    have dd := d _ (I.bk _ _ (I.mod.kin _ _ l))
    have hl := r.length
    have hi : i < vs.length := by rw [← hl]; exact hg
    have hx : vs[i]? = some vs[i] := List.getElem?_eq_getElem hi
    have hk : kvs[i]? = some kvs[i] := List.getElem?_eq_getElem hg
    have ke : kvs[i].1 = vs[i].1 := by
      have := r.keys
      have e1 : (kvs.map (·.1))[i]? = (vs.map (·.1))[i]? := by rw [this]
      rw [List.getElem?_map, List.getElem?_map, hx, hk] at e1
      exact Option.some.inj e1
    refine wpAny_pyNext_dict_item (k := vs[i].1) (v := vs[i].2) st dd hx fun key h' hkey st' sb => ?_
    have I1 : Inv X pins σ H { s with heap := h' } := I.turned (t' := s.toks) (fun b o hb e => (sb.2 b hb).trans e) f0 f1 f3 f4 f5
    obtain ⟨o, e, c, d⟩ := id st'
    exact ⟨_, rfl, go_of (s := { s with heap := h' }) e c d (by decide) ⟨kV vs[i].1, H, I1, key_rel hkey, ⟨rfl, kvs[i], hk, by rw [ke]⟩, st', fun b hb => (hf b hb).1⟩⟩
  done := by
    intro X hP hw hK hc i pins s σ H E I hf st hg
    subst hP hw hK
    obtain ⟨f0, f1, f2, f3, f4, f5⟩ := hf it (by simp)
    have dd := d _ (I.bk _ _ (I.mod.kin _ _ l))
    have hl := r.length
    have hg : kvs.length ≤ i := hg
    exact wpAny_pyNext_dict_end (I.ok.hd hc) st dd (List.getElem?_eq_none (by omega)) fun h' eb => ⟨rfl, I.turned (t' := s.toks) (fun b o hb e => eb b o hb e) f0 f1 f3 f4 f5⟩
  self := fun _ _ _ _ _ st h => wpAny_pyIter_keyiter st h
def iKd (P : Program) (w : World) (K : PySem.W.Frag) (tl : TE) : TI := fun σ H R => tl σ H fun x H1 => ∃ a kvs, x = .ref a ∧ KDict P w K a kvs ∧ R (Itk kvs) H1
theorem pi_kd {tg l : Expr} {tl : TE} (hl : PE X l tl) (hP : X.prog = P := by rfl) (hw : X.w = w := by rfl) (hK : X.K = K := by rfl) : PI X tg l (iKd P w K tl) := by
  subst hP hw hK
  intro pins s σ H R I h
  refine thn (hl pins s σ H _ I h) fun v s1 ⟨x, H1, I1, r1, q1⟩ => ?_
  obtain ⟨a, kvs, rfl, kd, q⟩ := q1
  cases (show v = Value.ref a from r1)
  obtain ⟨o, vs, ep, lk, r, d⟩ := kd.dct
  have dd := d _ (I1.bk _ _ (I1.mod.kin _ _ lk))
  refine wpAny_pyIter_dict kd.lo dd ?_
  have I2 : Inv X pins σ H1 { s1 with heap := s1.heap.push { cls := .type "dict_keyiterator", data := .fields #[.ref a, .int 0 0, .int vs.length 0, .int ep 0] } } := I1.kept (t' := s1.toks) fun b ob q => Heap.get?_push_of_some _ q
  exact ⟨_, [s1.heap.objs.size], _, Itk kvs, H1, rfl, I2, turn_kd lk r d, ⟨_, Heap.get?_push_size _ rfl, rfl, rfl⟩, fun b hb => by
    have e : b = s1.heap.objs.size := by simpa using hb
    subst e
    exact I1.fpOk (Nat.le_refl _) (I1.hok.fresh (Nat.le_refl _)), q⟩
end
section
variable {K : PySem.W.Frag} {D : Addr} {kvs : List (Key × V)} {g : TG} {tt : TT} {tk tv : TE} {σ0 : St} {H : Hp} {Q : Hp → Prop} {a : Addr} {xs : List V}
abbrev dTurn (D : Addr) (tt : TT) (tk tv : TE) (N : St → Hp → Prop) : St → Hp → Prop := fun σ3 H3 => tt σ3 H3 fun b H4 =>
  if b = true then tk σ3 H4 fun k H5 => tv σ3 H5 fun v H6 => ∃ kvs kk, k = kV kk ∧ H6 D = some (.dK kvs) ∧ kvs.length < sizeLine ∧ N σ3 (upd H6 D (.dK (putK kvs kk v))) else N σ3 H4
theorem dcomp_kd (Pv : Nat → St → Hp → Prop) (h0 : Pv 0 σ0 (upd H D (.dK []))) (hs : ∀ i p σ H', kvs[i]? = some p → Pv i σ H' → g (kV p.1) σ H' (dTurn D tt tk tv (Pv (i + 1)))) (hd : ∀ σ H', Pv kvs.length σ H' → Q H') :
    ∃ W : Nat → Nat → St → Hp → Prop, (∃ m, W 0 m σ0 (upd H D (.dK []))) ∧ ∀ i m σ' H', W i m σ' H' →
      ((Itk kvs).stop i H' ∧ Q H') ∨ ((Itk kvs).go i H' ∧ ∃ N : St → Hp → Prop, (∀ σ2 H2, N σ2 H2 → ∃ m', m' < m ∧ W (i + 1) m' σ2 H2) ∧ ∀ x H2, (Itk kvs).yld i H' x H2 → g x σ' H2 fun σ3 H3 => tt σ3 H3 fun b H4 =>
        if b = true then tk σ3 H4 fun k H5 => tv σ3 H5 fun v H6 => ∃ kvs kk, k = kV kk ∧ H6 D = some (.dK kvs) ∧ kvs.length < sizeLine ∧ N σ3 (upd H6 D (.dK (putK kvs kk v))) else N σ3 H4) := by
  refine ⟨fun i m σ H => m = kvs.length - i ∧ i ≤ kvs.length ∧ Pv i σ H, ⟨_, rfl, Nat.zero_le _, h0⟩, ?_⟩
  rintro i m σ H1 ⟨rfl, hi, p⟩
  by_cases hlt : i < kvs.length
  · refine .inr ⟨hlt, Pv (i + 1), fun σ' H' p' => ⟨kvs.length - (i + 1), by omega, rfl, hlt, p'⟩, fun x H' y => ?_⟩
    obtain ⟨e, c, hc, e2⟩ := y
    subst e e2
    exact hs i c σ _ hc p
  · have e : i = kvs.length := by omega
    subst e
    exact .inl ⟨Nat.le_refl _, hd σ H1 p⟩
end
end L2

set_option Elab.async false
set_option linter.all false
set_option maxRecDepth 100000
set_option maxHeartbeats 4000000
namespace L2
open PySem PySem.Spec PyProof.Rows Builtin Builtin.Str
theorem one_at {x : Str} {c i : Nat} : subAt x ⟨#[c]⟩ i = true ↔ x.cps.toList[i]? = some c := by
  unfold subAt
  show (x.cps.extract i (i + 1) == #[c]) = true ↔ _
  rw [beq_iff_eq, ← Array.toList_inj, Array.toList_extract, List.extract_eq_take_drop]
  have e : i + 1 - i = 1 := by omega
  rw [e]
  rw [← List.head?_drop]
  cases x.cps.toList.drop i with
  | nil => simp
  | cons a r => simp
theorem occ_one {x : Str} {c hi limit : Nat} : ∀ (n lo : Nat) (found : Array Nat) (free : Nat), found.size + n ≤ limit → free ≤ lo → (forIn (List.range' lo n) (found, free) (StrLaws.occBody x ⟨#[c]⟩ hi limit)).run.fst.toList = found.toList ++ (List.range' lo n).filter fun i => decide (i + 1 ≤ hi) && subAt x ⟨#[c]⟩ i
  | 0, lo, found, free, _, _ => by simp
  | n + 1, lo, found, free, h1, h2 => by
    rw [List.range'_succ, List.forIn_cons, List.filter_cons]
    unfold StrLaws.occBody
    have ln : (⟨#[c]⟩ : Str).length = 1 := rfl
    by_cases hc : lo + 1 ≤ hi ∧ subAt x ⟨#[c]⟩ lo = true
    · rw [if_pos ⟨⟨⟨by show found.size < limit; omega, h2⟩, by rw [ln]; exact hc.1⟩, hc.2⟩, if_pos (by rw [Bool.and_eq_true, decide_eq_true_eq]; exact hc)]
      have := occ_one (x := x) (c := c) (hi := hi) (limit := limit) n (lo + 1) (found.push lo) (lo + 1) (by rw [Array.size_push]; omega) (Nat.le_refl _)
      show (forIn (List.range' (lo + 1) n) (found.push lo, lo + 1) (StrLaws.occBody x ⟨#[c]⟩ hi limit)).run.fst.toList = _
      rw [this, Array.toList_push, List.append_assoc]; rfl
    · rw [if_neg (fun z => hc ⟨by have := z.1.2; rw [ln] at this; exact this, z.2⟩), if_neg (by rw [Bool.and_eq_true, decide_eq_true_eq]; exact hc)]
      have := occ_one (x := x) (c := c) (hi := hi) (limit := limit) n (lo + 1) found free (by omega) (by omega)
      show (forIn (List.range' (lo + 1) n) (found, free) (StrLaws.occBody x ⟨#[c]⟩ hi limit)).run.fst.toList = _
      exact this
theorem occ_all {x : Str} {c : Nat} : occurrences x ⟨#[c]⟩ 0 x.length (x.length + 1) = (List.range' 0 (x.length + 1)).filter fun i => decide (i + 1 ≤ x.length) && subAt x ⟨#[c]⟩ i := by
  rw [StrLaws.occ_eq, occ_one _ _ _ _ (by simp) (Nat.le_refl _)]
  rfl
theorem occ_mem {x : Str} {c i : Nat} : i ∈ occurrences x ⟨#[c]⟩ 0 x.length (x.length + 1) ↔ x.cps.toList[i]? = some c := by
  rw [occ_all, List.mem_filter, Bool.and_eq_true, decide_eq_true_eq, one_at, List.mem_range'_1]
  constructor
  · exact fun h => h.2.2
  · intro h
    have hl : i < x.cps.toList.length := (List.getElem?_eq_some_iff.mp h).1
    have e : x.cps.toList.length = x.length := rfl
    exact ⟨⟨Nat.zero_le _, by omega⟩, by omega, h⟩
theorem occ_up {x : Str} {c : Nat} : (occurrences x ⟨#[c]⟩ 0 x.length (x.length + 1)).Pairwise (· < ·) := by
  rw [occ_all]
  exact List.Pairwise.filter _ List.pairwise_lt_range'
theorem parts_free {x : Str} {c : Nat} : ∀ (cuts : List Nat) (a : Nat), cuts.Pairwise (· < ·) → (∀ i ∈ cuts, a ≤ i) → (∀ i, a ≤ i → x.cps.toList[i]? = some c → i ∈ cuts) → ∀ p ∈ StrLaws.partsFrom x 1 a cuts, c ∉ p.cps.toList
  | [], a, _, _, h, p, hp => by
    have e : p = strSub x a x.length := List.mem_singleton.mp hp
    rw [e, StrLaws.strSub_toList]
    intro m
    obtain ⟨j, hj⟩ := List.mem_iff_getElem?.mp (List.mem_of_mem_take m)
    rw [List.getElem?_drop] at hj
    exact absurd (h (a + j) (by omega) hj) (by simp)
  | d :: r, a, up, lo, h, p, hp => by
    have ld := lo d List.mem_cons_self
    have up' := List.pairwise_cons.mp up
    rcases List.mem_cons.mp hp with e | hp
    · rw [e, StrLaws.strSub_toList]
      intro m
      obtain ⟨j, hj⟩ := List.mem_iff_getElem?.mp m
      rw [List.getElem?_take] at hj
      by_cases hlt : j < d - a
      · rw [if_pos hlt, List.getElem?_drop] at hj
        rcases List.mem_cons.mp (h (a + j) (by omega) hj) with z | z
        · omega
        · have := up'.1 _ z; omega
      · rw [if_neg hlt] at hj; cases hj
    · refine parts_free r (d + 1) up'.2 (fun i hi => up'.1 i hi) (fun i hi hx => ?_) p hp
      rcases List.mem_cons.mp (h i (by omega) hx) with z | z
      · omega
      · exact z
theorem split_free {x : Str} {c : Nat} (hc : c < 256) : ∀ p ∈ Txt.split x ⟨#[c]⟩, c ∉ p.cps.toList := by
  unfold Txt.split
  split
  · rename_i h
    intro p hp
    rw [List.mem_singleton.mp hp]
    rw [Bool.or_eq_true, decide_eq_true_eq, decide_eq_true_eq] at h
    rcases h with h | h
    · have h : x.length < 1 := h
      have e : x.cps.toList = [] := by
        have : x.cps.toList.length = x.length := rfl
        exact List.length_eq_zero_iff.mp (by omega)
      rw [e]; simp
    · exfalso
      have e : Builtin.Str.strKind (⟨#[c]⟩ : Str) = 1 := by
        unfold Builtin.Str.strKind
        rw [if_pos (by simp [hc])]
      rw [e] at h
      unfold Builtin.Str.strKind at h
      split at h
      · omega
      · split at h <;> omega
  · split
    · rename_i h
      intro p hp
      rw [List.mem_singleton.mp hp]
      intro m
      obtain ⟨j, hj⟩ := List.mem_iff_getElem?.mp m
      have := occ_mem.mpr hj
      rw [List.isEmpty_iff.mp h] at this
      simp at this
    · rw [StrLaws.partsBetween_eq]
      exact parts_free _ 0 occ_up (fun _ _ => Nat.zero_le _) fun i _ h => occ_mem.mpr h
theorem app_toList (x y : Str) : (x ++ y).cps.toList = x.cps.toList ++ y.cps.toList := by
  show (x.cps ++ y.cps).toList = _
  exact Array.toList_append
theorem str_ext2 {x y : Str} (h : x.cps.toList = y.cps.toList) : x = y := by
  cases x; cases y; exact congrArg Str.mk (Array.toList_inj.mp h)
theorem cut_one {c : Nat} : ∀ {x y r s : List Nat}, c ∉ x → c ∉ y → x ++ c :: r = y ++ c :: s → x = y ∧ r = s
  | [], [], r, s, _, _, e => ⟨rfl, (List.cons.inj e).2⟩
  | [], b :: y, r, s, _, hy, e => absurd (by rw [(List.cons.inj e).1]; exact List.mem_cons_self) hy
  | a :: x, [], r, s, hx, _, e => absurd (by rw [← (List.cons.inj e).1]; exact List.mem_cons_self) hx
  | a :: x, b :: y, r, s, hx, hy, e => by
    obtain ⟨e1, e2⟩ := List.cons.inj e
    obtain ⟨i1, i2⟩ := cut_one (fun m => hx (List.mem_cons_of_mem _ m)) (fun m => hy (List.mem_cons_of_mem _ m)) e2
    exact ⟨by rw [e1, i1], i2⟩
theorem join_inj {c : Nat} : ∀ {ps qs : List Str}, ps ≠ [] → qs ≠ [] → (∀ p ∈ ps, c ∉ p.cps.toList) → (∀ q ∈ qs, c ∉ q.cps.toList) → Str.join ⟨#[c]⟩ ps = Str.join ⟨#[c]⟩ qs → ps = qs
  | [], _, h, _, _, _, _ => absurd rfl h
  | _, [], _, h, _, _, _ => absurd rfl h
  | [p], [q], _, _, _, _, e => by rw [show p = q from e]
  | [p], q :: q' :: qs, _, _, hp, hq, e => by
    exfalso
    have e' : p = q ++ ⟨#[c]⟩ ++ Str.join ⟨#[c]⟩ (q' :: qs) := e
    refine hp p List.mem_cons_self ?_
    rw [e', app_toList, app_toList]
    simp
  | p :: p' :: ps, [q], _, _, hp, hq, e => by
    exfalso
    have e' : p ++ ⟨#[c]⟩ ++ Str.join ⟨#[c]⟩ (p' :: ps) = q := e
    refine hq q List.mem_cons_self ?_
    rw [← e', app_toList, app_toList]
    simp
  | p :: p' :: ps, q :: q' :: qs, _, _, hp, hq, e => by
    have e' : p ++ ⟨#[c]⟩ ++ Str.join ⟨#[c]⟩ (p' :: ps) = q ++ ⟨#[c]⟩ ++ Str.join ⟨#[c]⟩ (q' :: qs) := e
    have e2 := congrArg (fun z : Str => z.cps.toList) e'
    simp only [app_toList] at e2
    have e3 : p.cps.toList ++ c :: (Str.join ⟨#[c]⟩ (p' :: ps)).cps.toList = q.cps.toList ++ c :: (Str.join ⟨#[c]⟩ (q' :: qs)).cps.toList := by simpa using e2
    obtain ⟨i1, i2⟩ := cut_one (hp p List.mem_cons_self) (hq q List.mem_cons_self) e3
    have := join_inj (ps := p' :: ps) (qs := q' :: qs) (by simp) (by simp) (fun z m => hp z (List.mem_cons_of_mem _ m)) (fun z m => hq z (List.mem_cons_of_mem _ m)) (str_ext2 i2)
    rw [str_ext2 i1, this]
theorem split_join {c : Nat} {rows : List Str} (hc : c < 256) (h0 : rows ≠ []) (h : ∀ r ∈ rows, c ∉ r.cps.toList) : Txt.split (Str.join ⟨#[c]⟩ rows) ⟨#[c]⟩ = rows := by
  refine join_inj (c := c) ?_ h0 (split_free hc) h (StrLaws.join_split _ _)
  intro z
  have := split_pos (Str.join ⟨#[c]⟩ rows) ⟨#[c]⟩
  rw [z] at this
  simp at this
theorem are_toks : ∀ {vs : List Value} {zs : List Str}, StrsAre vs zs → ∃ l : List (Str × Tok), strValues l = vs ∧ l.map (·.1) = zs
  | _, _, .nil => ⟨[], rfl, rfl⟩
  | _, _, .cons x t h => by
    obtain ⟨l, e1, e2⟩ := are_toks h
    exact ⟨(x, t) :: l, by rw [← e1]; rfl, by rw [← e2]; rfl⟩
section
variable {X : Cx}
theorem mt_join : MtR X "str.join" (fun x vs H Q => ∃ (sep : Str) (p : Addr) (zs : List Str), x = .str sep ∧ vs = [.ref p] ∧ SqL X.K H p (zs.map V.str) ∧ (zs.map (·.length)).sum + zs.length ≤ 1000000 ∧ sep.length ≤ 16 ∧ Q (.str (Str.join sep zs)) H) := by
  intro pins s σ H x xs v us Q I rx r h
  obtain ⟨sep, p, zs, rfl, rfl, hp, hz, hs, q⟩ := h
  obtain ⟨t, rfl⟩ := rx
  obtain ⟨u, rfl, ru⟩ := Vals.one r
  cases (show u = Value.ref p from ru)
  obtain ⟨its, rv, pl, _⟩ := I.list hp
  have sa := vals_strs rv
  obtain ⟨l, hl, ht⟩ := are_toks sa
  refine SC.join (l := l) (texts := zs) (by rw [hl]; exact pl.isList) ht (joinOk_of_weight (by omega) hs) fun t' k => ?_
  refine ⟨.str (Str.join sep zs), H, I.tok _, ⟨t', ?_⟩, q⟩
  rw [← StrLaws.glued_eq_join]; rfl
theorem mt_split : MtR X "str.split" (fun x vs H Q => ∃ z sep : Str, x = .str z ∧ vs = [.str sep] ∧ (sep.length == 0) = false ∧ z.length ≤ 1000000 ∧ ∀ l, H l = none → Q (.ref l) (upd H l (.lst ((Txt.split z sep).map V.str)))) := by
  intro pins s σ H x xs v us Q I rx r h
  obtain ⟨z, sep, rfl, rfl, hs, hz, q⟩ := h
  obtain ⟨t, rfl⟩ := rx
  obtain ⟨u, rfl, ru⟩ := Vals.one r
  obtain ⟨tu, rfl⟩ := ru
  have hsz : z.length + 2 ≤ sizeLine := by rw [sizeLine_eq]; omega
  have hle : ((Txt.split z sep).map V.str).length ≤ sizeLine := by rw [List.length_map]; exact Nat.le_trans (split_le z sep) hsz
  have fin : ∀ (l : List (Str × Tok)) (k : Nat), l.map (·.1) = Txt.split z sep → EP X pins σ Q (.ref s.heap.objs.size) { s with heap := s.heap.push { cls := .type "list", data := .seq (strValues l).toArray }, toks := k } := fun l k e =>
    ⟨.ref s.heap.objs.size, _, I.lnew (t' := k) (by rw [← e]; exact strs_vals (strsAre_of_values l)) hle, rfl, q _ I.fresh⟩
  have hn : (partsBetween z (occurrences z sep 0 z.length (z.length + 1)) sep.length).length ≤ sizeLine := by
    have e1 := StrLaws.occ_length_le z sep 0 z.length (z.length + 1)
    rw [length_partsBetween]; omega
  cases h1 : (decide (z.length < sep.length) || decide (Builtin.Str.strKind z < Builtin.Str.strKind sep))
  · cases hf : (occurrences z sep 0 z.length (z.length + 1)).isEmpty
    · refine call_meets F.slot_str_split (typeIs_str _ _ _) F.entry_str_split (F.args_str_split_2 _ _) (meets_str_split_sep z sep t tu h1 hs hf (by omega) hn) ?_
      show wants _ _ _ { s with toks := _, heap := s.heap.push { cls := .type "list", data := .seq (strsFrom s.toks (partsBetween z (occurrences z sep 0 z.length (z.length + 1)) sep.length)).toArray } }
      rw [strsFrom_eq]
      exact fin (numbered s.toks _) _ ((numbered_texts _ _).trans ((if_neg (ne_true_of_eq_false h1)).trans (if_neg (ne_true_of_eq_false hf))).symm)
    · exact call_meets F.slot_str_split (typeIs_str _ _ _) F.entry_str_split (F.args_str_split_2 _ _) (meets_str_split_not_found z sep t tu h1 hs hf)
        (fin [(z, t)] s.toks ((if_neg (ne_true_of_eq_false h1)).trans (if_pos hf)).symm)
  · exact call_meets F.slot_str_split (typeIs_str _ _ _) F.entry_str_split (F.args_str_split_2 _ _) (meets_str_split_cannot_occur z sep t tu h1)
      (fin [(z, t)] s.toks (if_pos h1).symm)
theorem pe_fX {e : Expr} {te : TE} {pos : Pos} (he : PE X e te) : PE X (.FormattedValue e (-1) none pos) (fun σ H Q => te σ H fun x H1 => (∃ i : Int, x = .int i ∧ i.natAbs.log2 < 1920 ∧ Q (.str (toString i)) H1) ∨ ∃ z, x = .str z ∧ z.length ≤ sizeLine ∧ Q (.str z) H1) := by
  intro pins s σ H Q I h
  refine wpAny_FormattedValue_plain (thn (he pins s σ H _ I h) fun v s1 ⟨x, H1, I1, r1, q1⟩ => ?_)
  rcases q1 with ⟨i, rfl, hz, q⟩ | ⟨z, rfl, hz, q⟩
  · obtain ⟨t, rfl⟩ := r1
    exact wpAny_formatField_int hz ⟨.str _, H1, I1.tok _, ⟨_, rfl⟩, q⟩
  · obtain ⟨t, rfl⟩ := r1
    exact wpAny_formatField_str ⟨.str _, H1, I1, ⟨_, rfl⟩, q⟩ ⟨.str _, H1, I1.tok _, ⟨_, rfl⟩, q⟩ hz
def tJoin (tj : TJ) : TE := fun σ H Q => tj Str.empty σ H fun out H1 => out.length ≤ sizeLine ∧ Q (.str out) H1
theorem pe_joinedN {e e' : Expr} {es : List Expr} {tj : TJ} {pos : Pos} (h : PJ X (e :: e' :: es) tj) : PE X (.JoinedStr (e :: e' :: es) pos) (tJoin tj) := pe_joined h
end
end L2

set_option Elab.async false
set_option linter.all false
set_option maxRecDepth 100000
set_option maxHeartbeats 4000000
set_option pp.deepTerms false
set_option pp.deepTerms.threshold 8
set_option pp.maxSteps 1500
namespace Lw
open PySem L2
local macro_rules | `(tactic| walk_at "st") => `(tactic| repeat (first
  | refine ⟨_, rfl, ?_⟩
  | refine ⟨_, _, rfl, rfl, ?_⟩
  | refine ⟨_, _, rfl, ?_⟩
  | refine Or.inl ⟨_, _, rfl, rfl, ?_⟩
  | refine Or.inl ⟨rfl, ?_⟩
  | refine ⟨rfl, ?_⟩
  | refine Or.inl ⟨_, _, _, _, rfl, rfl, .of (by assumption), rfl, ?_⟩
  | (refine And.intro (show CMul _ _ from ?_) ?_; (first | exact Or.inr ⟨by omega, by omega⟩ | exact Or.inl ⟨by omega, by omega⟩))
  | (refine And.intro (show CDiv _ _ from ?_) ?_; exact ⟨by omega, by omega⟩)
  | (refine And.intro (show (0 : Int) < _ from ?_) ?_; first | decide | omega)))
def wordsKV : List (Key × V) := [(.inr "long", .int 2), (.inr "seekers", .int 2), (.inr "line", .int 2), (.inr "group", .int 3)]
structure TxtR (P : Program) (w : World) (K : PySem.W.Frag) (mg : Str → Option Value) (a : Adr) : Prop extends TxtP K mg a where
  n_str : mg "str" = none
  g_WORDS : mg "WORDS" = some (.ref a.WORDS)
  kd : KDict P w K a.WORDS wordsKV
  g_NoText : mg "NoText" = some (.ref a.NoText)
  x_NoText : PySem.W.excIn K a.NoText [.type "ValueError", .type "Exception", .type "BaseException", .type "object"] "ValueError.__new__" = true
def numT (n : Int) : Str := (toString n : String)
theorem numT_facts : ∀ k : Nat, k < 100 → ((numT (k : Int)).length = 1 ∨ (numT (k : Int)).length = 2) ∧ ((numT (k : Int)).cps.toList.all digC = true) ∧ ((numT (k : Int)).length = 2 → (numT (k : Int)).cps.toList.head? ≠ some 48) ∧ PySem.intText? (numT (k : Int)) = some (k : Int) := by decide +kernel
structure NumOk (n : Int) : Prop where
  lo : 0 ≤ n
  hi : n ≤ 99
theorem NumOk.nat {n : Int} (h : NumOk n) : ∃ k : Nat, n = k ∧ k < 100 := ⟨n.toNat, by have := h.lo; omega, by have := h.hi; omega⟩
theorem NumOk.len {n : Int} (h : NumOk n) : (numT n).length = 1 ∨ (numT n).length = 2 := by obtain ⟨k, rfl, hk⟩ := h.nat; exact (numT_facts k hk).1
theorem NumOk.dig {n : Int} (h : NumOk n) : Dig (numT n) := by
  obtain ⟨k, rfl, hk⟩ := h.nat
  exact fun c hc => digC_iff.mp (List.all_eq_true.mp (numT_facts k hk).2.1 c hc)
theorem NumOk.head {n : Int} (h : NumOk n) : (numT n).length = 2 → (numT n).cps.toList.head? ≠ some 48 := by obtain ⟨k, rfl, hk⟩ := h.nat; exact (numT_facts k hk).2.2.1
theorem NumOk.int {n : Int} (h : NumOk n) : PySem.intText? (numT n) = some n := by obtain ⟨k, rfl, hk⟩ := h.nat; exact (numT_facts k hk).2.2.2
theorem NumOk.small {n : Int} (h : NumOk n) : n.natAbs.log2 < 1920 := by
  obtain ⟨k, rfl, hk⟩ := h.nat
  exact Nat.lt_of_le_of_lt (Nat.log2_le_self _) (by show k < 1920; omega)
theorem dig_asc {z : Str} (h : Dig z) : Asc z := fun c hc => by have := h c hc; omega
theorem inV_int (i : Int) (ks : List Int) : inV (.int i) (ks.map V.int) = decide (i ∈ ks) := by
  unfold inV
  rw [List.any_map, Bool.eq_iff_iff, List.any_eq_true, decide_eq_true_eq]
  constructor
  · rintro ⟨k, hk, e⟩
    have e' : (k == i) = true := e
    rw [← beq_iff_eq.mp e']; exact hk
  · exact fun h => ⟨i, h, (beq_self_eq_true i : (i == i) = true)⟩
theorem at_head {z : Str} (h : z.length = 2) : ∃ c, z.cps.toList.head? = some c ∧ atI z.cps.toList 0 = some c := by
  have hl : z.cps.toList.length = 2 := h
  cases e : z.cps.toList with
  | nil => rw [e] at hl; cases hl
  | cons c r => exact ⟨c, rfl, atI_nat (j := 0) rfl⟩
def spShort : Sp := fun vs H Q _ => ∃ n : Int, vs = [.str (numT n)] ∧ NumOk n ∧ ∀ H', Same H H' → Q (.int n) H'
section
variable {P : Program} {w : World} {K : PySem.W.Frag} {mg : Str → Option Value} {base : Heap} {a : Adr}
theorem sc_short_number : FnScope ["word"] ["word"] (defScope (top 4)) := ⟨rfl, rfl, rfl, by decide +kernel, rfl, by decide +kernel, by decide +kernel⟩
theorem nm_short_number_word : Nm (defScope (top 4)) "word" := ⟨by decide +kernel, by decide +kernel, by decide +kernel⟩
theorem gm_short_number_int : Gm (defScope (top 4)) "int" := ⟨by decide +kernel, by decide +kernel, by decide +kernel⟩
theorem gm_short_number_len : Gm (defScope (top 4)) "len" := ⟨by decide +kernel, by decide +kernel, by decide +kernel⟩
theorem gm_short_number_are_figures : Gm (defScope (top 4)) "are_figures" := ⟨by decide +kernel, by decide +kernel, by decide +kernel⟩
theorem ok_short {f : Addr} {fd : FuncData} (F : Fun K "short_number" "short_number" (top 4) f fd) (T : TxtR P w K mg a) (D_are_figures : FnIn P w K mg base CX0 1 "are_figures" ["text"] spFigs) : FnOk P w K mg base CX0 2 f fd ["word"] spShort := by
  refine F.ok sc_short_number (fun vs H Q E h => ?_) (fun cdv A outer s H vs Q E hr h => ?_)
  · obtain ⟨n, rfl, _⟩ := h
    rfl
  · obtain ⟨n, rfl, ok, q⟩ := h
    have hu := hr.units
    have nl := ok.len
    have nd := ok.dig
    have nh := ok.head
    have ni := ok.int
    generalize numT n = z at nl nd nh ni ⊢
    have zl : z.length ≤ 2 := by omega
    refine ⟨_, (@pss_cons _ _ _ _ _ (ps_if (PW.pt (pw_or (pt_cmpR op_notInG (pe_cb call_lenG gm_short_number_len T.n_len bt_len (pa_cons (pvN 0 nm_short_number_word) pa_nil)) (pe_tup (pa_cons pe_int (pa_cons pe_int pa_nil))) (by with_unfolding_all rfl)) (pw_or1 (pt_not (pt_val (pe_fd D_are_figures gm_short_number_are_figures (hr.mono (by decide)) pass0 (pa_cons (pvN 0 nm_short_number_word) pa_nil))))))) (pss_one (ps_ret pe_non)) pss_nil)
        (pss_cons (ps_if (PW.pt (pw_and (pt_cmpR (op_eqG hu) (pe_cb call_lenG gm_short_number_len T.n_len bt_len (pa_cons (pvN 0 nm_short_number_word) pa_nil)) pe_int (nomark _)) (pw_and1 (pt_cmpR (op_eqG hu) (pe_ix ix_seq (pvN 0 nm_short_number_word) pe_int (fun _ _ => rfl)) pe_str (nomark _))))) (pss_one (ps_ret pe_non)) pss_nil)
        (pss_one (ps_ret (pe_ct call_intA gm_short_number_int T.n_int bt_int (pa_cons (pvN 0 nm_short_number_word) pa_nil)))))), ?_⟩
    walk_at "st"
    refine Or.inl ⟨z, rfl, (by rw [sizeLine_eq]; omega), ?_⟩
    walk_at "st"
    refine ⟨(by show 2 ≤ sizeLine; decide), fun t ht => ?_⟩
    have s1 := (Same.refl H).upd (o := .tup [.int 1, .int 2]) ht
    have e1 : (upd H t (.tup [.int 1, .int 2])) t = some (.tup [.int 1, .int 2]) := upd_same
    generalize upd H t (.tup [.int 1, .int 2]) = H1 at s1 e1 ⊢
    refine Or.inr ⟨t, _, rfl, .inr (.of e1), rfl, rfl, ?_⟩
    have ein : inV (.int (z.length : Int)) ([1, 2].map V.int) = true := by
      rw [inV_int]
      exact decide_eq_true (by simp; omega)
    have ein' : inV (.int (z.length : Int)) [V.int 1, V.int 2] = true := ein
    rw [ein']
    walk_at "st"
    refine ⟨dig_asc nd, by omega, fun b H2 hb s2 => ?_⟩
    rw [show b = true from hb.mpr nd]
    walk_at "st"
    refine Or.inl ⟨z, rfl, (by rw [sizeLine_eq]; omega), ?_⟩
    walk_at "st"
    by_cases h2 : z.length = 2
    · rw [decide_eq_true (congrArg V.int (show (z.length : Int) = 2 by omega))]
      walk_at "st"
      obtain ⟨c, hc, ec⟩ := at_head h2
      refine Or.inr (Or.inr ⟨z, 0, c, rfl, rfl, (by rw [sizeLine_eq]; omega), ec, ?_⟩)
      walk_at "st"
      have cn : ¬ (V.str ⟨#[c]⟩ = V.str "0") := fun e => by
        have e1 : (⟨#[c]⟩ : Str) = "0" := by injection e
        have e2 : c = 48 := by
          have := congrArg (fun s : Str => s.cps.toList) e1
          have e3 : [c] = [48] := this
          exact (List.cons.inj e3).1
        exact nh h2 (by rw [hc, e2])
      rw [decide_eq_false cn]
      refine iteF ?_
      walk_at "st"
      exact Or.inr (Or.inr ⟨z, n, rfl, ni, by omega, q _ (s1.trans s2)⟩)
    · rw [decide_eq_false (fun e => h2 (by have := V.int.inj e; omega))]
      refine iteF ?_
      walk_at "st"
      exact Or.inr (Or.inr ⟨z, n, rfl, ni, by omega, q _ (s1.trans s2)⟩)
end
end Lw

set_option Elab.async false
set_option linter.all false
set_option maxRecDepth 100000
set_option maxHeartbeats 4000000
set_option pp.deepTerms false
set_option pp.deepTerms.threshold 8
set_option pp.maxSteps 1500
namespace Lw
open PySem L2
local macro_rules | `(tactic| walk_at "st") => `(tactic| repeat (first
  | refine ⟨_, rfl, ?_⟩
  | refine ⟨_, _, rfl, rfl, ?_⟩
  | refine ⟨_, _, rfl, ?_⟩
  | refine Or.inl ⟨_, _, rfl, rfl, ?_⟩
  | refine Or.inl ⟨rfl, ?_⟩
  | refine ⟨rfl, ?_⟩
  | refine Or.inl ⟨_, _, _, _, rfl, rfl, .of (by assumption), rfl, ?_⟩
  | (refine And.intro (show CMul _ _ from ?_) ?_; (first | exact Or.inr ⟨by omega, by omega⟩ | exact Or.inl ⟨by omega, by omega⟩))
  | (refine And.intro (show CDiv _ _ from ?_) ?_; exact ⟨by omega, by omega⟩)
  | (refine And.intro (show (0 : Int) < _ from ?_) ?_; first | decide | omega)))
inductive Row where
  | lng (n : Int) | sek (n : Int) | lin (z : Str) | grp (z : Str) (n : Int)
def rowW : Row → List Str
  | .lng n => ["long", numT n]
  | .sek n => ["seekers", numT n]
  | .lin z => ["line", z]
  | .grp z n => ["group", z, numT n]
structure DigOk (z : Str) : Prop where
  dig : Dig z
  lo : 1 ≤ z.length
  hi : z.length ≤ 20
def RowOk : Row → Prop
  | .lng n => NumOk n
  | .sek n => NumOk n
  | .lin z => DigOk z
  | .grp z n => DigOk z ∧ NumOk n
theorem NumOk.digOk {n : Int} (h : NumOk n) : DigOk (numT n) := ⟨h.dig, by have := h.len; omega, by have := h.len; omega⟩
theorem DigOk.ne {z : Str} (h : DigOk z) : ¬ (Str.ofString "" = z) := fun e => by
  have := h.lo
  rw [← e] at this
  exact absurd this (by decide)
theorem row_facts {r : Row} (h : RowOk r) : ∃ (kd : Str) (m : Int) (ws : List Str), rowW r = kd :: ws ∧ valV wordsKV (.inr kd) = some (.int m) ∧ ((rowW r).length : Int) = m ∧ Str.ofString "" ∉ rowW r ∧ (PySem.reprText kd).length ≤ 100 ∧ 0 ≤ m ∧ m ≤ 3 := by
  have k0 : ∀ k : String, k ∈ ["long", "seekers", "line", "group"] → ¬ (Str.ofString "" = Str.ofString k) := by decide +kernel
  cases r with
  | lng n => exact ⟨"long", 2, [numT n], rfl, by decide +kernel, rfl, by simp only [rowW, List.mem_cons, List.not_mem_nil, or_false, not_or]; exact ⟨k0 "long" (by simp), (NumOk.digOk h).ne⟩, by decide +kernel, by decide, by decide⟩
  | sek n => exact ⟨"seekers", 2, [numT n], rfl, by decide +kernel, rfl, by simp only [rowW, List.mem_cons, List.not_mem_nil, or_false, not_or]; exact ⟨k0 "seekers" (by simp), (NumOk.digOk h).ne⟩, by decide +kernel, by decide, by decide⟩
  | lin z => exact ⟨"line", 2, [z], rfl, by decide +kernel, rfl, by simp only [rowW, List.mem_cons, List.not_mem_nil, or_false, not_or]; exact ⟨k0 "line" (by simp), DigOk.ne h⟩, by decide +kernel, by decide, by decide⟩
  | grp z n => exact ⟨"group", 3, [z, numT n], rfl, by decide +kernel, rfl, by simp only [rowW, List.mem_cons, List.not_mem_nil, or_false, not_or]; exact ⟨k0 "group" (by simp), h.1.ne, h.2.digOk.ne⟩, by decide +kernel, by decide, by decide⟩
def spCheckRow : Sp := fun vs H Q _ => ∃ (p : Addr) (r : Row), vs = [.ref p] ∧ H p = some (.lst ((rowW r).map V.str)) ∧ RowOk r ∧ Q .non H
def spReadNum : Sp := fun vs H Q _ => ∃ n : Int, vs = [.str (numT n)] ∧ NumOk n ∧ ∀ H', Same H H' → Q (.int n) H'
def spReadRow : Sp := fun vs H Q _ => ∃ (p : Addr) (r : Row), vs = [.ref p] ∧ H p = some (.lst ((rowW r).map V.str)) ∧ RowOk r ∧
  match r with
  | .lng n => ∀ H', Same H H' → Q (.int n) H'
  | .sek n => ∀ H', Same H H' → Q (.int n) H'
  | .lin z => Q (.str z) H
  | .grp z n => ∀ H' t, Same H H' → H t = none → H' t = some (.tup [.str z, .int n]) → Q (.ref t) H'
section
variable {P : Program} {w : World} {K : PySem.W.Frag} {mg : Str → Option Value} {base : Heap} {a : Adr}
theorem sc_read_number : FnScope ["word", "number"] ["word"] (defScope (top 25)) := ⟨rfl, rfl, rfl, by decide +kernel, rfl, by decide +kernel, by decide +kernel⟩
theorem nm_read_number_word : Nm (defScope (top 25)) "word" := ⟨by decide +kernel, by decide +kernel, by decide +kernel⟩
theorem nm_read_number_number : Nm (defScope (top 25)) "number" := ⟨by decide +kernel, by decide +kernel, by decide +kernel⟩
theorem gm_read_number_NoText : Gm (defScope (top 25)) "NoText" := ⟨by decide +kernel, by decide +kernel, by decide +kernel⟩
theorem gm_read_number_short_number : Gm (defScope (top 25)) "short_number" := ⟨by decide +kernel, by decide +kernel, by decide +kernel⟩
theorem ok_readnum {f : Addr} {fd : FuncData} (F : Fun K "read_number" "read_number" (top 25) f fd) (T : TxtR P w K mg a) (D_short_number : FnIn P w K mg base CX0 2 "short_number" ["word"] spShort) : FnOk P w K mg base (CXE P w) 3 f fd ["word"] spReadNum := by
  refine F.okX sc_read_number (fun vs H Q E h => ?_) (fun cdv A outer s H vs Q E hr h => ?_)
  · obtain ⟨n, rfl, _⟩ := h
    rfl
  · obtain ⟨n, rfl, ok, q⟩ := h
    have hu := hr.units
    have nd := sc_read_number.nd
    refine ⟨_, (@pss_cons _ _ _ _ _ (ps_nm 1 nd nm_read_number_number (pe_fd D_short_number gm_read_number_short_number (hr.mono (by decide)) pass0 (pa_cons (pvN 0 nm_read_number_word) pa_nil)))
        (pss_cons (ps_if (pt_cmpR op_isN (pvN 1 nm_read_number_number) pe_non (nomark _)) (pss_one (ps_rs throws_def gm_read_number_NoText rfl T.x_NoText T.g_NoText (pa_cons (pe_joinedN (pj_cons (pe_fRepr (pvN 0 nm_read_number_word)) (pj_cons pe_str pj_nil))) pa_nil))) pss_nil)
        (pss_one (ps_ret (pvN 1 nm_read_number_number))))), ?_⟩
    walk_at "st"
    refine ⟨ok, fun H1 s1 => ?_⟩
    walk_at "st"
    exact q _ s1
theorem sc_check_row : FnScope ["words", "kind"] ["words"] (defScope (top 23)) := ⟨rfl, rfl, rfl, by decide +kernel, rfl, by decide +kernel, by decide +kernel⟩
theorem nm_check_row_words : Nm (defScope (top 23)) "words" := ⟨by decide +kernel, by decide +kernel, by decide +kernel⟩
theorem nm_check_row_kind : Nm (defScope (top 23)) "kind" := ⟨by decide +kernel, by decide +kernel, by decide +kernel⟩
theorem gm_check_row_len : Gm (defScope (top 23)) "len" := ⟨by decide +kernel, by decide +kernel, by decide +kernel⟩
theorem gm_check_row_WORDS : Gm (defScope (top 23)) "WORDS" := ⟨by decide +kernel, by decide +kernel, by decide +kernel⟩
theorem gm_check_row_NoText : Gm (defScope (top 23)) "NoText" := ⟨by decide +kernel, by decide +kernel, by decide +kernel⟩
theorem ok_checkrow {f : Addr} {fd : FuncData} (F : Fun K "check_row" "check_row" (top 23) f fd) (T : TxtR P w K mg a) : FnOk P w K mg base (CXE P w) 1 f fd ["words"] spCheckRow := by
  refine F.okX sc_check_row (fun vs H Q E h => ?_) (fun cdv A outer s H vs Q E hr h => ?_)
  · obtain ⟨p, r, rfl, _⟩ := h
    rfl
  · obtain ⟨p, r, rfl, hp, ok, q⟩ := h
    have hu := hr.units
    have nd := sc_check_row.nd
    obtain ⟨kd, m, ws, e1, e2, e3, e4, e5, m0, m1⟩ := row_facts ok
    generalize rowW r = rw_ at hp e1 e3 e4
    subst e1
    refine ⟨_, (@pss_cons _ _ _ _ _ (ps_nm 1 nd nm_check_row_kind (pe_ix ix_seq (pvN 0 nm_check_row_words) pe_int (fun _ _ => rfl)))
        (pss_cons (ps_if (pt_cmpR (op_dNotIn (P := P) (w := w) (K := K)) (pvN 1 nm_check_row_kind) (pe_gm (v := .ref a.WORDS) gm_check_row_WORDS T.g_WORDS rfl) (by with_unfolding_all rfl)) (pss_one (ps_rs throws_def gm_check_row_NoText rfl T.x_NoText T.g_NoText (pa_cons (pe_joinedN (pj_cons pe_str (pj_cons (pe_fRepr (pvN 1 nm_check_row_kind)) pj_nil))) pa_nil))) pss_nil)
        (pss_one (ps_if (PW.pt (pw_or (pt_cmpR (op_neG hu) (pe_cb call_lenG gm_check_row_len T.n_len bt_len (pa_cons (pvN 0 nm_check_row_words) pa_nil)) (pe_dix (P := P) (w := w) (K := K) (pe_gm (v := .ref a.WORDS) gm_check_row_WORDS T.g_WORDS rfl) (pvN 1 nm_check_row_kind) (fun _ _ => rfl)) (nomark _)) (pw_or1 (pt_cmpR op_inG pe_str (pvN 0 nm_check_row_words) (by with_unfolding_all rfl))))) (pss_one (ps_rs throws_def gm_check_row_NoText rfl T.x_NoText T.g_NoText (pa_cons (pe_joinedN (pj_cons pe_str (pj_cons (pe_fRepr (pvN 1 nm_check_row_kind)) (pj_cons pe_str (pj_cons (pe_fX (pe_dix (P := P) (w := w) (K := K) (pe_gm (v := .ref a.WORDS) gm_check_row_WORDS T.g_WORDS rfl) (pvN 1 nm_check_row_kind) (fun _ _ => rfl))) (pj_cons pe_str pj_nil)))))) pa_nil))) pss_nil)))), ?_⟩
    walk_at "st"
    have e0 : atI ((kd :: ws).map V.str) 0 = some (.str kd) := atI_nat (j := 0) rfl
    refine Or.inl ⟨p, _, _, _, rfl, rfl, .of hp, e0, ?_⟩
    walk_at "st"
    refine ⟨a.WORDS, wordsKV, .inr kd, rfl, rfl, .inr T.kd, ?_⟩
    rw [e2]
    walk_at "st"
    refine Or.inr ⟨_, _, rfl, .inl (.of hp), ?_⟩
    walk_at "st"
    refine ⟨a.WORDS, wordsKV, .inr kd, _, rfl, rfl, .inr T.kd, e2, ?_⟩
    walk_at "st"
    rw [List.length_map, decide_eq_true (congrArg V.int e3)]
    walk_at "st"
    refine Or.inr ⟨p, _, rfl, .inl (.of hp), rfl, flat_str _, ?_⟩
    rw [inV_str, decide_eq_false e4]
    walk_at "st"
    exact q
theorem sc_read_row : FnScope ["words"] ["words"] (defScope (top 24)) := ⟨rfl, rfl, rfl, by decide +kernel, rfl, by decide +kernel, by decide +kernel⟩
theorem nm_read_row_words : Nm (defScope (top 24)) "words" := ⟨by decide +kernel, by decide +kernel, by decide +kernel⟩
theorem gm_read_row_read_number : Gm (defScope (top 24)) "read_number" := ⟨by decide +kernel, by decide +kernel, by decide +kernel⟩
theorem ok_readrow {f : Addr} {fd : FuncData} (F : Fun K "read_row" "read_row" (top 24) f fd) (T : TxtR P w K mg a) (D_read_number : FnIn P w K mg base (CXE P w) 3 "read_number" ["word"] spReadNum) : FnOk P w K mg base (CXE P w) 4 f fd ["words"] spReadRow := by
  refine F.okX sc_read_row (fun vs H Q E h => ?_) (fun cdv A outer s H vs Q E hr h => ?_)
  · obtain ⟨p, r, rfl, _⟩ := h
    rfl
  · obtain ⟨p, r, rfl, hp, ok, q⟩ := h
    have hu := hr.units
    have nd := sc_read_row.nd
    refine ⟨_, (@pss_cons _ _ _ _ _ (ps_if (pt_cmpR (op_eqG hu) (pe_ix ix_seq (pvN 0 nm_read_row_words) pe_int (fun _ _ => rfl)) pe_str (nomark _)) (pss_one (ps_ret (pe_ix ix_seq (pvN 0 nm_read_row_words) pe_int (fun _ _ => rfl)))) pss_nil)
        (pss_cons (ps_if (pt_cmpR (op_eqG hu) (pe_ix ix_seq (pvN 0 nm_read_row_words) pe_int (fun _ _ => rfl)) pe_str (nomark _)) (pss_one (ps_ret (pe_tup (pa_cons (pe_ix ix_seq (pvN 0 nm_read_row_words) pe_int (fun _ _ => rfl)) (pa_cons (pe_fd D_read_number gm_read_row_read_number (hr.mono (by decide)) pass_on (pa_cons (pe_ix ix_seq (pvN 0 nm_read_row_words) pe_int (fun _ _ => rfl)) pa_nil)) pa_nil))))) pss_nil)
        (pss_one (ps_ret (pe_fd D_read_number gm_read_row_read_number (hr.mono (by decide)) pass_on (pa_cons (pe_ix ix_seq (pvN 0 nm_read_row_words) pe_int (fun _ _ => rfl)) pa_nil)))))), ?_⟩
    walk_at "st"
    cases r with
    | lng n =>
      walk_at "st"
      exact ⟨ok, q⟩
    | sek n =>
      walk_at "st"
      exact ⟨ok, q⟩
    | lin z =>
      walk_at "st"
      exact q
    | grp z n =>
      walk_at "st"
      refine ⟨ok.2, fun H1 s1 => ?_⟩
      walk_at "st"
      refine ⟨(by show 2 ≤ sizeLine; decide), fun t ht => ?_⟩
      exact q _ t (s1.upd ht) (s1.free ht) upd_same
end
end Lw

set_option Elab.async false
set_option linter.all false
set_option maxRecDepth 100000
namespace L2
open PySem PySem.Spec PyProof.Rows
section
variable {K : PySem.W.Frag} {a D : Addr} {xs : List V} {g : TG} {tt : TT} {te : TE} {σ0 : St} {H : Hp} {Q : Hp → Prop}
theorem comp_tup (Pv : Nat → St → Hp → Prop) (h0 : Pv 0 σ0 (upd H D (.lst []))) (hl : ∀ i σ H, i ≤ xs.length → Pv i σ H → SqT K H a xs)
    (hs : ∀ i x σ H', xs[i]? = some x → Pv i σ H' → g x σ H' (cTurn D tt te (Pv (i + 1)))) (hd : ∀ σ H', Pv xs.length σ H' → Q H') :
    ∃ W : Nat → Nat → St → Hp → Prop, (∃ m, W 0 m σ0 (upd H D (.lst []))) ∧ ∀ i m σ' H', W i m σ' H' →
      ((Itt K a).stop i H' ∧ Q H') ∨ ((Itt K a).go i H' ∧ ∃ N : St → Hp → Prop, (∀ σ2 H2, N σ2 H2 → ∃ m', m' < m ∧ W (i + 1) m' σ2 H2) ∧ ∀ x H2, (Itt K a).yld i H' x H2 → g x σ' H2 fun σ3 H3 => tt σ3 H3 fun b H4 =>
        if b = true then te σ3 H4 fun v H5 => ∃ ys, H5 D = some (.lst ys) ∧ ys.length < sizeLine ∧ N σ3 (upd H5 D (.lst (ys ++ [v]))) else N σ3 H4) := by
  refine ⟨fun i m σ H => m = xs.length - i ∧ i ≤ xs.length ∧ Pv i σ H, ⟨xs.length, by simp, Nat.zero_le _, h0⟩, ?_⟩
  rintro i m σ H1 ⟨rfl, hi, p⟩
  have q := hl i σ H1 hi p
  by_cases hlt : i < xs.length
  · refine .inr ⟨⟨xs, xs[i], q, by simp [hlt]⟩, Pv (i + 1), fun σ' H' p' => ⟨xs.length - (i + 1), by omega, rfl, hlt, p'⟩, fun x H' y => ?_⟩
    obtain ⟨rfl, hy⟩ := y
    exact hs i x σ _ (hy xs q) p
  · have e : i = xs.length := by omega
    subst e
    exact .inl ⟨⟨xs, q, Nat.le_refl _⟩, hd σ H1 p⟩
end
end L2

set_option Elab.async false
set_option linter.all false
set_option maxRecDepth 100000
set_option maxHeartbeats 4000000
set_option pp.deepTerms false
set_option pp.deepTerms.threshold 8
set_option pp.maxSteps 1500
namespace Lw
open PySem L2
local macro_rules | `(tactic| walk_at "st") => `(tactic| repeat (first
  | refine ⟨_, rfl, ?_⟩
  | refine ⟨_, _, rfl, rfl, ?_⟩
  | refine ⟨_, _, rfl, ?_⟩
  | refine Or.inl ⟨_, _, rfl, rfl, ?_⟩
  | refine Or.inl ⟨rfl, ?_⟩
  | refine ⟨rfl, ?_⟩
  | refine Or.inl ⟨_, _, _, _, rfl, rfl, .of (by assumption), rfl, ?_⟩
  | (refine And.intro (show CMul _ _ from ?_) ?_; (first | exact Or.inr ⟨by omega, by omega⟩ | exact Or.inl ⟨by omega, by omega⟩))
  | (refine And.intro (show CDiv _ _ from ?_) ?_; exact ⟨by omega, by omega⟩)
  | (refine And.intro (show (0 : Int) < _ from ?_) ?_; first | decide | omega)))
def rowT : Row → Str
  | .lng n => "long " ++ numT n
  | .sek n => "seekers " ++ numT n
  | .lin z => "line " ++ z
  | .grp z n => "group " ++ z ++ " " ++ numT n
theorem emp_app (x : Str) : Str.empty ++ x = x := str_ext2 (by rw [app_toList]; rfl)
theorem app_assoc (x y z : Str) : x ++ y ++ z = x ++ (y ++ z) := str_ext2 (by rw [app_toList, app_toList, app_toList, app_toList, List.append_assoc])
theorem rowT_join (r : Row) : rowT r = Str.join ⟨#[32]⟩ (rowW r) := by
  have e1 : (Str.ofString "long ") = Str.ofString "long" ++ ⟨#[32]⟩ := by decide +kernel
  have e2 : (Str.ofString "seekers ") = Str.ofString "seekers" ++ ⟨#[32]⟩ := by decide +kernel
  have e3 : (Str.ofString "line ") = Str.ofString "line" ++ ⟨#[32]⟩ := by decide +kernel
  have e4 : (Str.ofString "group ") = Str.ofString "group" ++ ⟨#[32]⟩ := by decide +kernel
  have e5 : (Str.ofString " ") = ⟨#[32]⟩ := by decide +kernel
  cases r with
  | lng n => show Str.ofString "long " ++ numT n = Str.ofString "long" ++ ⟨#[32]⟩ ++ numT n; rw [e1]
  | sek n => show Str.ofString "seekers " ++ numT n = Str.ofString "seekers" ++ ⟨#[32]⟩ ++ numT n; rw [e2]
  | lin z => show Str.ofString "line " ++ z = Str.ofString "line" ++ ⟨#[32]⟩ ++ z; rw [e3]
  | grp z n =>
    show Str.ofString "group " ++ z ++ Str.ofString " " ++ numT n = Str.ofString "group" ++ ⟨#[32]⟩ ++ (z ++ ⟨#[32]⟩ ++ numT n)
    rw [e4, e5]
    simp only [app_assoc]
def rowsOf (long seekers : Int) (zs : List Str) (gz : List (Str × Int)) : List Row := .lng long :: .sek seekers :: (zs.map .lin ++ gz.map fun g => .grp g.1 g.2)
structure PlanAt (K : PySem.W.Frag) (H : Hp) (C p : Addr) (long seekers : Int) (zs : List Str) (gz : List (Str × Int)) : Prop where
  ins : ∃ dx lt gt ts, H p = some (.ins C dx (planF long lt seekers gt)) ∧ H lt = some (.tup (zs.map V.str)) ∧ H gt = some (.tup (ts.map prV)) ∧ Lay H ts ∧ ts.map (·.2) = gz
  pc : PlC K C
  l : NumOk long
  s : NumOk seekers
  z : zs.length ≤ 60 ∧ ∀ z ∈ zs, DigOk z
  g : gz.length ≤ 40 ∧ ∀ g ∈ gz, DigOk g.1 ∧ NumOk g.2
theorem PlanAt.rows {K : PySem.W.Frag} {H : Hp} {C p : Addr} {long seekers : Int} {zs : List Str} {gz : List (Str × Int)} (h : PlanAt K H C p long seekers zs gz) : ∀ r ∈ rowsOf long seekers zs gz, RowOk r := fun r hr => by
  simp only [rowsOf, List.mem_cons, List.mem_append, List.mem_map] at hr
  rcases hr with rfl | rfl | ⟨z, hz, rfl⟩ | ⟨g, hg, rfl⟩
  · exact h.l
  · exact h.s
  · exact h.z.2 z hz
  · exact h.g.2 g hg
theorem rowT_len {r : Row} (h : RowOk r) : (rowT r).length ≤ 50 := by
  have e1 : (Str.ofString "long ").length = 5 := by decide +kernel
  have e2 : (Str.ofString "seekers ").length = 8 := by decide +kernel
  have e3 : (Str.ofString "line ").length = 5 := by decide +kernel
  have e4 : (Str.ofString "group ").length = 6 := by decide +kernel
  have e5 : (Str.ofString " ").length = 1 := by decide +kernel
  cases r with
  | lng n => have := NumOk.len h; show (Str.ofString "long " ++ numT n).length ≤ 50; rw [app_len]; omega
  | sek n => have := NumOk.len h; show (Str.ofString "seekers " ++ numT n).length ≤ 50; rw [app_len]; omega
  | lin z => have := DigOk.hi h; show (Str.ofString "line " ++ z).length ≤ 50; rw [app_len]; omega
  | grp z n => have := h.1.hi; have := NumOk.len h.2; show (Str.ofString "group " ++ z ++ Str.ofString " " ++ numT n).length ≤ 50; rw [app_len, app_len, app_len]; omega
theorem sum_len {rs : List Row} : (∀ r ∈ rs, RowOk r) → ((rs.map rowT).map (·.length)).sum ≤ rs.length * 50 := fun h => by
  induction rs with
  | nil => simp
  | cons r rs ih =>
    have := rowT_len (h r List.mem_cons_self)
    have i := ih fun x hx => h x (List.mem_cons_of_mem _ hx)
    simp only [List.map_cons, List.sum_cons, List.length_cons]
    omega
def nlS : Str := ⟨#[10]⟩
def spPlanText (K : PySem.W.Frag) (a : Adr) : Sp := fun vs H Q _ => ∃ (p : Addr) (long seekers : Int) (zs : List Str) (gz : List (Str × Int)), vs = [.ref p] ∧ PlanAt K H a.Plan p long seekers zs gz ∧ ∀ H', Same H H' → Q (.str (Str.join nlS ((rowsOf long seekers zs gz).map rowT))) H'
section
variable {P : Program} {w : World} {K : PySem.W.Frag} {mg : Str → Option Value} {base : Heap} {a : Adr}
theorem sc_plan_text : FnScope ["plan", "rows"] ["plan"] (defScope (top 21)) := ⟨rfl, rfl, rfl, by decide +kernel, rfl, by decide +kernel, by decide +kernel⟩
theorem nm_plan_text_plan : Nm (defScope (top 21)) "plan" := ⟨by decide +kernel, by decide +kernel, by decide +kernel⟩
theorem nm_plan_text_rows : Nm (defScope (top 21)) "rows" := ⟨by decide +kernel, by decide +kernel, by decide +kernel⟩
def csc_plan_text_0 : Scope := { kind := .function, names := [(".0", .local), ("prefix", .local), ("many", .local)], isGenerator := false, isCoroutine := false, more := [] }
theorem cs_plan_text_0 : CompSc csc_plan_text_0 (defScope (top 21)) ["prefix", "many"] ["plan", "rows"] [none, none] := CompSc.mk' rfl (by decide +kernel) (by decide +kernel) (by decide +kernel) (by decide +kernel) rfl (by decide +kernel)
theorem nmc_plan_text_0_prefix : Nm csc_plan_text_0 "prefix" := ⟨by decide +kernel, by decide +kernel, by decide +kernel⟩
theorem nmc_plan_text_0_many : Nm csc_plan_text_0 "many" := ⟨by decide +kernel, by decide +kernel, by decide +kernel⟩
def csc_plan_text_1 : Scope := { kind := .function, names := [(".0", .local), ("number", .local)], isGenerator := false, isCoroutine := false, more := [] }
theorem cs_plan_text_1 : CompSc csc_plan_text_1 (defScope (top 21)) ["number"] ["plan", "rows"] [none] := CompSc.mk' rfl (by decide +kernel) (by decide +kernel) (by decide +kernel) (by decide +kernel) rfl (by decide +kernel)
theorem nmc_plan_text_1_number : Nm csc_plan_text_1 "number" := ⟨by decide +kernel, by decide +kernel, by decide +kernel⟩
theorem ok_plantext {f : Addr} {fd : FuncData} (F : Fun K "plan_text" "plan_text" (top 21) f fd) (T : TxtR P w K mg a) : FnOk P w K mg base CX0 1 f fd ["plan"] (spPlanText K a) := by
  refine F.ok sc_plan_text (fun vs H Q E h => ?_) (fun cdv A outer s H vs Q E hr h => ?_)
  · obtain ⟨p, long, seekers, zs, gz, rfl, _⟩ := h
    rfl
  · obtain ⟨p, long, seekers, zs, gz, rfl, pa, q⟩ := h
    have hu := hr.units
    have nd := sc_plan_text.nd
    have rok := pa.rows
    obtain ⟨dx, lt, gt, ts, hp, hlt, hgt, lay, eg⟩ := pa.ins
    have pc := pa.pc
    have el : (Str.empty ++ Str.ofString "long ").length = 5 := by decide +kernel
    have es : (Str.empty ++ Str.ofString "seekers ").length = 8 := by decide +kernel
    have nl := pa.l.len
    have ns := pa.s.len
    refine ⟨_, (@pss_cons _ _ _ _ _ (ps_nm 1 nd nm_plan_text_rows (pe_lst (pa_cons (pe_joinedN (pj_cons pe_str (pj_cons (pe_fX (pe_fld (pvN 0 nm_plan_text_plan) rfl)) pj_nil))) (pa_cons (pe_joinedN (pj_cons pe_str (pj_cons (pe_fX (pe_fld (pvN 0 nm_plan_text_plan) rfl)) pj_nil))) pa_nil))))
        (pss_cons (ps_expr (pe_bm PySem.F.plainAttrs_list PySem.F.slot_list_extend PySem.F.type_list_extend mt_extend (pvN 1 nm_plan_text_rows) (pa_cons (pe_comp rfl cs_plan_text_1 (pi_tup (pe_fld (pvN 0 nm_plan_text_plan) rfl)) (fun cl C fp pins s₂ H₂ => (pg_nm 0 cs_plan_text_1.nd nmc_plan_text_1_number.comp)) (fun cl C fp pins s₂ H₂ => pts_nil) (fun cl C fp pins s₂ H₂ => (pe_joinedN (pj_cons pe_str (pj_cons (pe_fX (pvN 0 nmc_plan_text_1_number.comp)) pj_nil))))) pa_nil)))
        (pss_cons (ps_expr (pe_bm PySem.F.plainAttrs_list PySem.F.slot_list_extend PySem.F.type_list_extend mt_extend (pvN 1 nm_plan_text_rows) (pa_cons (pe_comp rfl cs_plan_text_0 (pi_tup (pe_fld (pvN 0 nm_plan_text_plan) rfl)) (fun cl C fp pins s₂ H₂ => (pg_tupB (X := cxComp _ _ _ cl C fp pins s₂ H₂) K rfl 2 rfl (pgs_cons (pg_nm 0 cs_plan_text_0.nd nmc_plan_text_0_prefix.comp) (pgs_cons (pg_nm 1 cs_plan_text_0.nd nmc_plan_text_0_many.comp) pgs_nil)) rfl rfl)) (fun cl C fp pins s₂ H₂ => pts_nil) (fun cl C fp pins s₂ H₂ => (pe_joinedN (pj_cons pe_str (pj_cons (pe_fX (pvN 0 nmc_plan_text_0_prefix.comp)) (pj_cons pe_str (pj_cons (pe_fX (pvN 1 nmc_plan_text_0_many.comp)) pj_nil))))))) pa_nil)))
        (pss_one (ps_ret (pe_bm PySem.F.plainAttrs_str PySem.F.slot_str_join PySem.F.type_str_join mt_join pe_str (pa_cons (pvN 1 nm_plan_text_rows) pa_nil))))))), ?_⟩
    walk_at "st"
    refine ⟨(by rw [el, sizeLine_eq]; omega), ?_⟩
    walk_at "st"
    refine ⟨p, a.Plan, dx, _, _, rfl, hp, pc.cls, pc.l, rfl, ?_⟩
    refine Or.inl ⟨long, rfl, pa.l.small, ?_⟩
    walk_at "st"
    have f1 : Str.empty ++ Str.ofString "long " ++ Str.ofString (toString long) = rowT (.lng long) := by rw [emp_app]; rfl
    have z1 := rowT_len (r := .lng long) pa.l
    rw [f1]
    refine ⟨(by rw [sizeLine_eq]; omega), (by rw [sizeLine_eq]; omega), ?_⟩
    walk_at "st"
    refine ⟨(by rw [es, sizeLine_eq]; omega), ?_⟩
    walk_at "st"
    refine ⟨p, a.Plan, dx, _, _, rfl, hp, pc.cls, pc.s, rfl, ?_⟩
    refine Or.inl ⟨seekers, rfl, pa.s.small, ?_⟩
    walk_at "st"
    have f2 : Str.empty ++ Str.ofString "seekers " ++ Str.ofString (toString seekers) = rowT (.sek seekers) := by rw [emp_app]; rfl
    have z2 := rowT_len (r := .sek seekers) pa.s
    rw [f2]
    refine ⟨(by rw [sizeLine_eq]; omega), (by rw [sizeLine_eq]; omega), ?_⟩
    walk_at "st"
    refine ⟨(by show 2 ≤ sizeLine; decide), fun r1 nr1 => ?_⟩
    have s1 := (Same.refl H).upd (o := .lst [.str (rowT (.lng long)), .str (rowT (.sek seekers))]) nr1
    have h1 : (upd H r1 (.lst [.str (rowT (.lng long)), .str (rowT (.sek seekers))])) r1 = some (.lst (([.lng long, .sek seekers].map rowT).map V.str)) := upd_same
    generalize upd H r1 (.lst [.str (rowT (.lng long)), .str (rowT (.sek seekers))]) = H1 at s1 h1 ⊢
    walk_at "st"
    refine ⟨.inl ⟨rfl, _, .of h1⟩, ?_⟩
    walk_at "st"
    refine ⟨p, a.Plan, dx, _, _, rfl, s1 _ _ hp, pc.cls, pc.n, rfl, ?_⟩
    walk_at "st"
    refine ⟨⟨_, .of (s1 _ _ hlt)⟩, fun D nD => ?_⟩
    have zl := pa.z.1
    have gl := pa.g.1
    refine comp_tup (K := K) (a := lt) (xs := zs.map V.str) (fun i σ H' => ∃ x, σ = [x] ∧ Same H1 H' ∧ H' D = some (.lst ((((zs.take i).map Row.lin).map rowT).map V.str))) ⟨none, rfl, (Same.refl H1).upd nD, upd_same⟩ (fun i σ H' _ ⟨_, _, sm, _⟩ => .of (sm _ _ (s1 _ _ hlt))) ?_ ?_
    · rintro i x σ H' hi ⟨x0, rfl, sm, hL⟩
      rw [List.getElem?_map] at hi
      cases hk : zs[i]? with
      | none => rw [hk] at hi; cases hi
      | some z =>
        rw [hk] at hi; cases hi
        have zo := pa.z.2 z (List.mem_of_getElem? hk)
        have z3 := rowT_len (r := .lin z) zo
        have zh := zo.hi
        walk_at "st"
        refine ⟨(by rw [show (Str.empty ++ Str.ofString "line ").length = 5 from by decide +kernel, sizeLine_eq]; omega), ?_⟩
        walk_at "st"
        refine Or.inr ⟨z, rfl, (by rw [sizeLine_eq]; omega), ?_⟩
        walk_at "st"
        have f3 : Str.empty ++ Str.ofString "line " ++ z = rowT (.lin z) := by rw [emp_app]; rfl
        rw [f3]
        refine ⟨(by rw [sizeLine_eq]; omega), (by rw [sizeLine_eq]; omega), ?_⟩
        refine ⟨_, hL, ?_, _, rfl, sm.updN nD, ?_⟩
        · rw [List.length_map, List.length_map, List.length_map, List.length_take, sizeLine_eq]; omega
        · rw [upd_same, List.take_add_one, hk, List.map_append, List.map_append, List.map_append]; rfl
    · rintro σ2 H2 ⟨x0, rfl, s2, hL⟩
      rw [List.length_map, List.take_length] at hL
      walk_at "st"
      refine ⟨r1, D, _, _, rfl, rfl, s2 _ _ h1, hL, (by rw [List.length_map, List.length_map, List.length_map, List.length_map, List.length_map, sizeLine_eq]; simp; omega), ?_⟩
      rw [← List.map_append, ← List.map_append]
      generalize hH3 : upd H2 r1 (.lst (((([.lng long, .sek seekers] : List Row) ++ zs.map Row.lin).map rowT).map V.str)) = H3
      have x3 : ∀ {b o}, b ≠ r1 → H2 b = some o → H3 b = some o := fun h e => by rw [← hH3, upd_ne h]; exact e
      have h3 : H3 r1 = some (.lst (((([.lng long, .sek seekers] : List Row) ++ zs.map Row.lin).map rowT).map V.str)) := hH3 ▸ upd_same
      have s3 : Same H H3 := fun b o e => x3 (ne_of_none e nr1) (s2 _ _ (s1 _ _ e))
      clear hL
      walk_at "st"
      refine ⟨.inl ⟨rfl, _, .of h3⟩, ?_⟩
      walk_at "st"
      refine ⟨p, a.Plan, dx, _, _, rfl, s3 _ _ hp, pc.cls, pc.g, rfl, ?_⟩
      walk_at "st"
      refine ⟨⟨_, .of (s3 _ _ hgt)⟩, fun D2 nD2 => ?_⟩
      have tl : ts.length ≤ 40 := by rw [← eg, List.length_map] at gl; exact gl
      refine comp_tup (K := K) (a := gt) (xs := ts.map prV) (fun i σ H' => ∃ x y, σ = [x, y] ∧ Same H3 H' ∧ H' D2 = some (.lst ((((ts.take i).map fun t => Row.grp t.2.1 t.2.2).map rowT).map V.str))) ⟨none, none, rfl, (Same.refl H3).upd nD2, upd_same⟩ (fun i σ H' _ ⟨_, _, _, sm, _⟩ => .of (sm _ _ (s3 _ _ hgt))) ?_ ?_
      · rintro i x σ H' hi ⟨x0, y0, rfl, sm, hL⟩
        rw [List.getElem?_map] at hi
        cases hk : ts[i]? with
        | none => rw [hk] at hi; cases hi
        | some t =>
          rw [hk] at hi; cases hi
          have tm := List.mem_of_getElem? hk
          obtain ⟨go1, go2⟩ := pa.g.2 t.2 (by rw [← eg]; exact List.mem_map.mpr ⟨t, tm, rfl⟩)
          have z3 := rowT_len (r := .grp t.2.1 t.2.2) ⟨go1, go2⟩
          have zh := go1.hi
          have zn := go2.len
          refine ⟨t.1, _, rfl, .of (sm _ _ (s3 _ _ (lay t tm))), rfl, ?_⟩
          walk_at "st"
          refine ⟨(by rw [show (Str.empty ++ Str.ofString "group ").length = 6 from by decide +kernel, sizeLine_eq]; omega), ?_⟩
          walk_at "st"
          refine Or.inr ⟨t.2.1, rfl, (by rw [sizeLine_eq]; omega), ?_⟩
          walk_at "st"
          rw [emp_app]
          have l1 : (Str.ofString "group " ++ t.2.1).length ≤ 30 := by rw [app_len, show (Str.ofString "group ").length = 6 from by decide +kernel]; omega
          have l2 : (Str.ofString "group " ++ t.2.1 ++ Str.ofString " ").length ≤ 31 := by rw [app_len, show (Str.ofString " ").length = 1 from by decide +kernel]; omega
          refine ⟨(by rw [sizeLine_eq]; omega), ?_⟩
          walk_at "st"
          refine ⟨(by rw [sizeLine_eq]; omega), ?_⟩
          walk_at "st"
          refine Or.inl ⟨t.2.2, rfl, go2.small, ?_⟩
          walk_at "st"
          have f3 : Str.ofString "group " ++ t.2.1 ++ Str.ofString " " ++ Str.ofString (toString t.2.2) = rowT (.grp t.2.1 t.2.2) := rfl
          rw [f3]
          refine ⟨(by rw [sizeLine_eq]; omega), (by rw [sizeLine_eq]; omega), ?_⟩
          refine ⟨_, hL, ?_, _, _, rfl, sm.updN nD2, ?_⟩
          · rw [List.length_map, List.length_map, List.length_map, List.length_take, sizeLine_eq]; omega
          · rw [upd_same, List.take_add_one, hk, List.map_append, List.map_append, List.map_append]; rfl
      · rintro σ4 H4 ⟨x0, y0, rfl, s4, hL⟩
        rw [List.length_map, List.take_length] at hL
        have lr : (([.lng long, .sek seekers] : List Row) ++ zs.map Row.lin).length ≤ 62 := by rw [List.length_append, List.length_map]; show 2 + _ ≤ 62; omega
        walk_at "st"
        refine ⟨r1, D2, _, _, rfl, rfl, s4 _ _ h3, hL, (by rw [List.length_map, List.length_map, List.length_map, List.length_map, List.length_map, sizeLine_eq]; omega), ?_⟩
        rw [← List.map_append, ← List.map_append]
        have er : (([.lng long, .sek seekers] : List Row) ++ zs.map Row.lin) ++ (ts.map fun t => Row.grp t.2.1 t.2.2) = rowsOf long seekers zs gz := by
          rw [← eg]
          simp [rowsOf]
        rw [er]
        have lrows : (rowsOf long seekers zs gz).length ≤ 102 := by
          simp only [rowsOf, List.length_cons, List.length_append, List.length_map]
          omega
        have sl := sum_len rok
        generalize hH5 : upd H4 r1 (.lst (((rowsOf long seekers zs gz).map rowT).map V.str)) = H5
        have h5 : H5 r1 = some (.lst (((rowsOf long seekers zs gz).map rowT).map V.str)) := hH5 ▸ upd_same
        have s5 : Same H H5 := fun b o e => by rw [← hH5, upd_ne (ne_of_none e nr1)]; exact s4 _ _ (s3 _ _ e)
        walk_at "st"
        exact ⟨_, r1, _, rfl, rfl, .of h5, (by rw [List.length_map]; omega), (by decide +kernel), q _ s5⟩
end
end Lw

set_option Elab.async false
set_option linter.all false
set_option maxRecDepth 100000
set_option maxHeartbeats 4000000
set_option pp.deepTerms false
set_option pp.deepTerms.threshold 8
set_option pp.maxSteps 1500
namespace Lw
open PySem L2
local macro_rules | `(tactic| walk_at "st") => `(tactic| repeat (first
  | refine ⟨_, rfl, ?_⟩
  | refine ⟨_, _, rfl, rfl, ?_⟩
  | refine ⟨_, _, rfl, ?_⟩
  | refine Or.inl ⟨_, _, rfl, rfl, ?_⟩
  | refine Or.inl ⟨rfl, ?_⟩
  | refine ⟨rfl, ?_⟩
  | refine Or.inl ⟨_, _, _, _, rfl, rfl, .of (by assumption), rfl, ?_⟩
  | (refine And.intro (show CMul _ _ from ?_) ?_; (first | exact Or.inr ⟨by omega, by omega⟩ | exact Or.inl ⟨by omega, by omega⟩))
  | (refine And.intro (show CDiv _ _ from ?_) ?_; exact ⟨by omega, by omega⟩)
  | (refine And.intro (show (0 : Int) < _ from ?_) ?_; first | decide | omega)))
def spPlanRows : Sp := fun vs H Q _ => ∃ (t : Addr) (long : Int) (l : Addr) (seekers : Int) (g : Addr) (zs : List Str) (ts : List Pr), vs = [.ref t] ∧ H t = some (.tup [.int long, .ref l, .int seekers, .ref g]) ∧ H l = some (.lst (zs.map V.str)) ∧ H g = some (.lst (ts.map prV)) ∧ Lay H ts ∧ NumOk long ∧ NumOk seekers ∧ zs.length ≤ 60 ∧ ts.length ≤ 40 ∧ (∀ z ∈ zs, DigOk z) ∧ (∀ t ∈ ts, DigOk t.2.1 ∧ NumOk t.2.2) ∧ (ts.map (·.2.1)).Nodup ∧
  ∀ (H' : Hp) (r : Addr) (zs' : List Str) (ts' : List Pr), Same H H' → H r = none → H' r = some (.lst (((rowsOf long seekers zs' (ts'.map (·.2))).map rowT).map V.str)) → zs'.Perm zs → zs'.Pairwise leS → ts'.Perm ts → ts'.Pairwise (fun x y => leS x.2.1 y.2.1) → Q (.ref r) H'
section
variable {P : Program} {w : World} {K : PySem.W.Frag} {mg : Str → Option Value} {base : Heap} {a : Adr}
theorem sc_law_plan_rows : FnScope ["parts", "long", "lines", "seekers", "groups", "rows"] ["parts"] (defScope (top 31)) := ⟨rfl, rfl, rfl, by decide +kernel, rfl, by decide +kernel, by decide +kernel⟩
theorem nm_law_plan_rows_parts : Nm (defScope (top 31)) "parts" := ⟨by decide +kernel, by decide +kernel, by decide +kernel⟩
theorem nm_law_plan_rows_long : Nm (defScope (top 31)) "long" := ⟨by decide +kernel, by decide +kernel, by decide +kernel⟩
theorem nm_law_plan_rows_lines : Nm (defScope (top 31)) "lines" := ⟨by decide +kernel, by decide +kernel, by decide +kernel⟩
theorem nm_law_plan_rows_seekers : Nm (defScope (top 31)) "seekers" := ⟨by decide +kernel, by decide +kernel, by decide +kernel⟩
theorem nm_law_plan_rows_groups : Nm (defScope (top 31)) "groups" := ⟨by decide +kernel, by decide +kernel, by decide +kernel⟩
theorem nm_law_plan_rows_rows : Nm (defScope (top 31)) "rows" := ⟨by decide +kernel, by decide +kernel, by decide +kernel⟩
theorem gm_law_plan_rows_sorted : Gm (defScope (top 31)) "sorted" := ⟨by decide +kernel, by decide +kernel, by decide +kernel⟩
theorem gm_law_plan_rows_str : Gm (defScope (top 31)) "str" := ⟨by decide +kernel, by decide +kernel, by decide +kernel⟩
def csc_law_plan_rows_0 : Scope := { kind := .function, names := [(".0", .local), ("prefix", .local), ("many", .local), ("str", .globalImplicit)], isGenerator := false, isCoroutine := false, more := [] }
theorem cs_law_plan_rows_0 : CompSc csc_law_plan_rows_0 (defScope (top 31)) ["prefix", "many"] ["parts", "long", "lines", "seekers", "groups", "rows"] [none, none] := CompSc.mk' rfl (by decide +kernel) (by decide +kernel) (by decide +kernel) (by decide +kernel) rfl (by decide +kernel)
theorem nmc_law_plan_rows_0_prefix : Nm csc_law_plan_rows_0 "prefix" := ⟨by decide +kernel, by decide +kernel, by decide +kernel⟩
theorem nmc_law_plan_rows_0_many : Nm csc_law_plan_rows_0 "many" := ⟨by decide +kernel, by decide +kernel, by decide +kernel⟩
theorem gmc_law_plan_rows_0_str : Gm csc_law_plan_rows_0 "str" := ⟨by decide +kernel, by decide +kernel, by decide +kernel⟩
def csc_law_plan_rows_1 : Scope := { kind := .function, names := [(".0", .local), ("line", .local)], isGenerator := false, isCoroutine := false, more := [] }
theorem cs_law_plan_rows_1 : CompSc csc_law_plan_rows_1 (defScope (top 31)) ["line"] ["parts", "long", "lines", "seekers", "groups", "rows"] [none] := CompSc.mk' rfl (by decide +kernel) (by decide +kernel) (by decide +kernel) (by decide +kernel) rfl (by decide +kernel)
theorem nmc_law_plan_rows_1_line : Nm csc_law_plan_rows_1 "line" := ⟨by decide +kernel, by decide +kernel, by decide +kernel⟩
theorem ok_planrows {f : Addr} {fd : FuncData} (F : Fun K "_law_plan_rows" "_law_plan_rows" (top 31) f fd) (T : TxtR P w K mg a) : FnOk P w K mg base CX0 1 f fd ["parts"] spPlanRows := by
  refine F.ok sc_law_plan_rows (fun vs H Q E h => ?_) (fun cdv A outer s H vs Q E hr h => ?_)
  · obtain ⟨t, long, l, seekers, g, zs, ts, rfl, _⟩ := h
    rfl
  · obtain ⟨t, long, l, seekers, g, zs, ts, rfl, ht, hl, hg, lay, no1, no2, zl, tl, zo, to, tnd, q⟩ := h
    have hu := hr.units
    have nd := sc_law_plan_rows.nd
    have nl := no1.len
    have ns := no2.len
    have el : (Str.ofString "long ").length = 5 := by decide +kernel
    have es : (Str.ofString "seekers ").length = 8 := by decide +kernel
    refine ⟨_, (@pss_cons _ _ _ _ _ (ps_asg (pvN 0 nm_law_plan_rows_parts) (pg_tup rfl (pgs_cons (pg_nm 1 nd nm_law_plan_rows_long) (pgs_cons (pg_nm 2 nd nm_law_plan_rows_lines) (pgs_cons (pg_nm 3 nd nm_law_plan_rows_seekers) (pgs_cons (pg_nm 4 nd nm_law_plan_rows_groups) pgs_nil))))))
        (pss_cons (ps_nm 5 nd nm_law_plan_rows_rows (pe_op op_addG (pe_lst (pa_cons (pe_op op_addG pe_str (pe_ct call_str_int gm_law_plan_rows_str T.n_str bt_str (pa_cons (pvN 1 nm_law_plan_rows_long) pa_nil))) (pa_cons (pe_op op_addG pe_str (pe_ct call_str_int gm_law_plan_rows_str T.n_str bt_str (pa_cons (pvN 3 nm_law_plan_rows_seekers) pa_nil))) pa_nil))) (pe_comp rfl cs_law_plan_rows_1 (pi_list (pe_cb call_sortedS gm_law_plan_rows_sorted T.n_sorted bt_sorted (pa_cons (pvN 2 nm_law_plan_rows_lines) pa_nil))) (fun cl C fp pins s₂ H₂ => (pg_nm 0 cs_law_plan_rows_1.nd nmc_law_plan_rows_1_line.comp)) (fun cl C fp pins s₂ H₂ => pts_nil) (fun cl C fp pins s₂ H₂ => (pe_op op_addG pe_str (pvN 0 nmc_law_plan_rows_1_line.comp))))))
        (pss_one (ps_ret (pe_op op_addG (pvN 5 nm_law_plan_rows_rows) (pe_comp rfl cs_law_plan_rows_0 (pi_list (pe_cb call_sortedP gm_law_plan_rows_sorted T.n_sorted bt_sorted (pa_cons (pvN 4 nm_law_plan_rows_groups) pa_nil))) (fun cl C fp pins s₂ H₂ => (pg_tupB (X := cxComp _ _ _ cl C fp pins s₂ H₂) K rfl 2 rfl (pgs_cons (pg_nm 0 cs_law_plan_rows_0.nd nmc_law_plan_rows_0_prefix.comp) (pgs_cons (pg_nm 1 cs_law_plan_rows_0.nd nmc_law_plan_rows_0_many.comp) pgs_nil)) rfl rfl)) (fun cl C fp pins s₂ H₂ => pts_nil) (fun cl C fp pins s₂ H₂ => (pe_op op_addG (pe_op op_addG (pe_op op_addG pe_str (pvN 0 nmc_law_plan_rows_0_prefix.comp)) pe_str) (pe_ct call_str_int gmc_law_plan_rows_0_str.comp T.n_str bt_str (pa_cons (pvN 1 nmc_law_plan_rows_0_many.comp) pa_nil)))))))))), ?_⟩
    walk_at "st"
    refine ⟨t, _, rfl, .of ht, rfl, ?_⟩
    walk_at "st"
    refine ⟨no1.small, ?_⟩
    refine Or.inr (Or.inl ⟨_, _, rfl, rfl, (by show (Str.ofString "long ").length + (numT long).length ≤ _; rw [el, sizeLine_eq]; omega), ?_⟩)
    walk_at "st"
    refine ⟨no2.small, ?_⟩
    refine Or.inr (Or.inl ⟨_, _, rfl, rfl, (by show (Str.ofString "seekers ").length + (numT seekers).length ≤ _; rw [es, sizeLine_eq]; omega), ?_⟩)
    walk_at "st"
    refine ⟨(by show 2 ≤ sizeLine; decide), fun r1 nr1 => ?_⟩
    have s1 := (Same.refl H).upd (o := .lst [.str (rowT (.lng long)), .str (rowT (.sek seekers))]) nr1
    have h1 : (upd H r1 (.lst [.str (rowT (.lng long)), .str (rowT (.sek seekers))])) r1 = some (.lst (([.lng long, .sek seekers].map rowT).map V.str)) := upd_same
    have e1 : (V.str (Str.ofString "long " ++ Str.ofString (toString long))) = .str (rowT (.lng long)) := rfl
    have e2 : (V.str (Str.ofString "seekers " ++ Str.ofString (toString seekers))) = .str (rowT (.sek seekers)) := rfl
    rw [e1, e2]
    generalize upd H r1 (.lst [.str (rowT (.lng long)), .str (rowT (.sek seekers))]) = H1 at s1 h1 ⊢
    walk_at "st"
    refine ⟨l, zs, rfl, .of (s1 _ _ hl), by omega, fun l2 zs' nl2 pm so => ?_⟩
    have s2 := s1.upd (o := .lst (zs'.map V.str)) nl2
    have h2 : (upd H1 l2 (.lst (zs'.map V.str))) l2 = some (.lst (zs'.map V.str)) := upd_same
    have h12 := ((Same.refl H1).upd (o := .lst (zs'.map V.str)) nl2) _ _ h1
    generalize upd H1 l2 (.lst (zs'.map V.str)) = H2 at s2 h2 h12 ⊢
    have zl' : zs'.length ≤ 60 := by rw [pm.length_eq]; exact zl
    walk_at "st"
    refine ⟨⟨_, .of h2⟩, fun D nD => ?_⟩
    refine comp_list (K := K) (a := l2) (xs := zs'.map V.str) (fun i σ H' => ∃ x, σ = [x] ∧ Same H2 H' ∧ H' D = some (.lst ((((zs'.take i).map Row.lin).map rowT).map V.str))) ⟨none, rfl, (Same.refl H2).upd nD, upd_same⟩ (fun i σ H' _ ⟨_, _, sm, _⟩ => .of (sm _ _ h2)) ?_ ?_
    · rintro i x σ H' hi ⟨x0, rfl, sm, hL⟩
      rw [List.getElem?_map] at hi
      cases hk : zs'[i]? with
      | none => rw [hk] at hi; cases hi
      | some z =>
        rw [hk] at hi; cases hi
        have zh := (zo z (pm.mem_iff.mp (List.mem_of_getElem? hk))).hi
        walk_at "st"
        refine Or.inr (Or.inl ⟨_, _, rfl, rfl, (by rw [show (Str.ofString "line ").length = 5 from by decide +kernel, sizeLine_eq]; omega), ?_⟩)
        refine ⟨_, hL, ?_, _, rfl, sm.updN nD, ?_⟩
        · rw [List.length_map, List.length_map, List.length_map, List.length_take, sizeLine_eq]; omega
        · rw [upd_same, List.take_add_one, hk, List.map_append, List.map_append, List.map_append]; rfl
    · rintro σ3 H3 ⟨x0, rfl, s3, hL⟩
      rw [List.length_map, List.take_length] at hL
      refine Or.inr (Or.inr ⟨r1, D, _, _, rfl, rfl, s3 _ _ h12, hL, (by rw [List.length_map, List.length_map, List.length_map, List.length_map, List.length_map, sizeLine_eq]; simp; omega), fun r2 nr2 => ?_⟩)
      rw [← List.map_append, ← List.map_append]
      have s4 := (s2.trans s3).upd (o := .lst (((([.lng long, .sek seekers] : List Row) ++ zs'.map Row.lin).map rowT).map V.str)) nr2
      have h4 : (upd H3 r2 (.lst (((([.lng long, .sek seekers] : List Row) ++ zs'.map Row.lin).map rowT).map V.str))) r2 = some (.lst (((([.lng long, .sek seekers] : List Row) ++ zs'.map Row.lin).map rowT).map V.str)) := upd_same
      generalize upd H3 r2 (.lst (((([.lng long, .sek seekers] : List Row) ++ zs'.map Row.lin).map rowT).map V.str)) = H4 at s4 h4 ⊢
      clear hL h12 h1 e1 e2
      walk_at "st"
      refine ⟨g, ts, rfl, .of (s4 _ _ hg), lay.same s4, tnd, by omega, fun l5 ts' nl5 pt st => ?_⟩
      have s5 := s4.upd (o := .lst (ts'.map prV)) nl5
      have h5 : (upd H4 l5 (.lst (ts'.map prV))) l5 = some (.lst (ts'.map prV)) := upd_same
      have h45 := ((Same.refl H4).upd (o := .lst (ts'.map prV)) nl5) _ _ h4
      generalize upd H4 l5 (.lst (ts'.map prV)) = H5 at s5 h5 h45 ⊢
      have tl' : ts'.length ≤ 40 := by rw [pt.length_eq]; exact tl
      have lay' : Lay H5 ts' := fun t m => s5 _ _ (lay t (pt.mem_iff.mp m))
      walk_at "st"
      refine ⟨⟨_, .of h5⟩, fun D2 nD2 => ?_⟩
      refine comp_list (K := K) (a := l5) (xs := ts'.map prV) (fun i σ H' => ∃ x y, σ = [x, y] ∧ Same H5 H' ∧ H' D2 = some (.lst ((((ts'.take i).map fun t => Row.grp t.2.1 t.2.2).map rowT).map V.str))) ⟨none, none, rfl, (Same.refl H5).upd nD2, upd_same⟩ (fun i σ H' _ ⟨_, _, _, sm, _⟩ => .of (sm _ _ h5)) ?_ ?_
      · rintro i x σ H' hi ⟨x0, y0, rfl, sm, hL⟩
        rw [List.getElem?_map] at hi
        cases hk : ts'[i]? with
        | none => rw [hk] at hi; cases hi
        | some t =>
          rw [hk] at hi; cases hi
          have tm := List.mem_of_getElem? hk
          obtain ⟨go1, go2⟩ := to t (pt.mem_iff.mp tm)
          have zh := go1.hi
          have zn := go2.len
          have eg : (Str.ofString "group ").length = 6 := by decide +kernel
          have eb : (Str.ofString " ").length = 1 := by decide +kernel
          refine ⟨t.1, _, rfl, .of (sm _ _ (lay' t tm)), rfl, ?_⟩
          walk_at "st"
          refine Or.inr (Or.inl ⟨_, _, rfl, rfl, (by rw [eg, sizeLine_eq]; omega), ?_⟩)
          refine Or.inr (Or.inl ⟨_, _, rfl, rfl, (by rw [app_len, eg, eb, sizeLine_eq]; omega), ?_⟩)
          walk_at "st"
          refine ⟨go2.small, ?_⟩
          refine Or.inr (Or.inl ⟨_, _, rfl, rfl, (by show (Str.ofString "group " ++ t.2.1 ++ Str.ofString " ").length + (numT t.2.2).length ≤ _; rw [app_len, app_len, eg, eb, sizeLine_eq]; omega), ?_⟩)
          refine ⟨_, hL, ?_, _, _, rfl, sm.updN nD2, ?_⟩
          · rw [List.length_map, List.length_map, List.length_map, List.length_take, sizeLine_eq]; omega
          · rw [upd_same, List.take_add_one, hk, List.map_append, List.map_append, List.map_append]; rfl
      · rintro σ6 H6 ⟨x0, y0, rfl, s6, hL⟩
        rw [List.length_map, List.take_length] at hL
        have lr : (([.lng long, .sek seekers] : List Row) ++ zs'.map Row.lin).length ≤ 62 := by rw [List.length_append, List.length_map]; show 2 + _ ≤ 62; omega
        refine Or.inr (Or.inr ⟨r2, D2, _, _, rfl, rfl, s6 _ _ h45, hL, (by rw [List.length_map, List.length_map, List.length_map, List.length_map, List.length_map, sizeLine_eq]; omega), fun r3 nr3 => ?_⟩)
        rw [← List.map_append, ← List.map_append]
        have er : (([.lng long, .sek seekers] : List Row) ++ zs'.map Row.lin) ++ (ts'.map fun t => Row.grp t.2.1 t.2.2) = rowsOf long seekers zs' (ts'.map (·.2)) := by
          simp [rowsOf]
        rw [er]
        exact q _ r3 zs' ts' ((s5.trans s6).upd nr3) ((s5.trans s6).free nr3) upd_same pm so pt st
end
end Lw

set_option Elab.async false
set_option linter.all false
set_option maxRecDepth 100000
set_option maxHeartbeats 4000000
set_option pp.deepTerms false
set_option pp.deepTerms.threshold 8
set_option pp.maxSteps 1500
namespace Lw
open PySem L2
local macro_rules | `(tactic| walk_at "st") => `(tactic| repeat (first
  | refine ⟨_, rfl, ?_⟩
  | refine ⟨_, _, rfl, rfl, ?_⟩
  | refine ⟨_, _, rfl, ?_⟩
  | refine Or.inl ⟨_, _, rfl, rfl, ?_⟩
  | refine Or.inl ⟨rfl, ?_⟩
  | refine ⟨rfl, ?_⟩
  | refine Or.inl ⟨_, _, _, _, rfl, rfl, .of (by assumption), rfl, ?_⟩
  | (refine And.intro (show CMul _ _ from ?_) ?_; (first | exact Or.inr ⟨by omega, by omega⟩ | exact Or.inl ⟨by omega, by omega⟩))
  | (refine And.intro (show CDiv _ _ from ?_) ?_; exact ⟨by omega, by omega⟩)
  | (refine And.intro (show (0 : Int) < _ from ?_) ?_; first | decide | omega)))
def spDealt : Sp := fun vs H Q _ => ∃ (p d : Addr) (zs : List Str) (ds : List Int), vs = [.ref p, .ref d] ∧ H p = some (.lst (zs.map V.str)) ∧ H d = some (.lst (ds.map V.int)) ∧ zs.length ≤ 110 ∧ ds.length = 60 ∧ (∀ v ∈ ds, 0 ≤ v ∧ v < 27720) ∧
  ∀ (H' : Hp) (r : Addr) (zs' : List Str), Same H H' → H r = none → H' r = some (.lst (zs'.map V.str)) → zs'.Perm zs → Q (.ref r) H'
def spParts (K : PySem.W.Frag) (a : Adr) : Sp := fun vs H Q _ => ∃ (p dx : Addr) (long : Int) (lt : Addr) (seekers : Int) (gt : Addr), vs = [.ref p] ∧ H p = some (.ins a.Plan dx (planF long lt seekers gt)) ∧ PlC K a.Plan ∧ ∀ t, H t = none → Q (.ref t) (upd H t (.tup [.int long, .ref lt, .int seekers, .ref gt]))
theorem ins_perm {α : Type} (xs : List α) (n : Nat) (y : α) : (xs.take n ++ y :: xs.drop n).Perm (xs ++ [y]) := by
  have h1 : (xs.take n ++ y :: xs.drop n).Perm (y :: (xs.take n ++ xs.drop n)) := List.perm_middle
  rw [List.take_append_drop] at h1
  exact h1.trans (List.perm_append_singleton y xs).symm
section
variable {P : Program} {w : World} {K : PySem.W.Frag} {mg : Str → Option Value} {base : Heap} {a : Adr}
theorem sc_law_dealt : FnScope ["rows", "draws", "found", "k"] ["rows", "draws"] (defScope (top 32)) := ⟨rfl, rfl, rfl, by decide +kernel, rfl, by decide +kernel, by decide +kernel⟩
theorem nm_law_dealt_rows : Nm (defScope (top 32)) "rows" := ⟨by decide +kernel, by decide +kernel, by decide +kernel⟩
theorem nm_law_dealt_draws : Nm (defScope (top 32)) "draws" := ⟨by decide +kernel, by decide +kernel, by decide +kernel⟩
theorem nm_law_dealt_found : Nm (defScope (top 32)) "found" := ⟨by decide +kernel, by decide +kernel, by decide +kernel⟩
theorem nm_law_dealt_k : Nm (defScope (top 32)) "k" := ⟨by decide +kernel, by decide +kernel, by decide +kernel⟩
theorem gm_law_dealt_range : Gm (defScope (top 32)) "range" := ⟨by decide +kernel, by decide +kernel, by decide +kernel⟩
theorem gm_law_dealt_len : Gm (defScope (top 32)) "len" := ⟨by decide +kernel, by decide +kernel, by decide +kernel⟩
theorem ok_dealt {f : Addr} {fd : FuncData} (F : Fun K "_law_dealt" "_law_dealt" (top 32) f fd) (T : TxtR P w K mg a) : FnOk P w K mg base CX0 1 f fd ["rows", "draws"] spDealt := by
  refine F.ok sc_law_dealt (fun vs H Q E h => ?_) (fun cdv A outer s H vs Q E hr h => ?_)
  · obtain ⟨p, d, zs, ds, rfl, _⟩ := h
    rfl
  · obtain ⟨p, d, zs, ds, rfl, hp, hd, zl, dl, bd, q⟩ := h
    have hu := hr.units
    have nd := sc_law_dealt.nd
    refine ⟨_, (@pss_cons _ _ _ _ _ (ps_nm 2 nd nm_law_dealt_found (pe_lst pa_nil))
        (pss_cons (ps_for PassesOwn.never rfl (pi_r1 gm_law_dealt_range T.n_range (pa_cons (pe_cb call_lenG gm_law_dealt_len T.n_len bt_len (pa_cons (pvN 0 nm_law_dealt_rows) pa_nil)) pa_nil)) (pg_nm 3 nd nm_law_dealt_k) (pss_one (ps_expr (pe_bm PySem.F.plainAttrs_list PySem.F.slot_list_insert PySem.F.type_list_insert mt_insert (pvN 2 nm_law_dealt_found) (pa_cons (pe_op op_mod (pe_op op_fdiv (pe_ix ix_seq (pvN 1 nm_law_dealt_draws) (pe_op op_mod (pvN 3 nm_law_dealt_k) (pe_cb call_lenG gm_law_dealt_len T.n_len bt_len (pa_cons (pvN 1 nm_law_dealt_draws) pa_nil))) (fun _ _ => rfl)) (pe_op op_addG pe_int (pe_op op_mod (pvN 3 nm_law_dealt_k) pe_int))) (pe_op op_addG (pvN 3 nm_law_dealt_k) pe_int)) (pa_cons (pe_ix ix_seq (pvN 0 nm_law_dealt_rows) (pvN 3 nm_law_dealt_k) (fun _ _ => rfl)) pa_nil))))))
        (pss_one (ps_ret (pvN 2 nm_law_dealt_found))))), ?_⟩
    walk_at "st"
    refine ⟨(by show 0 ≤ sizeLine; decide), fun r nr => ?_⟩
    have s1 := (Same.refl H).upd (o := .lst []) nr
    have h1 : (upd H r (.lst [])) r = some (.lst (([] : List Str).map V.str)) := upd_same
    generalize upd H r (.lst []) = H1 at s1 h1 ⊢
    walk_at "st"
    refine Or.inr ⟨_, _, rfl, .inl (.of (s1 _ _ hp)), ?_⟩
    rw [List.length_map]
    walk_at "st"
    refine ⟨by omega, by omega, for_range (n := zs.length) (fun k σ H' => ∃ x, σ = [some (.ref p), some (.ref d), some (.ref r), x] ∧ Same H H' ∧ ∃ ys, H' r = some (.lst (ys.map V.str)) ∧ ys.Perm (zs.take k)) ⟨none, rfl, s1, [], h1, .nil⟩ ?_ ?_⟩
    · rintro k σ H' hk ⟨x, rfl, sm, ys, hy, pm⟩
      simp only [Int.zero_add]
      have yl : ys.length = k := by rw [pm.length_eq, List.length_take]; omega
      walk_at "st"
      refine ⟨.inl ⟨rfl, _, .of hy⟩, ?_⟩
      walk_at "st"
      refine Or.inr ⟨_, _, rfl, .inl (.of (sm _ _ hd)), ?_⟩
      rw [List.length_map, dl]
      obtain ⟨v, ev, mv⟩ := pickI (xs := ds) (i := (k : Int) % 60) (by omega) (by omega)
      have bv := bd v mv
      walk_at "st"
      refine Or.inl ⟨d, _, _, _, rfl, rfl, .of (sm _ _ hd), ev, ?_⟩
      walk_at "st"
      have ek : atI (zs.map V.str) (k : Int) = some (.str zs[k]) := atI_nat (by rw [List.getElem?_map, List.getElem?_eq_getElem hk]; rfl)
      refine Or.inl ⟨p, _, _, _, rfl, rfl, .of (sm _ _ hp), ek, ?_⟩
      walk_at "st"
      have b0 : 0 ≤ v / (1 + (k : Int) % 7) % ((k : Int) + 1) := Int.emod_nonneg _ (by omega)
      have b1 : v / (1 + (k : Int) % 7) % ((k : Int) + 1) < (k : Int) + 1 := Int.emod_lt_of_pos _ (by omega)
      refine ⟨r, _, _, _, rfl, rfl, hy, b0, (by rw [List.length_map]; omega), (by rw [List.length_map, sizeLine_eq]; omega), ?_⟩
      generalize (v / (1 + (k : Int) % 7) % ((k : Int) + 1)).toNat = m
      refine ⟨_, rfl, sm.updN (nr), ys.take m ++ zs[k] :: ys.drop m, ?_, ?_⟩
      · rw [upd_same, List.map_append, List.map_cons, List.map_take, List.map_drop]
      · refine (ins_perm ys m zs[k]).trans ?_
        rw [List.take_add_one, List.getElem?_eq_getElem hk]
        exact pm.append_right _
    · rintro σ H' ⟨x, rfl, sm, ys, hy, pm⟩
      rw [List.take_length] at pm
      walk_at "st"
      exact q _ r ys sm nr hy pm
theorem sc_law_parts : FnScope ["plan"] ["plan"] (defScope (top 33)) := ⟨rfl, rfl, rfl, by decide +kernel, rfl, by decide +kernel, by decide +kernel⟩
theorem nm_law_parts_plan : Nm (defScope (top 33)) "plan" := ⟨by decide +kernel, by decide +kernel, by decide +kernel⟩
theorem ok_parts {f : Addr} {fd : FuncData} (F : Fun K "_law_parts" "_law_parts" (top 33) f fd) (T : TxtR P w K mg a) : FnOk P w K mg base CX0 1 f fd ["plan"] (spParts K a) := by
  refine F.ok sc_law_parts (fun vs H Q E h => ?_) (fun cdv A outer s H vs Q E hr h => ?_)
  · obtain ⟨p, dx, long, lt, seekers, gt, rfl, _⟩ := h
    rfl
  · obtain ⟨p, dx, long, lt, seekers, gt, rfl, hp, pc, q⟩ := h
    refine ⟨_, (@pss_one _ _ _ (ps_ret (pe_tup (pa_cons (pe_fld (pvN 0 nm_law_parts_plan) rfl) (pa_cons (pe_fld (pvN 0 nm_law_parts_plan) rfl) (pa_cons (pe_fld (pvN 0 nm_law_parts_plan) rfl) (pa_cons (pe_fld (pvN 0 nm_law_parts_plan) rfl) pa_nil))))))), ?_⟩
    walk_at "st"
    refine ⟨p, a.Plan, dx, _, _, rfl, hp, pc.cls, pc.l, rfl, ?_⟩
    walk_at "st"
    refine ⟨p, a.Plan, dx, _, _, rfl, hp, pc.cls, pc.n, rfl, ?_⟩
    walk_at "st"
    refine ⟨p, a.Plan, dx, _, _, rfl, hp, pc.cls, pc.s, rfl, ?_⟩
    walk_at "st"
    refine ⟨p, a.Plan, dx, _, _, rfl, hp, pc.cls, pc.g, rfl, ?_⟩
    walk_at "st"
    exact ⟨(by show 4 ≤ sizeLine; decide), fun t ht => q t ht⟩
end
end Lw

set_option Elab.async false
set_option linter.all false
set_option maxRecDepth 100000
set_option maxHeartbeats 4000000
set_option pp.deepTerms false
set_option pp.deepTerms.threshold 8
set_option pp.maxSteps 1500
namespace Lw
open PySem L2
local macro_rules | `(tactic| walk_at "st") => `(tactic| repeat (first
  | refine ⟨_, rfl, ?_⟩
  | refine ⟨_, _, rfl, rfl, ?_⟩
  | refine ⟨_, _, rfl, ?_⟩
  | refine Or.inl ⟨_, _, rfl, rfl, ?_⟩
  | refine Or.inl ⟨rfl, ?_⟩
  | refine ⟨rfl, ?_⟩
  | refine Or.inl ⟨_, _, _, _, rfl, rfl, .of (by assumption), rfl, ?_⟩
  | (refine And.intro (show CMul _ _ from ?_) ?_; (first | exact Or.inr ⟨by omega, by omega⟩ | exact Or.inl ⟨by omega, by omega⟩))
  | (refine And.intro (show CDiv _ _ from ?_) ?_; exact ⟨by omega, by omega⟩)
  | (refine And.intro (show (0 : Int) < _ from ?_) ?_; first | decide | omega)))
def lngs (rs : List Row) : List Int := rs.filterMap fun | .lng n => some n | _ => none
def seks (rs : List Row) : List Int := rs.filterMap fun | .sek n => some n | _ => none
def lins (rs : List Row) : List Str := rs.filterMap fun | .lin z => some z | _ => none
def grps (rs : List Row) : List (Str × Int) := rs.filterMap fun | .grp z n => some (z, n) | _ => none
def keysV (a1 a2 a3 a4 : Addr) : List (Key × V) := [(.inr "long", .ref a1), (.inr "seekers", .ref a2), (.inr "line", .ref a3), (.inr "group", .ref a4)]
structure Told (H0 H : Hp) (D a1 a2 a3 a4 : Addr) (ls ss : List Int) (zs : List Str) (ts : List Pr) : Prop where
  d : H D = some (.dK (keysV a1 a2 a3 a4))
  h1 : H a1 = some (.lst (ls.map V.int))
  h2 : H a2 = some (.lst (ss.map V.int))
  h3 : H a3 = some (.lst (zs.map V.str))
  h4 : H a4 = some (.lst (ts.map prV))
  lay : Lay H ts
  nd : [a1, a2, a3, a4].Nodup
  f : H0 a1 = none ∧ H0 a2 = none ∧ H0 a3 = none ∧ H0 a4 = none
  s : Same H0 H
section
variable {H0 H H' : Hp} {D a1 a2 a3 a4 : Addr} {ls ss : List Int} {zs : List Str} {ts : List Pr}
theorem Told.same (t : Told H0 H D a1 a2 a3 a4 ls ss zs ts) (s : Same H H') : Told H0 H' D a1 a2 a3 a4 ls ss zs ts :=
  ⟨s _ _ t.d, s _ _ t.h1, s _ _ t.h2, s _ _ t.h3, s _ _ t.h4, t.lay.same s, t.nd, t.f, t.s.trans s⟩
theorem Told.ne (t : Told H0 H D a1 a2 a3 a4 ls ss zs ts) : (a1 ≠ a2 ∧ a1 ≠ a3 ∧ a1 ≠ a4) ∧ (a2 ≠ a3 ∧ a2 ≠ a4) ∧ a3 ≠ a4 := by
  have := t.nd
  simpa [List.nodup_cons] using this
theorem Told.oth (t : Told H0 H D a1 a2 a3 a4 ls ss zs ts) {b : Addr} {xs : List V} {o : HO} (hb : H b = some (.lst xs)) : (∀ {c kvs}, H c = some (.dK kvs) → (upd H b o) c = some (.dK kvs)) ∧ ∀ {c ys}, H c = some (.tup ys) → (upd H b o) c = some (.tup ys) :=
  ⟨fun e => by rw [upd_ne (ne_of e hb (by intro z; cases z))]; exact e, fun e => by rw [upd_ne (ne_of e hb (by intro z; cases z))]; exact e⟩
theorem Told.put1 (t : Told H0 H D a1 a2 a3 a4 ls ss zs ts) (n : Int) : Told H0 (upd H a1 (.lst (ls.map V.int ++ [.int n]))) D a1 a2 a3 a4 (ls ++ [n]) ss zs ts := by
  obtain ⟨⟨n1, n2, n3⟩, ⟨n4, n5⟩, n6⟩ := t.ne
  obtain ⟨o1, o2⟩ := t.oth (o := .lst (ls.map V.int ++ [.int n])) t.h1
  exact ⟨o1 t.d, by rw [upd_same, List.map_append]; rfl, by rw [upd_ne n1.symm]; exact t.h2, by rw [upd_ne n2.symm]; exact t.h3, by rw [upd_ne n3.symm]; exact t.h4, fun x m => o2 (t.lay x m), t.nd, t.f, fun b o e => by rw [upd_ne (ne_of_none e t.f.1)]; exact t.s _ _ e⟩
theorem Told.put2 (t : Told H0 H D a1 a2 a3 a4 ls ss zs ts) (n : Int) : Told H0 (upd H a2 (.lst (ss.map V.int ++ [.int n]))) D a1 a2 a3 a4 ls (ss ++ [n]) zs ts := by
  obtain ⟨⟨n1, n2, n3⟩, ⟨n4, n5⟩, n6⟩ := t.ne
  obtain ⟨o1, o2⟩ := t.oth (o := .lst (ss.map V.int ++ [.int n])) t.h2
  exact ⟨o1 t.d, by rw [upd_ne n1]; exact t.h1, by rw [upd_same, List.map_append]; rfl, by rw [upd_ne n4.symm]; exact t.h3, by rw [upd_ne n5.symm]; exact t.h4, fun x m => o2 (t.lay x m), t.nd, t.f, fun b o e => by rw [upd_ne (ne_of_none e t.f.2.1)]; exact t.s _ _ e⟩
theorem Told.put3 (t : Told H0 H D a1 a2 a3 a4 ls ss zs ts) (z : Str) : Told H0 (upd H a3 (.lst (zs.map V.str ++ [.str z]))) D a1 a2 a3 a4 ls ss (zs ++ [z]) ts := by
  obtain ⟨⟨n1, n2, n3⟩, ⟨n4, n5⟩, n6⟩ := t.ne
  obtain ⟨o1, o2⟩ := t.oth (o := .lst (zs.map V.str ++ [.str z])) t.h3
  exact ⟨o1 t.d, by rw [upd_ne n2]; exact t.h1, by rw [upd_ne n4]; exact t.h2, by rw [upd_same, List.map_append]; rfl, by rw [upd_ne n6.symm]; exact t.h4, fun x m => o2 (t.lay x m), t.nd, t.f, fun b o e => by rw [upd_ne (ne_of_none e t.f.2.2.1)]; exact t.s _ _ e⟩
theorem Told.put4 (t : Told H0 H D a1 a2 a3 a4 ls ss zs ts) (x : Pr) (hx : H x.1 = some (.tup [.str x.2.1, .int x.2.2])) : Told H0 (upd H a4 (.lst (ts.map prV ++ [.ref x.1]))) D a1 a2 a3 a4 ls ss zs (ts ++ [x]) := by
  obtain ⟨⟨n1, n2, n3⟩, ⟨n4, n5⟩, n6⟩ := t.ne
  obtain ⟨o1, o2⟩ := t.oth (o := .lst (ts.map prV ++ [.ref x.1])) t.h4
  refine ⟨o1 t.d, by rw [upd_ne n3]; exact t.h1, by rw [upd_ne n5]; exact t.h2, by rw [upd_ne n6]; exact t.h3, by rw [upd_same, List.map_append]; rfl, fun y m => ?_, t.nd, t.f, fun b o e => by rw [upd_ne (ne_of_none e t.f.2.2.2)]; exact t.s _ _ e⟩
  rcases List.mem_append.mp m with m | m
  · exact o2 (t.lay y m)
  · rw [List.mem_singleton.mp m]; exact o2 hx
end
def GoodZ (long seekers : Int) (zs : List Str) (gz : List (Str × Int)) : Prop := (2 ≤ long ∧ long ≤ 4 ∧ 1 ≤ seekers ∧ seekers ≤ 60) ∧ OkL long zs ∧ gz.length ≤ 40 ∧ (∀ t ∈ gz, (1 ≤ (t.1.length : Int) ∧ (t.1.length : Int) ≤ long - 2) ∧ Dig t.1 ∧ 0 ≤ t.2 ∧ t.2 ≤ 10) ∧ (gz.map (·.1)).Nodup
theorem GoodZ.good {long seekers : Int} {zs : List Str} {ts : List Pr} (h : GoodZ long seekers zs (ts.map (·.2))) : Good long seekers zs ts := by
  obtain ⟨h1, h2, h3, h4, h5⟩ := h
  rw [List.length_map] at h3
  rw [List.map_map] at h5
  exact ⟨h1, h2, h3, fun t m => h4 t.2 (List.mem_map.mpr ⟨t, m, rfl⟩), h5⟩
def spReadPlan (K : PySem.W.Frag) (a : Adr) : Sp := fun vs H Q _ => ∃ (rows : List Row) (long seekers : Int) (zs : List Str) (gz : List (Str × Int)), vs = [.str (Str.join nlS (rows.map rowT))] ∧ (∀ r ∈ rows, RowOk r) ∧ rows.length ≤ 110 ∧ lngs rows = [long] ∧ seks rows = [seekers] ∧ lins rows = zs ∧ grps rows = gz ∧ GoodZ long seekers zs gz ∧
  ∀ (H' : Hp) (p : Addr) (zs' : List Str) (gz' : List (Str × Int)), Same H H' → H p = none → PlanAt K H' a.Plan p long seekers zs' gz' → zs'.Perm zs → zs'.Pairwise leS → gz'.Perm gz → gz'.Pairwise (fun x y => leS x.1 y.1) → Q (.ref p) H'
theorem row_nl {r : Row} (h : RowOk r) : 10 ∉ (rowT r).cps.toList := by
  have d : ∀ {z : Str}, DigOk z → 10 ∉ z.cps.toList := fun h m => by have := h.dig 10 m; omega
  have e1 : 10 ∉ (Str.ofString "long ").cps.toList := by decide +kernel
  have e2 : 10 ∉ (Str.ofString "seekers ").cps.toList := by decide +kernel
  have e3 : 10 ∉ (Str.ofString "line ").cps.toList := by decide +kernel
  have e4 : 10 ∉ (Str.ofString "group ").cps.toList := by decide +kernel
  have e5 : 10 ∉ (Str.ofString " ").cps.toList := by decide +kernel
  cases r with
  | lng n => show 10 ∉ (Str.ofString "long " ++ numT n).cps.toList; rw [app_toList, List.mem_append, not_or]; exact ⟨e1, d (NumOk.digOk h)⟩
  | sek n => show 10 ∉ (Str.ofString "seekers " ++ numT n).cps.toList; rw [app_toList, List.mem_append, not_or]; exact ⟨e2, d (NumOk.digOk h)⟩
  | lin z => show 10 ∉ (Str.ofString "line " ++ z).cps.toList; rw [app_toList, List.mem_append, not_or]; exact ⟨e3, d h⟩
  | grp z n => show 10 ∉ (Str.ofString "group " ++ z ++ Str.ofString " " ++ numT n).cps.toList; rw [app_toList, app_toList, app_toList, List.mem_append, List.mem_append, List.mem_append, not_or, not_or, not_or]; exact ⟨⟨⟨e4, d h.1⟩, e5⟩, d h.2.digOk⟩
theorem row_bl {r : Row} (h : RowOk r) : ∀ x ∈ rowW r, 32 ∉ x.cps.toList := by
  have d : ∀ {z : Str}, DigOk z → 32 ∉ z.cps.toList := fun h m => by have := h.dig 32 m; omega
  have e1 : 32 ∉ (Str.ofString "long").cps.toList := by decide +kernel
  have e2 : 32 ∉ (Str.ofString "seekers").cps.toList := by decide +kernel
  have e3 : 32 ∉ (Str.ofString "line").cps.toList := by decide +kernel
  have e4 : 32 ∉ (Str.ofString "group").cps.toList := by decide +kernel
  cases r with
  | lng n => simp only [rowW, List.forall_mem_cons]; exact ⟨e1, d (NumOk.digOk h), fun x hx => absurd hx (by simp)⟩
  | sek n => simp only [rowW, List.forall_mem_cons]; exact ⟨e2, d (NumOk.digOk h), fun x hx => absurd hx (by simp)⟩
  | lin z => simp only [rowW, List.forall_mem_cons]; exact ⟨e3, d h, fun x hx => absurd hx (by simp)⟩
  | grp z n => simp only [rowW, List.forall_mem_cons]; exact ⟨e4, d h.1, d h.2.digOk, fun x hx => absurd hx (by simp)⟩
theorem cut_rows {rows : List Row} (h0 : rows ≠ []) (h : ∀ r ∈ rows, RowOk r) : Txt.split (Str.join nlS (rows.map rowT)) (Str.ofString "\n") = rows.map rowT := by
  have e : Str.ofString "\n" = ⟨#[10]⟩ := by decide +kernel
  rw [e]
  refine split_join (by decide) (by simpa using h0) fun x hx => ?_
  obtain ⟨r, m, rfl⟩ := List.mem_map.mp hx
  exact row_nl (h r m)
theorem cut_words {r : Row} (h : RowOk r) : Txt.split (rowT r) (Str.ofString " ") = rowW r := by
  have e : Str.ofString " " = ⟨#[32]⟩ := by decide +kernel
  rw [e, rowT_join]
  exact split_join (by decide) (by cases r <;> simp [rowW]) (row_bl h)
theorem join_rows_len {rows : List Row} (h : ∀ r ∈ rows, RowOk r) : (Str.join nlS (rows.map rowT)).length ≤ rows.length * 51 := by
  have h1 := StrLaws.join_length_le nlS (rows.map rowT)
  have h2 := sum_len h
  rw [List.length_map] at h1
  have e : nlS.length = 1 := rfl
  rw [e] at h1
  omega
end Lw

set_option Elab.async false
set_option linter.all false
set_option maxRecDepth 100000
set_option maxHeartbeats 4000000
set_option pp.deepTerms false
set_option pp.deepTerms.threshold 8
set_option pp.maxSteps 1500
namespace Lw
open PySem L2
local macro_rules | `(tactic| walk_at "st") => `(tactic| repeat (first
  | refine ⟨_, rfl, ?_⟩
  | refine ⟨_, _, rfl, rfl, ?_⟩
  | refine ⟨_, _, rfl, ?_⟩
  | refine Or.inl ⟨_, _, rfl, rfl, ?_⟩
  | refine Or.inl ⟨rfl, ?_⟩
  | refine ⟨rfl, ?_⟩
  | refine Or.inl ⟨_, _, _, _, rfl, rfl, .of (by assumption), rfl, ?_⟩
  | (refine And.intro (show CMul _ _ from ?_) ?_; (first | exact Or.inr ⟨by omega, by omega⟩ | exact Or.inl ⟨by omega, by omega⟩))
  | (refine And.intro (show CDiv _ _ from ?_) ?_; exact ⟨by omega, by omega⟩)
  | (refine And.intro (show (0 : Int) < _ from ?_) ?_; first | decide | omega)))
theorem key1 (a1 a2 a3 a4 : Addr) : valV (keysV a1 a2 a3 a4) (.inr "long") = some (.ref a1) := by unfold keysV; rw [valV_pos rfl]
theorem key2 (a1 a2 a3 a4 : Addr) : valV (keysV a1 a2 a3 a4) (.inr "seekers") = some (.ref a2) := by unfold keysV; rw [valV_neg (show ¬ ((Sum.inr (Str.ofString "long") : Key) = Sum.inr (Str.ofString "seekers")) by decide +kernel), valV_pos rfl]
theorem key3 (a1 a2 a3 a4 : Addr) : valV (keysV a1 a2 a3 a4) (.inr "line") = some (.ref a3) := by unfold keysV; rw [valV_neg (show ¬ ((Sum.inr (Str.ofString "long") : Key) = Sum.inr (Str.ofString "line")) by decide +kernel), valV_neg (show ¬ ((Sum.inr (Str.ofString "seekers") : Key) = Sum.inr (Str.ofString "line")) by decide +kernel), valV_pos rfl]
theorem key4 (a1 a2 a3 a4 : Addr) : valV (keysV a1 a2 a3 a4) (.inr "group") = some (.ref a4) := by unfold keysV; rw [valV_neg (show ¬ ((Sum.inr (Str.ofString "long") : Key) = Sum.inr (Str.ofString "group")) by decide +kernel), valV_neg (show ¬ ((Sum.inr (Str.ofString "seekers") : Key) = Sum.inr (Str.ofString "group")) by decide +kernel), valV_neg (show ¬ ((Sum.inr (Str.ofString "line") : Key) = Sum.inr (Str.ofString "group")) by decide +kernel), valV_pos rfl]
theorem keysKV_at : (wordsKV.map (·.1)).Nodup := by decide +kernel
section
variable {P : Program} {w : World} {K : PySem.W.Frag} {mg : Str → Option Value} {base : Heap} {a : Adr}
theorem sc_read_plan : FnScope ["text", "told", "row", "words"] ["text"] (defScope (top 22)) := ⟨rfl, rfl, rfl, by decide +kernel, rfl, by decide +kernel, by decide +kernel⟩
theorem nm_read_plan_text : Nm (defScope (top 22)) "text" := ⟨by decide +kernel, by decide +kernel, by decide +kernel⟩
theorem nm_read_plan_told : Nm (defScope (top 22)) "told" := ⟨by decide +kernel, by decide +kernel, by decide +kernel⟩
theorem nm_read_plan_row : Nm (defScope (top 22)) "row" := ⟨by decide +kernel, by decide +kernel, by decide +kernel⟩
theorem nm_read_plan_words : Nm (defScope (top 22)) "words" := ⟨by decide +kernel, by decide +kernel, by decide +kernel⟩
theorem gm_read_plan_Plan : Gm (defScope (top 22)) "Plan" := ⟨by decide +kernel, by decide +kernel, by decide +kernel⟩
theorem gm_read_plan_len : Gm (defScope (top 22)) "len" := ⟨by decide +kernel, by decide +kernel, by decide +kernel⟩
theorem gm_read_plan_NoText : Gm (defScope (top 22)) "NoText" := ⟨by decide +kernel, by decide +kernel, by decide +kernel⟩
theorem gm_read_plan_read_row : Gm (defScope (top 22)) "read_row" := ⟨by decide +kernel, by decide +kernel, by decide +kernel⟩
theorem gm_read_plan_check_row : Gm (defScope (top 22)) "check_row" := ⟨by decide +kernel, by decide +kernel, by decide +kernel⟩
theorem gm_read_plan_WORDS : Gm (defScope (top 22)) "WORDS" := ⟨by decide +kernel, by decide +kernel, by decide +kernel⟩
def csc_read_plan_0 : Scope := { kind := .function, names := [(".0", .local), ("kind", .local)], isGenerator := false, isCoroutine := false, more := [] }
theorem cs_read_plan_0 : CompSc csc_read_plan_0 (defScope (top 22)) ["kind"] ["text", "told", "row", "words"] [none] := CompSc.mk' rfl (by decide +kernel) (by decide +kernel) (by decide +kernel) (by decide +kernel) rfl (by decide +kernel)
theorem nmc_read_plan_0_kind : Nm csc_read_plan_0 "kind" := ⟨by decide +kernel, by decide +kernel, by decide +kernel⟩
set_option maxHeartbeats 8000000
theorem ok_readplan {f : Addr} {fd : FuncData} (F : Fun K "read_plan" "read_plan" (top 22) f fd) (T : TxtR P w K mg a) (pc : PlC K a.Plan) (D_check_row : FnIn P w K mg base (CXE P w) 1 "check_row" ["words"] spCheckRow) (D_read_row : FnIn P w K mg base (CXE P w) 4 "read_row" ["words"] spReadRow)
    (M_Plan : MkIn P w K mg base (CXE P w) 3 a.Plan "Plan" ["self", "long", "lines", "seekers", "groups"] (spPlanI a K)) : FnOk P w K mg base (CXE P w) 5 f fd ["text"] (spReadPlan K a) := by
  refine F.okX sc_read_plan (fun vs H Q E h => ?_) (fun cdv A outer s H vs Q E hr h => ?_)
  · obtain ⟨rows, long, seekers, zs, gz, rfl, _⟩ := h
    rfl
  · obtain ⟨rows, long, seekers, zs, gz, rfl, ok, rl, hl1, hs1, hz1, hg1, good, q⟩ := h
    have hu := hr.units
    have nd := sc_read_plan.nd
    have jl := join_rows_len ok
    have r0 : rows ≠ [] := fun e => by rw [e] at hl1; cases hl1
    have cr := cut_rows r0 ok
    generalize Str.join nlS (rows.map rowT) = text at jl cr ⊢
    refine ⟨_, (@pss_cons _ _ _ _ _ (ps_setD (j := 1) rfl nd rfl (Or.inl nm_read_plan_told.loc) cs_read_plan_0 (pi_kd (P := P) (w := w) (K := K) (pe_gm (v := .ref a.WORDS) gm_read_plan_WORDS T.g_WORDS rfl)) (fun cl C fp pins s₂ H₂ => (pg_nm 0 cs_read_plan_0.nd nmc_read_plan_0_kind.comp)) (fun cl C fp pins s₂ H₂ => pts_nil) (fun cl C fp pins s₂ H₂ => (pvN 0 nmc_read_plan_0_kind.comp)) (fun cl C fp pins s₂ H₂ => (pe_lst pa_nil)) (by rfl) (by intro _; rfl) (Or.inl rfl))
        (pss_cons (ps_for PassesOwn.leaving rfl (pi_list (pe_bm PySem.F.plainAttrs_str PySem.F.slot_str_split PySem.F.type_str_split mt_split (pvN 0 nm_read_plan_text) (pa_cons pe_str pa_nil))) (pg_nm 2 nd nm_read_plan_row) (pss_cons (ps_nm 3 nd nm_read_plan_words (pe_bm PySem.F.plainAttrs_str PySem.F.slot_str_split PySem.F.type_str_split mt_split (pvN 2 nm_read_plan_row) (pa_cons pe_str pa_nil)))
          (pss_cons (ps_expr (pe_fd D_check_row gm_read_plan_check_row (hr.mono (by decide)) pass_on (pa_cons (pvN 3 nm_read_plan_words) pa_nil)))
          (pss_one (ps_expr (pe_bm PySem.F.plainAttrs_list PySem.F.slot_list_append PySem.F.type_list_append mt_append (pe_dix (P := P) (w := w) (K := K) (pvN 1 nm_read_plan_told) (pe_ix ix_seq (pvN 3 nm_read_plan_words) pe_int (fun _ _ => rfl)) (fun _ _ => rfl)) (pa_cons (pe_fd D_read_row gm_read_plan_read_row (hr.mono (by decide)) pass_on (pa_cons (pvN 3 nm_read_plan_words) pa_nil)) pa_nil)))))))
        (pss_cons (ps_if (PW.pt (pw_or (pt_cmpR (op_neG hu) (pe_cb call_lenG gm_read_plan_len T.n_len bt_len (pa_cons (pe_dix (P := P) (w := w) (K := K) (pvN 1 nm_read_plan_told) pe_str (fun _ _ => rfl)) pa_nil)) pe_int (nomark _)) (pw_or1 (pt_cmpR (op_neG hu) (pe_cb call_lenG gm_read_plan_len T.n_len bt_len (pa_cons (pe_dix (P := P) (w := w) (K := K) (pvN 1 nm_read_plan_told) pe_str (fun _ _ => rfl)) pa_nil)) pe_int (nomark _))))) (pss_one (ps_rs throws_def gm_read_plan_NoText rfl T.x_NoText T.g_NoText (pa_cons pe_str pa_nil))) pss_nil)
        (pss_one (ps_ret (pe_mk M_Plan gm_read_plan_Plan (hr.mono (by decide)) pass_on (pa_cons (pe_ix ix_seq (pe_dix (P := P) (w := w) (K := K) (pvN 1 nm_read_plan_told) pe_str (fun _ _ => rfl)) pe_int (fun _ _ => rfl)) (pa_cons (pe_dix (P := P) (w := w) (K := K) (pvN 1 nm_read_plan_told) pe_str (fun _ _ => rfl)) (pa_cons (pe_ix ix_seq (pe_dix (P := P) (w := w) (K := K) (pvN 1 nm_read_plan_told) pe_str (fun _ _ => rfl)) pe_int (fun _ _ => rfl)) (pa_cons (pe_dix (P := P) (w := w) (K := K) (pvN 1 nm_read_plan_told) pe_str (fun _ _ => rfl)) pa_nil)))))))))), ?_⟩
    walk_at "st"
    refine ⟨a.WORDS, wordsKV, rfl, T.kd, fun D nD => ?_⟩
    refine dcomp_kd (kvs := wordsKV) (fun i σ H' => ∃ (x : Option V) (as : List Addr), σ = [x] ∧ Same H H' ∧ as.length = i ∧ as.Nodup ∧ (∀ b ∈ as, H' b = some (.lst []) ∧ H b = none ∧ b ≠ D) ∧ H' D = some (.dK (((wordsKV.map (·.1)).take i).zip (as.map V.ref)))) ⟨none, [], rfl, (Same.refl H).upd nD, rfl, List.nodup_nil, fun b m => absurd m (by simp), upd_same⟩ ?_ ?_
    · rintro i p σ H' hp ⟨x, as, rfl, sm, al, an, ah, hD⟩
      walk_at "st"
      refine ⟨(by show 0 ≤ sizeLine; decide), fun b nb => ?_⟩
      have bD : b ≠ D := fun z => by rw [z, hD] at nb; cases nb
      have hk : (wordsKV.map (·.1))[i]? = some p.1 := by rw [List.getElem?_map, hp]; rfl
      have il : i < 4 := (List.getElem?_eq_some_iff.mp hp).1
      have et : (wordsKV.map (·.1)).take (i + 1) = (wordsKV.map (·.1)).take i ++ [p.1] := by rw [List.take_add_one, hk]; rfl
      have lt : ((wordsKV.map (·.1)).take i).length = (as.map V.ref).length := by rw [List.length_take, List.length_map, List.length_map, al]; show min i 4 = i; omega
      have ndk : ((wordsKV.map (·.1)).take i ++ [p.1]).Nodup := by rw [← et]; exact keysKV_at.sublist (List.take_sublist _ _)
      have vn : valV (((wordsKV.map (·.1)).take i).zip (as.map V.ref)) p.1 = none := by
        cases h : valV (((wordsKV.map (·.1)).take i).zip (as.map V.ref)) p.1 with
        | none => rfl
        | some v =>
          have m := valV_in h
          rw [List.map_fst_zip (by omega)] at m
          exact absurd rfl ((List.nodup_append.mp ndk).2.2 p.1 m p.1 (by simp))
      refine ⟨_, p.1, rfl, (by rw [upd_ne bD.symm]; exact hD), (by rw [List.length_zip, ← lt, List.length_take, sizeLine_eq]; omega), _, as ++ [b], rfl, (sm.upd nb).updN nD, (by rw [List.length_append, al]; rfl), ?_, ?_, ?_⟩
      · refine List.nodup_append.mpr ⟨an, List.nodup_cons.mpr ⟨by simp, List.nodup_nil⟩, fun x hx y hy z => ?_⟩
        rw [List.mem_singleton.mp hy] at z
        have := (ah x hx).1
        rw [z, nb] at this; cases this
      · intro c hc
        rcases List.mem_append.mp hc with m | m
        · obtain ⟨c1, c2, c3⟩ := ah c m
          exact ⟨by rw [upd_ne c3, upd_ne (ne_of_none c1 nb)]; exact c1, c2, c3⟩
        · rw [List.mem_singleton.mp m]
          exact ⟨by rw [upd_ne bD, upd_same], sm.free nb, bD⟩
      · rw [upd_same, putK_new _ vn, et, List.map_append, List.zip_append lt]; rfl
    · rintro σ H' ⟨x, as, rfl, sm, al, an, ah, hD⟩
      obtain ⟨a1, a2, a3, a4, rfl⟩ : ∃ a1 a2 a3 a4, as = [a1, a2, a3, a4] := by
        match as, al with
        | [a1, a2, a3, a4], _ => exact ⟨a1, a2, a3, a4, rfl⟩
      have tld : Told H H' D a1 a2 a3 a4 [] [] [] [] := ⟨hD, (ah a1 (by simp)).1, (ah a2 (by simp)).1, (ah a3 (by simp)).1, (ah a4 (by simp)).1, fun t m => absurd m (by simp), an, ⟨(ah a1 (by simp)).2.1, (ah a2 (by simp)).2.1, (ah a3 (by simp)).2.1, (ah a4 (by simp)).2.1⟩, sm⟩
      clear ah an hD
      walk_at "st"
      refine ⟨by omega, fun L nL => ?_⟩
      rw [cr]
      have nLa : L ≠ a1 ∧ L ≠ a2 ∧ L ≠ a3 ∧ L ≠ a4 := ⟨(ne_of_none tld.h1 nL).symm, (ne_of_none tld.h2 nL).symm, (ne_of_none tld.h3 nL).symm, (ne_of_none tld.h4 nL).symm⟩
      have t1 := tld.same ((Same.refl H').upd (o := .lst ((rows.map rowT).map V.str)) nL)
      have hL : (upd H' L (.lst ((rows.map rowT).map V.str))) L = some (.lst ((rows.map rowT).map V.str)) := upd_same
      generalize upd H' L (.lst ((rows.map rowT).map V.str)) = H1 at t1 hL ⊢
      clear tld
      refine ⟨L, rfl, ⟨_, .of hL⟩, for_list (K := K) (a := L) (xs := (rows.map rowT).map V.str) (fun i σ H2 => ∃ x2 x3 ts, σ = [some (.str text), some (.ref D), x2, x3] ∧ Told H H2 D a1 a2 a3 a4 (lngs (rows.take i)) (seks (rows.take i)) (lins (rows.take i)) ts ∧ ts.map (·.2) = grps (rows.take i) ∧ H2 L = some (.lst ((rows.map rowT).map V.str))) ⟨none, none, [], rfl, t1, rfl, hL⟩ (fun i σ H2 _ ⟨_, _, _, _, _, _, h⟩ => .of h) ?_ ?_⟩
      · rintro i y σ H2 hi ⟨x2, x3, ts, rfl, tl, hts, hL2⟩
        have ilt : i < rows.length := by have := (List.getElem?_eq_some_iff.mp hi).1; rwa [List.length_map, List.length_map] at this
        rw [List.getElem?_map, List.getElem?_map, List.getElem?_eq_getElem ilt] at hi
        cases hi
        have okr := ok rows[i] (List.getElem_mem ilt)
        have et : rows.take (i + 1) = rows.take i ++ [rows[i]] := by rw [List.take_add_one, List.getElem?_eq_getElem ilt]; rfl
        have cw := cut_words okr
        have rlen := rowT_len okr
        have eL : lngs (rows.take (i + 1)) = lngs (rows.take i) ++ lngs [rows[i]] := by rw [et]; exact List.filterMap_append
        have eS : seks (rows.take (i + 1)) = seks (rows.take i) ++ seks [rows[i]] := by rw [et]; exact List.filterMap_append
        have eZ : lins (rows.take (i + 1)) = lins (rows.take i) ++ lins [rows[i]] := by rw [et]; exact List.filterMap_append
        have eG : grps (rows.take (i + 1)) = grps (rows.take i) ++ grps [rows[i]] := by rw [et]; exact List.filterMap_append
        have tk : (rows.take i).length ≤ 110 := by rw [List.length_take]; omega
        have zL : (lngs (rows.take i)).length ≤ 110 := Nat.le_trans (List.length_filterMap_le _ _) tk
        have zS : (seks (rows.take i)).length ≤ 110 := Nat.le_trans (List.length_filterMap_le _ _) tk
        have zZ : (lins (rows.take i)).length ≤ 110 := Nat.le_trans (List.length_filterMap_le _ _) tk
        have zG : (grps (rows.take i)).length ≤ 110 := Nat.le_trans (List.length_filterMap_le _ _) tk
        have zT : ts.length ≤ 110 := by rw [← hts, List.length_map] at zG; exact zG
        walk_at "st"
        refine ⟨by omega, fun W nW => ?_⟩
        rw [cw]
        have s4 := (Same.refl H2).upd (o := .lst ((rowW rows[i]).map V.str)) nW
        have tw := tl.same s4
        have hL4 := s4 _ _ hL2
        have hW : (upd H2 W (.lst ((rowW rows[i]).map V.str))) W = some (.lst ((rowW rows[i]).map V.str)) := upd_same
        generalize upd H2 W (.lst ((rowW rows[i]).map V.str)) = H4 at tw hL4 hW ⊢
        clear s4
        walk_at "st"
        refine ⟨W, rows[i], rfl, hW, okr, ?_⟩
        generalize rows[i] = r at hW okr eL eS eZ eG ⊢
        cases r with
        | lng n =>
          walk_at "st"
          refine ⟨D, keysV a1 a2 a3 a4, .inr "long", .ref a1, rfl, rfl, .of tw.d, key1 .., ?_⟩
          walk_at "st"
          refine ⟨.inl ⟨rfl, _, .of tw.h1⟩, ?_⟩
          walk_at "st"
          refine ⟨W, .lng n, rfl, hW, okr, fun H3 s3 => ?_⟩
          have tw3 := tw.same s3
          walk_at "st"
          refine ⟨a1, _, _, rfl, rfl, tw3.h1, (by rw [List.length_map, sizeLine_eq]; omega), ?_⟩
          have pp := tw3.put1 n
          refine ⟨_, _, ts, rfl, ?_, by rw [eG]; show _ = _ ++ []; rw [List.append_nil]; exact hts, (by rw [upd_ne nLa.1]; exact s3 _ _ hL4)⟩
          rw [eL, eS, eZ]
          show Told _ _ _ _ _ _ _ (_ ++ [n]) (_ ++ []) (_ ++ []) _
          rw [List.append_nil, List.append_nil]
          exact pp
        | sek n =>
          walk_at "st"
          refine ⟨D, keysV a1 a2 a3 a4, .inr "seekers", .ref a2, rfl, rfl, .of tw.d, key2 .., ?_⟩
          walk_at "st"
          refine ⟨.inl ⟨rfl, _, .of tw.h2⟩, ?_⟩
          walk_at "st"
          refine ⟨W, .sek n, rfl, hW, okr, fun H3 s3 => ?_⟩
          have tw3 := tw.same s3
          walk_at "st"
          refine ⟨a2, _, _, rfl, rfl, tw3.h2, (by rw [List.length_map, sizeLine_eq]; omega), ?_⟩
          have pp := tw3.put2 n
          refine ⟨_, _, ts, rfl, ?_, by rw [eG]; show _ = _ ++ []; rw [List.append_nil]; exact hts, (by rw [upd_ne nLa.2.1]; exact s3 _ _ hL4)⟩
          rw [eL, eS, eZ]
          show Told _ _ _ _ _ _ _ (_ ++ []) (_ ++ [n]) (_ ++ []) _
          rw [List.append_nil, List.append_nil]
          exact pp
        | lin z =>
          walk_at "st"
          refine ⟨D, keysV a1 a2 a3 a4, .inr "line", .ref a3, rfl, rfl, .of tw.d, key3 .., ?_⟩
          walk_at "st"
          refine ⟨.inl ⟨rfl, _, .of tw.h3⟩, ?_⟩
          walk_at "st"
          refine ⟨W, .lin z, rfl, hW, okr, ?_⟩
          have s3 : Same H4 H4 := Same.refl H4
          have tw3 := tw.same s3
          walk_at "st"
          refine ⟨a3, _, _, rfl, rfl, tw3.h3, (by rw [List.length_map, sizeLine_eq]; omega), ?_⟩
          have pp := tw3.put3 z
          refine ⟨_, _, ts, rfl, ?_, by rw [eG]; show _ = _ ++ []; rw [List.append_nil]; exact hts, (by rw [upd_ne nLa.2.2.1]; exact s3 _ _ hL4)⟩
          rw [eL, eS, eZ]
          show Told _ _ _ _ _ _ _ (_ ++ []) (_ ++ []) (_ ++ [z]) _
          rw [List.append_nil, List.append_nil]
          exact pp
        | grp z n =>
          walk_at "st"
          refine ⟨D, keysV a1 a2 a3 a4, .inr "group", .ref a4, rfl, rfl, .of tw.d, key4 .., ?_⟩
          walk_at "st"
          refine ⟨.inl ⟨rfl, _, .of tw.h4⟩, ?_⟩
          walk_at "st"
          refine ⟨W, .grp z n, rfl, hW, okr, fun H3 t3 s3 nt ht3 => ?_⟩
          have tw3 := tw.same s3
          walk_at "st"
          refine ⟨a4, _, _, rfl, rfl, tw3.h4, (by rw [List.length_map, sizeLine_eq]; omega), ?_⟩
          have pp := tw3.put4 (t3, z, n) ht3
          refine ⟨_, _, ts ++ [(t3, z, n)], rfl, ?_, by rw [eG, List.map_append, hts]; rfl, (by rw [upd_ne nLa.2.2.2]; exact s3 _ _ hL4)⟩
          rw [eL, eS, eZ]
          show Told _ _ _ _ _ _ _ (_ ++ []) (_ ++ []) (_ ++ []) _
          rw [List.append_nil, List.append_nil, List.append_nil]
          exact pp
      · rintro σ H2 ⟨x2, x3, ts, rfl, tl, hts, _⟩
        rw [List.length_map, List.length_map, List.take_length, hg1] at hts
        rw [List.length_map, List.length_map, List.take_length, hl1, hs1, hz1] at tl
        have good2 : Good long seekers zs ts := GoodZ.good (by rw [hts]; exact good)
        walk_at "st"
        refine ⟨D, _, .inr "long", _, rfl, rfl, .of tl.d, key1 .., ?_⟩
        walk_at "st"
        refine Or.inr ⟨_, _, rfl, .inl (.of tl.h1), ?_⟩
        walk_at "st"
        refine ⟨D, _, .inr "seekers", _, rfl, rfl, .of tl.d, key2 .., ?_⟩
        walk_at "st"
        refine Or.inr ⟨_, _, rfl, .inl (.of tl.h2), ?_⟩
        walk_at "st"
        refine ⟨D, _, .inr "long", _, rfl, rfl, .of tl.d, key1 .., ?_⟩
        walk_at "st"
        refine Or.inl ⟨a1, _, _, _, rfl, rfl, .of tl.h1, rfl, ?_⟩
        walk_at "st"
        refine ⟨D, _, .inr "line", _, rfl, rfl, .of tl.d, key3 .., ?_⟩
        walk_at "st"
        refine ⟨D, _, .inr "seekers", _, rfl, rfl, .of tl.d, key2 .., ?_⟩
        walk_at "st"
        refine Or.inl ⟨a2, _, _, _, rfl, rfl, .of tl.h2, rfl, ?_⟩
        walk_at "st"
        refine ⟨D, _, .inr "group", _, rfl, rfl, .of tl.d, key4 .., ?_⟩
        walk_at "st"
        intro p dx nx ndx ndd
        have s3 : Same H2 (upd (upd H2 dx (.own p)) p (.ins a.Plan dx [])) := ((Same.refl H2).upd ndx).upd (by rw [upd_ne ndd.symm]; exact nx)
        obtain ⟨g1, ⟨⟨lz1, lz2⟩, oz, nz⟩, lg, og, ng⟩ := id good2
        have okl : ∀ z ∈ zs, Ok z := fun z m => ⟨dig_asc (oz z m).2, by have := (oz z m).1; omega⟩
        have okg : ∀ t ∈ ts, Ok t.2.1 := fun t m => ⟨dig_asc (og t m).2.1, by have := (og t m).1; omega⟩
        refine ⟨p, long, a3, seekers, a4, a.Plan, dx, zs, ts, rfl, upd_same, pc, ⟨s3 _ _ tl.h3, s3 _ _ tl.h4, tl.lay.same s3, okl, okg, by omega, by omega⟩, fun _ H3 lt gt zs' ts' sx hp hlt hgt pm so pt st => ⟨rfl, ?_⟩, fun ngd => absurd good2 ngd⟩
        have fp : H p = none := tl.s.free nx
        have s4 : Same H H3 := fun b o e => sx b o (fun z => by rw [List.mem_singleton.mp z, fp] at e; cases e) (s3 _ _ (tl.s _ _ e))
        have lay' : Lay H3 ts' := fun t m => by
          have e := tl.lay t (pt.mem_iff.mp m)
          exact sx _ _ (fun z => by rw [List.mem_singleton.mp z, nx] at e; cases e) (s3 _ _ e)
        refine q H3 p zs' (ts'.map (·.2)) s4 fp ⟨⟨dx, lt, gt, ts', hp, hlt, hgt, lay', rfl⟩, pc, ⟨by omega, by omega⟩, ⟨by omega, by omega⟩, ⟨by rw [pm.length_eq]; omega, fun z m => ?_⟩, ⟨by rw [List.length_map, pt.length_eq]; omega, fun g m => ?_⟩⟩ pm so (by rw [← hts]; exact pt.map _) (List.pairwise_map.mpr st)
        · have := oz z (pm.mem_iff.mp m)
          exact ⟨this.2, by have := this.1; omega, by have := this.1; omega⟩
        · obtain ⟨t, mt, rfl⟩ := List.mem_map.mp m
          have := og t (pt.mem_iff.mp mt)
          exact ⟨⟨this.2.1, by have := this.1; omega, by have := this.1; omega⟩, ⟨this.2.2.1, by have := this.2.2.2; omega⟩⟩
end
end Lw

set_option Elab.async false
set_option linter.all false
set_option maxRecDepth 100000
set_option maxHeartbeats 4000000
set_option pp.deepTerms false
set_option pp.deepTerms.threshold 8
set_option pp.maxSteps 1500
namespace Lw
open PySem L2
local macro_rules | `(tactic| walk_at "st") => `(tactic| repeat (first
  | refine ⟨_, rfl, ?_⟩
  | refine ⟨_, _, rfl, rfl, ?_⟩
  | refine ⟨_, _, rfl, ?_⟩
  | refine Or.inl ⟨_, _, rfl, rfl, ?_⟩
  | refine Or.inl ⟨rfl, ?_⟩
  | refine ⟨rfl, ?_⟩
  | refine Or.inl ⟨_, _, _, _, rfl, rfl, .of (by assumption), rfl, ?_⟩
  | (refine And.intro (show CMul _ _ from ?_) ?_; (first | exact Or.inr ⟨by omega, by omega⟩ | exact Or.inl ⟨by omega, by omega⟩))
  | (refine And.intro (show CDiv _ _ from ?_) ?_; exact ⟨by omega, by omega⟩)
  | (refine And.intro (show (0 : Int) < _ from ?_) ?_; first | decide | omega)))
abbrev Ct := Int × Int × List Str × List (Str × Int)
def planD (c : Ct) : PyData := .tuple [.int c.1, .tuple (c.2.2.1.map PyData.str), .int c.2.1, .tuple (c.2.2.2.map fun g => .tuple [.str g.1, .int g.2])]
def Kp (H H' : Hp) : Prop := ∀ b o, (∀ xs, o ≠ .lst xs) → H b = some o → H' b = some o
theorem Same.kp {H H' : Hp} (s : Same H H') : Kp H H' := fun b o _ e => s b o e
theorem Kp.refl (H : Hp) : Kp H H := fun _ _ _ e => e
theorem Kp.upd {H H' : Hp} (k : Kp H H') {l : Addr} {xs : List V} {o : HO} (h : H' l = some (.lst xs)) : Kp H (upd H' l o) := fun b u n e => by
  have e' := k b u n e
  rw [upd_ne (ne_of e' h (n xs))]
  exact e'
theorem Kp.trans {H H' H'' : Hp} (a : Kp H H') (b : Kp H' H'') : Kp H H'' := fun c o n e => b c o n (a c o n e)
structure DueAt (H : Hp) (t : Addr) (c : Ct) : Prop where
  ins : ∃ lt gt ts, H t = some (.tup [.int c.1, .ref lt, .int c.2.1, .ref gt]) ∧ H lt = some (.tup (c.2.2.1.map V.str)) ∧ H gt = some (.tup (ts.map prV)) ∧ Lay H ts ∧ ts.map (·.2) = c.2.2.2
theorem DueAt.kp {H H' : Hp} {t : Addr} {c : Ct} (h : DueAt H t c) (k : Kp H H') : DueAt H' t c := by
  obtain ⟨lt, gt, ts, h1, h2, h3, h4, h5⟩ := h.ins
  exact ⟨lt, gt, ts, k _ _ (fun xs z => by cases z) h1, k _ _ (fun xs z => by cases z) h2, k _ _ (fun xs z => by cases z) h3, fun x m => k _ _ (fun xs z => by cases z) (h4 x m), h5⟩
abbrev PlAt (K : PySem.W.Frag) (H : Hp) (C p : Addr) (c : Ct) : Prop := PlanAt K H C p c.1 c.2.1 c.2.2.1 c.2.2.2
theorem PlanAt.kp {K : PySem.W.Frag} {H H' : Hp} {C p : Addr} {c : Ct} (h : PlAt K H C p c) (k : Kp H H') : PlAt K H' C p c := by
  obtain ⟨dx, lt, gt, ts, h1, h2, h3, h4, h5⟩ := h.ins
  exact ⟨⟨dx, lt, gt, ts, k _ _ (fun xs z => by cases z) h1, k _ _ (fun xs z => by cases z) h2, k _ _ (fun xs z => by cases z) h3, fun x m => k _ _ (fun xs z => by cases z) (h4 x m), h5⟩, h.pc, h.l, h.s, h.z, h.g⟩
theorem grp_is {K : PySem.W.Frag} {H : Hp} : ∀ {ts : List Pr}, Lay H ts → IsAll K H (ts.map prV) ((ts.map (·.2)).map fun g => PyData.tuple [.str g.1, .int g.2])
  | [], _ => .nil
  | t :: ts, h => .cons (.tup (.of (h t List.mem_cons_self)) (.cons (.str _) (.cons (.int _) .nil))) (grp_is fun x m => h x (List.mem_cons_of_mem _ m))
theorem DueAt.is {K : PySem.W.Frag} {H : Hp} {t : Addr} {c : Ct} (h : DueAt H t c) : Is K H (.ref t) (planD c) := by
  obtain ⟨lt, gt, ts, h1, h2, h3, h4, h5⟩ := h.ins
  refine .tup (.of h1) (.cons (.int _) (.cons (.tup (.of h2) (isAll_strs _)) (.cons (.int _) (.cons (.tup (.of h3) ?_) .nil))))
  rw [← h5]
  exact grp_is h4
theorem due_all {K : PySem.W.Frag} {H : Hp} : ∀ {ds : List Addr} {cs : List Ct}, ds.length = cs.length → (∀ (i : Nat) (t : Addr) (c : Ct), ds[i]? = some t → cs[i]? = some c → DueAt H t c) → IsAll K H (ds.map V.ref) (cs.map planD)
  | [], [], _, _ => .nil
  | t :: ds, c :: cs, l, h => .cons (h 0 t c rfl rfl).is (due_all (by simpa using l) fun i t c h1 h2 => h (i + 1) t c h1 h2)
structure CtOk (c : Ct) : Prop where
  z : ∀ z ∈ c.2.2.1, Asc z
  g : ∀ g ∈ c.2.2.2, Asc g.1
theorem grp_lay : ∀ {gz : List (Str × Int)}, (∀ g ∈ gz, Asc g.1) → PyData.canLayAll0 (gz.map fun g => PyData.tuple [.str g.1, .int g.2]) = true ∧ PyData.depthAll (gz.map fun g => PyData.tuple [.str g.1, .int g.2]) ≤ 2
  | [], _ => ⟨rfl, by decide⟩
  | g :: gz, h => by
    obtain ⟨i1, i2⟩ := grp_lay fun x m => h x (List.mem_cons_of_mem _ m)
    have s1 := strOk_asc (h g List.mem_cons_self)
    refine ⟨?_, ?_⟩
    · show (PyData.canLay0 (.tuple [.str g.1, .int g.2]) && PyData.canLayAll0 _) = true
      rw [i1, Bool.and_true]
      show (PyData.canLay0 (.str g.1) && (PyData.canLay0 (.int g.2) && PyData.canLayAll0 [])) = true
      rw [s1]; rfl
    · show max (PyData.depth (.tuple [.str g.1, .int g.2])) (PyData.depthAll _) ≤ 2
      refine Nat.max_le.mpr ⟨?_, i2⟩
      simp [PyData.depth, PyData.depthAll]
theorem planD_lay {c : Ct} (h : CtOk c) : PyData.canLay0 (planD c) = true ∧ PyData.depth (planD c) ≤ 4 := by
  obtain ⟨z1, z2⟩ := strs_lay h.z
  obtain ⟨g1, g2⟩ := grp_lay h.g
  refine ⟨?_, ?_⟩
  · show (PyData.canLay0 (.int c.1) && (PyData.canLayAll0 (c.2.2.1.map PyData.str) && (PyData.canLay0 (.int c.2.1) && (PyData.canLayAll0 (c.2.2.2.map fun g => PyData.tuple [.str g.1, .int g.2]) && PyData.canLayAll0 [])))) = true
    rw [z1, g1]; rfl
  · unfold planD
    rw [dep_tup]
    simp only [PyData.depthAll, dep_tup]
    simp only [PyData.depth]
    omega
theorem plans_lay : ∀ {cs : List Ct}, (∀ c ∈ cs, CtOk c) → PyData.canLayAll0 (cs.map planD) = true ∧ PyData.depthAll (cs.map planD) ≤ 4
  | [], _ => ⟨rfl, by decide⟩
  | c :: cs, h => by
    obtain ⟨i1, i2⟩ := plans_lay fun x m => h x (List.mem_cons_of_mem _ m)
    obtain ⟨c1, c2⟩ := planD_lay (h c List.mem_cons_self)
    refine ⟨?_, ?_⟩
    · show (PyData.canLay0 _ && PyData.canLayAll0 _) = true
      rw [c1, i1]; rfl
    · show max (PyData.depth _) (PyData.depthAll _) ≤ 4
      exact Nat.max_le.mpr ⟨c2, i2⟩
theorem PlanAt.ctok {K : PySem.W.Frag} {H : Hp} {C p : Addr} {c : Ct} (h : PlAt K H C p c) : CtOk c := ⟨fun z m => dig_asc (h.z.2 z m).dig, fun g m => dig_asc (h.g.2 g m).1.dig⟩
theorem perm_map {α β : Type} {f : α → β} {l m : List β} (h : l.Perm m) : ∀ {R : List α}, R.map f = m → ∃ R' : List α, R'.Perm R ∧ R'.map f = l := by
  induction h with
  | nil => intro R e; exact ⟨R, .refl R, e⟩
  | cons x p ih =>
    intro R e
    cases R with
    | nil => cases e
    | cons r R =>
      obtain ⟨e1, e2⟩ := List.cons.inj e
      obtain ⟨R', p', e'⟩ := ih e2
      exact ⟨r :: R', p'.cons r, by rw [List.map_cons, e', e1]⟩
  | swap x y l =>
    intro R e
    match R, e with
    | r1 :: r2 :: R, e =>
      obtain ⟨e1, e2⟩ := List.cons.inj e
      obtain ⟨e3, e4⟩ := List.cons.inj e2
      exact ⟨r2 :: r1 :: R, .swap r1 r2 R, by rw [List.map_cons, List.map_cons, e1, e3, e4]⟩
  | trans p1 p2 i1 i2 =>
    intro R e
    obtain ⟨R1, q1, e1⟩ := i2 e
    obtain ⟨R2, q2, e2⟩ := i1 e1
    exact ⟨R2, q2.trans q1, e2⟩
theorem fst_inj : ∀ {l : List (Str × Int)}, (l.map (·.1)).Nodup → ∀ {a b : Str × Int}, a ∈ l → b ∈ l → a.1 = b.1 → a = b
  | [], _, _, _, ha, _, _ => absurd ha (by simp)
  | x :: l, nd, a, b, ha, hb, e => by
    have n := List.nodup_cons.mp nd
    rcases List.mem_cons.mp ha with ha | ha <;> rcases List.mem_cons.mp hb with hb | hb
    · rw [ha, hb]
    · exact absurd (List.mem_map.mpr ⟨b, hb, by rw [← e, ha]⟩) n.1
    · exact absurd (List.mem_map.mpr ⟨a, ha, by rw [e, hb]⟩) n.1
    · exact fst_inj n.2 ha hb e
theorem grp_one {x y : List (Str × Int)} (p : x.Perm y) (nd : (y.map (·.1)).Nodup) (hx : x.Pairwise fun a b => leS a.1 b.1) (hy : y.Pairwise fun a b => leS a.1 b.1) : x = y :=
  List.Perm.eq_of_pairwise (le := fun a b => leS a.1 b.1) (fun a b ha hb h1 h2 => fst_inj nd (p.mem_iff.mp ha) hb (leS_anti h1 h2)) hx hy p
theorem rows_facts (long seekers : Int) (zs : List Str) (gz : List (Str × Int)) : lngs (rowsOf long seekers zs gz) = [long] ∧ seks (rowsOf long seekers zs gz) = [seekers] ∧ lins (rowsOf long seekers zs gz) = zs ∧ grps (rowsOf long seekers zs gz) = gz := by
  unfold rowsOf lngs seks lins grps
  refine ⟨?_, ?_, ?_, ?_⟩ <;> simp [List.filterMap_map, Function.comp_def]
def twice {α : Type} : List α → List α
  | [] => []
  | c :: cs => c :: c :: twice cs
theorem twice_snoc {α : Type} (c : α) : ∀ cs : List α, twice (cs ++ [c]) = twice cs ++ [c, c]
  | [] => rfl
  | d :: cs => by show d :: d :: twice (cs ++ [c]) = _; rw [twice_snoc c cs]; rfl
theorem twice_len {α : Type} : ∀ cs : List α, (twice cs).length = 2 * cs.length
  | [] => rfl
  | d :: cs => by show (twice cs).length + 1 + 1 = _; rw [twice_len cs, List.length_cons]; omega
end Lw

set_option Elab.async false
set_option linter.all false
set_option maxRecDepth 100000
set_option maxHeartbeats 4000000
set_option pp.deepTerms false
set_option pp.deepTerms.threshold 8
set_option pp.maxSteps 1500
namespace Lw
open PySem L2
local macro_rules | `(tactic| walk_at "st") => `(tactic| repeat (first
  | refine ⟨_, rfl, ?_⟩
  | refine ⟨_, _, rfl, rfl, ?_⟩
  | refine ⟨_, _, rfl, ?_⟩
  | refine Or.inl ⟨_, _, rfl, rfl, ?_⟩
  | refine Or.inl ⟨rfl, ?_⟩
  | refine ⟨rfl, ?_⟩
  | refine Or.inl ⟨_, _, _, _, rfl, rfl, .of (by assumption), rfl, ?_⟩
  | (refine And.intro (show CMul _ _ from ?_) ?_; (first | exact Or.inr ⟨by omega, by omega⟩ | exact Or.inl ⟨by omega, by omega⟩))
  | (refine And.intro (show CDiv _ _ from ?_) ?_; exact ⟨by omega, by omega⟩)
  | (refine And.intro (show (0 : Int) < _ from ?_) ?_; first | decide | omega)))
def spLaw (K : PySem.W.Frag) : Sp := fun vs H Q _ => ∃ (p : Addr) (ns : List Int), vs = [.ref p] ∧ SqL K H p (ns.map V.int) ∧ ns.length ≤ 63 ∧ ∀ H', Q (.bl true) H'
structure Lp (K : PySem.W.Frag) (C : Addr) (H0 H : Hp) (pl du : Addr) (ps ds : List Addr) (cs : List Ct) : Prop where
  s : Same H0 H
  fp : H0 pl = none
  ne : du ≠ pl
  pl : H pl = some (.lst (ps.map V.ref))
  du : H du = some (.lst (ds.map V.ref))
  lp : ps.length = (twice cs).length
  ld : ds.length = (twice cs).length
  ap : ∀ (i : Nat) (q : Addr) (c : Ct), ps[i]? = some q → (twice cs)[i]? = some c → PlAt K H C q c
  ad : ∀ (i : Nat) (t : Addr) (c : Ct), ds[i]? = some t → (twice cs)[i]? = some c → DueAt H t c
theorem map_snoc {α β : Type} (f : α → β) (l : List α) (x : α) : l.map f ++ [f x] = (l ++ [x]).map f := by rw [List.map_append]; rfl
theorem rep_flat {α : Type} (x : α) : ∀ n : Nat, (List.replicate n [x]).flatten = List.replicate n x
  | 0 => rfl
  | n + 1 => by rw [List.replicate_succ, List.flatten_cons, rep_flat x n]; rfl
theorem nn (b : Bool) : (if true = true then !b else b) = !b := rfl
theorem twice_at {α : Type} : ∀ (cs : List α) (j : Nat), (twice cs)[j / 2 * 2]? = (twice cs)[j]?
  | [], j => by simp [twice]
  | c :: cs, 0 => rfl
  | c :: cs, 1 => rfl
  | c :: cs, j + 2 => by
    rw [show (j + 2) / 2 * 2 = j / 2 * 2 + 2 by omega]
    exact twice_at cs j
def ctT (c : Ct) : Str := Str.join nlS ((rowsOf c.1 c.2.1 c.2.2.1 c.2.2.2).map rowT)
theorem app_asc {x y : Str} (hx : Asc x) (hy : Asc y) : Asc (x ++ y) := fun c hc => by
  rw [app_toList] at hc
  rcases List.mem_append.mp hc with h | h
  · exact hx c h
  · exact hy c h
theorem join_asc {sep : Str} (hs : Asc sep) : ∀ {zs : List Str}, (∀ z ∈ zs, Asc z) → Asc (Str.join sep zs)
  | [], _ => fun c hc => absurd hc (by show ¬ c ∈ []; simp)
  | [z], h => h z (by simp)
  | z :: y :: zs, h => app_asc (app_asc (h z (by simp)) hs) (join_asc hs fun x m => h x (List.mem_cons_of_mem _ m))
theorem rowT_asc {r : Row} (h : RowOk r) : Asc (rowT r) := by
  have e : ∀ k : String, k ∈ ["long ", "seekers ", "line ", "group ", " "] → ∀ c ∈ (Str.ofString k).cps.toList, c < 128 := by decide +kernel
  cases r with
  | lng n => exact app_asc (e "long " (by simp)) (dig_asc (NumOk.dig h))
  | sek n => exact app_asc (e "seekers " (by simp)) (dig_asc (NumOk.dig h))
  | lin z => exact app_asc (e "line " (by simp)) (dig_asc (DigOk.dig h))
  | grp z n => exact app_asc (app_asc (app_asc (e "group " (by simp)) (dig_asc h.1.dig)) (e " " (by simp))) (dig_asc h.2.dig)
theorem PlanAt.asc {K : PySem.W.Frag} {H : Hp} {C p : Addr} {c : Ct} (h : PlAt K H C p c) : Asc (ctT c) := by
  refine join_asc (fun c hc => ?_) fun z m => ?_
  · have : c = 10 := by simpa [nlS] using hc
    omega
  · obtain ⟨r, mr, rfl⟩ := List.mem_map.mp m
    exact rowT_asc (h.rows r mr)
theorem good_num {long seekers : Int} {zs : List Str} {ts : List Pr} (g : Good long seekers zs ts) : NumOk long ∧ NumOk seekers ∧ zs.length ≤ 60 ∧ ts.length ≤ 40 ∧ (∀ z ∈ zs, DigOk z) ∧ (∀ t ∈ ts, DigOk t.2.1 ∧ NumOk t.2.2) ∧ (ts.map (·.2.1)).Nodup := by
  obtain ⟨g1, ⟨⟨lz1, lz2⟩, oz, nz⟩, lg, og, ng⟩ := g
  refine ⟨⟨by omega, by omega⟩, ⟨by omega, by omega⟩, lz2, lg, fun z m => ?_, fun t m => ?_, ng⟩
  · have := oz z m
    exact ⟨this.2, by have := this.1; omega, by have := this.1; omega⟩
  · have := og t m
    exact ⟨⟨this.2.1, by have := this.1; omega, by have := this.1; omega⟩, ⟨this.2.2.1, by have := this.2.2.2; omega⟩⟩
theorem good_perm {long seekers : Int} {zs zs' : List Str} {ts ts' : List Pr} (g : Good long seekers zs ts) (pm : zs'.Perm zs) (pt : ts'.Perm ts) : GoodZ long seekers zs' (ts'.map (·.2)) := by
  obtain ⟨g1, ⟨⟨lz1, lz2⟩, oz, nz⟩, lg, og, ng⟩ := g
  refine ⟨g1, ⟨⟨by rw [pm.length_eq]; exact lz1, by rw [pm.length_eq]; exact lz2⟩, fun z m => oz z (pm.mem_iff.mp m), pm.symm.nodup nz⟩, by rw [List.length_map, pt.length_eq]; exact lg, fun x m => ?_, ?_⟩
  · obtain ⟨t, mt, rfl⟩ := List.mem_map.mp m
    exact og t (pt.mem_iff.mp mt)
  · rw [List.map_map]
    exact (pt.symm.map _).nodup ng
section
variable {P : Program} {w : World} {K : PySem.W.Frag} {mg : Str → Option Value} {base : Heap} {a : Adr}
theorem sc_law : FnScope ["script", "due", "plans", "k", "parts", "long", "lines", "seekers", "groups", "rows", "text"] ["script"] (defScope (top 34)) := ⟨rfl, rfl, rfl, by decide +kernel, rfl, by decide +kernel, by decide +kernel⟩
theorem nm_law_script : Nm (defScope (top 34)) "script" := ⟨by decide +kernel, by decide +kernel, by decide +kernel⟩
theorem nm_law_due : Nm (defScope (top 34)) "due" := ⟨by decide +kernel, by decide +kernel, by decide +kernel⟩
theorem nm_law_plans : NmC (defScope (top 34)) "plans" := ⟨by decide +kernel, by decide +kernel, by decide +kernel⟩
theorem nm_law_k : Nm (defScope (top 34)) "k" := ⟨by decide +kernel, by decide +kernel, by decide +kernel⟩
theorem nm_law_parts : Nm (defScope (top 34)) "parts" := ⟨by decide +kernel, by decide +kernel, by decide +kernel⟩
theorem nm_law_long : Nm (defScope (top 34)) "long" := ⟨by decide +kernel, by decide +kernel, by decide +kernel⟩
theorem nm_law_lines : Nm (defScope (top 34)) "lines" := ⟨by decide +kernel, by decide +kernel, by decide +kernel⟩
theorem nm_law_seekers : Nm (defScope (top 34)) "seekers" := ⟨by decide +kernel, by decide +kernel, by decide +kernel⟩
theorem nm_law_groups : Nm (defScope (top 34)) "groups" := ⟨by decide +kernel, by decide +kernel, by decide +kernel⟩
theorem nm_law_rows : Nm (defScope (top 34)) "rows" := ⟨by decide +kernel, by decide +kernel, by decide +kernel⟩
theorem nm_law_text : Nm (defScope (top 34)) "text" := ⟨by decide +kernel, by decide +kernel, by decide +kernel⟩
theorem gm_law_range : Gm (defScope (top 34)) "range" := ⟨by decide +kernel, by decide +kernel, by decide +kernel⟩
theorem gm_law_tuple : Gm (defScope (top 34)) "tuple" := ⟨by decide +kernel, by decide +kernel, by decide +kernel⟩
theorem gm_law_sorted : Gm (defScope (top 34)) "sorted" := ⟨by decide +kernel, by decide +kernel, by decide +kernel⟩
theorem gm_law_read_plan : Gm (defScope (top 34)) "read_plan" := ⟨by decide +kernel, by decide +kernel, by decide +kernel⟩
theorem gm_law__law_dealt : Gm (defScope (top 34)) "_law_dealt" := ⟨by decide +kernel, by decide +kernel, by decide +kernel⟩
theorem gm_law__law_draws : Gm (defScope (top 34)) "_law_draws" := ⟨by decide +kernel, by decide +kernel, by decide +kernel⟩
theorem gm_law_isinstance : Gm (defScope (top 34)) "isinstance" := ⟨by decide +kernel, by decide +kernel, by decide +kernel⟩
theorem gm_law_str : Gm (defScope (top 34)) "str" := ⟨by decide +kernel, by decide +kernel, by decide +kernel⟩
theorem gm_law_plan_text : Gm (defScope (top 34)) "plan_text" := ⟨by decide +kernel, by decide +kernel, by decide +kernel⟩
theorem gm_law_Plan : Gm (defScope (top 34)) "Plan" := ⟨by decide +kernel, by decide +kernel, by decide +kernel⟩
theorem gm_law_list : Gm (defScope (top 34)) "list" := ⟨by decide +kernel, by decide +kernel, by decide +kernel⟩
theorem gm_law__law_plan_rows : Gm (defScope (top 34)) "_law_plan_rows" := ⟨by decide +kernel, by decide +kernel, by decide +kernel⟩
theorem gm_law__law_plan : Gm (defScope (top 34)) "_law_plan" := ⟨by decide +kernel, by decide +kernel, by decide +kernel⟩
def csc_law_0 : Scope := { kind := .function, names := [(".0", .local), ("plan", .local), ("plan_text", .globalImplicit)], isGenerator := false, isCoroutine := false, more := [] }
theorem cs_law_0 : CompSc csc_law_0 (defScope (top 34)) ["plan"] ["script", "due", "plans", "k", "parts", "long", "lines", "seekers", "groups", "rows", "text"] [none] := CompSc.mk' rfl (by decide +kernel) (by decide +kernel) (by decide +kernel) (by decide +kernel) rfl (by decide +kernel)
theorem nmc_law_0_plan : Nm csc_law_0 "plan" := ⟨by decide +kernel, by decide +kernel, by decide +kernel⟩
theorem gmc_law_0_plan_text : Gm csc_law_0 "plan_text" := ⟨by decide +kernel, by decide +kernel, by decide +kernel⟩
def csc_law_1 : Scope := { kind := .function, names := [(".0", .local), ("k", .local), ("plan_text", .globalImplicit), ("plans", .free)], isGenerator := false, isCoroutine := false, more := [] }
theorem cs_law_1 : CompSc csc_law_1 (defScope (top 34)) ["k", "plans"] ["script", "due", "plans", "k", "parts", "long", "lines", "seekers", "groups", "rows", "text"] [none, some 2] := CompSc.mk' rfl (by decide +kernel) (by decide +kernel) (by decide +kernel) (by decide +kernel) rfl (by decide +kernel)
theorem nmc_law_1_k : Nm csc_law_1 "k" := ⟨by decide +kernel, by decide +kernel, by decide +kernel⟩
theorem nmc_law_1_plans : NmR csc_law_1 "plans" := ⟨by decide +kernel, by decide +kernel, by decide +kernel⟩
theorem gmc_law_1_plan_text : Gm csc_law_1 "plan_text" := ⟨by decide +kernel, by decide +kernel, by decide +kernel⟩
def csc_law_2 : Scope := { kind := .function, names := [(".0", .local), ("plan", .local), ("_law_parts", .globalImplicit)], isGenerator := false, isCoroutine := false, more := [] }
theorem cs_law_2 : CompSc csc_law_2 (defScope (top 34)) ["plan"] ["script", "due", "plans", "k", "parts", "long", "lines", "seekers", "groups", "rows", "text"] [none] := CompSc.mk' rfl (by decide +kernel) (by decide +kernel) (by decide +kernel) (by decide +kernel) rfl (by decide +kernel)
theorem nmc_law_2_plan : Nm csc_law_2 "plan" := ⟨by decide +kernel, by decide +kernel, by decide +kernel⟩
theorem gmc_law_2__law_parts : Gm csc_law_2 "_law_parts" := ⟨by decide +kernel, by decide +kernel, by decide +kernel⟩
set_option maxHeartbeats 20000000
theorem ok_law {f : Addr} {fd : FuncData} (F : Fun K "law" "law" (top 34) f fd) (T : TxtR P w K mg a) (pc : PlC K a.Plan) (D_law_draws : FnIn P w K mg base CX0 2 "_law_draws" ["script", "k", "many", "base"] (spDraws K)) (D_law_plan : FnIn P w K mg base CX0 3 "_law_plan" ["script", "at"] (spLawPlan K)) (D_law_plan_rows : FnIn P w K mg base CX0 1 "_law_plan_rows" ["parts"] spPlanRows)
    (D_law_dealt : FnIn P w K mg base CX0 1 "_law_dealt" ["rows", "draws"] spDealt) (D_law_parts : FnIn P w K mg base CX0 1 "_law_parts" ["plan"] (spParts K a)) (D_plan_text : FnIn P w K mg base CX0 1 "plan_text" ["plan"] (spPlanText K a)) (D_read_plan : FnIn P w K mg base (CXE P w) 5 "read_plan" ["text"] (spReadPlan K a))
    (M_Plan : MkIn P w K mg base (CXE P w) 3 a.Plan "Plan" ["self", "long", "lines", "seekers", "groups"] (spPlanI a K)) : FnOk P w K mg base CX0 6 f fd ["script"] (spLaw K) := by
  refine F.ok sc_law (fun vs H Q E h => ?_) (fun cdv A outer s H vs Q E hr h => ?_)
  · obtain ⟨p, ns, rfl, _⟩ := h
    rfl
  · obtain ⟨ps0, ns, rfl, hS, hn, q⟩ := h
    have hu := hr.units
    have nd := sc_law.nd
    refine ⟨_, (@pss_cons _ _ _ _ _ (ps_nm 1 nd nm_law_due (pe_lst pa_nil))
        (pss_cons (ps_nmC 2 nd nm_law_plans (pe_lst pa_nil))
        (pss_cons (ps_for PassesOwn.never rfl (pi_r1 gm_law_range T.n_range (pa_cons pe_int pa_nil)) (pg_nm 3 nd nm_law_k) (pss_cons (ps_nm 4 nd nm_law_parts (pe_fd D_law_plan gm_law__law_plan (hr.mono (by decide)) pass0 (pa_cons (pvN 0 nm_law_script) (pa_cons (pe_op op_mulG pe_int (pvN 3 nm_law_k)) pa_nil))))
          (pss_cons (ps_asg (pvN 4 nm_law_parts) (pg_tup rfl (pgs_cons (pg_nm 5 nd nm_law_long) (pgs_cons (pg_nm 6 nd nm_law_lines) (pgs_cons (pg_nm 7 nd nm_law_seekers) (pgs_cons (pg_nm 8 nd nm_law_groups) pgs_nil))))))
          (pss_cons (ps_nm 9 nd nm_law_rows (pe_fd D_law_plan_rows gm_law__law_plan_rows (hr.mono (by decide)) pass0 (pa_cons (pvN 4 nm_law_parts) pa_nil)))
          (pss_cons (ps_nm 10 nd nm_law_text (pe_fd D_plan_text gm_law_plan_text (hr.mono (by decide)) pass0 (pa_cons (pe_mk M_Plan gm_law_Plan (hr.mono (by decide)) pass_no (pa_cons (pvN 5 nm_law_long) (pa_cons (pe_ct (call_listG rfl) gm_law_list T.n_list bt_list (pa_cons (pvN 6 nm_law_lines) pa_nil)) (pa_cons (pvN 7 nm_law_seekers) (pa_cons (pe_ct (call_listG rfl) gm_law_list T.n_list bt_list (pa_cons (pvN 8 nm_law_groups) pa_nil)) pa_nil))))) pa_nil)))
          (pss_cons (ps_if (PW.pt (pw_or (pt_not (pt_val (pe_cb call_isiG gm_law_isinstance T.n_isinstance bt_isinstance (pa_cons (pvN 10 nm_law_text) (pa_cons (pe_gb (v := .ty "str") gm_law_str T.n_str bt_str rfl) pa_nil))))) (pw_or1 (pt_cmpR (op_neG hu) (pvN 10 nm_law_text) (pe_bm PySem.F.plainAttrs_str PySem.F.slot_str_join PySem.F.type_str_join mt_join pe_str (pa_cons (pvN 9 nm_law_rows) pa_nil)) (nomark _))))) (pss_one (ps_ret pe_bl)) pss_nil)
          (pss_cons (ps_expr (pe_bm PySem.F.plainAttrs_list PySem.F.slot_list_append PySem.F.type_list_append mt_append (pvC 2 nm_law_plans) (pa_cons (pe_fd D_read_plan gm_law_read_plan (hr.mono (by decide)) pass_no (pa_cons (pvN 10 nm_law_text) pa_nil)) pa_nil)))
          (pss_cons (ps_expr (pe_bm PySem.F.plainAttrs_list PySem.F.slot_list_append PySem.F.type_list_append mt_append (pvC 2 nm_law_plans) (pa_cons (pe_fd D_read_plan gm_law_read_plan (hr.mono (by decide)) pass_no (pa_cons (pe_bm PySem.F.plainAttrs_str PySem.F.slot_str_join PySem.F.type_str_join mt_join pe_str (pa_cons (pe_fd D_law_dealt gm_law__law_dealt (hr.mono (by decide)) pass0 (pa_cons (pvN 9 nm_law_rows) (pa_cons (pe_fd D_law_draws gm_law__law_draws (hr.mono (by decide)) pass0 (pa_cons (pvN 0 nm_law_script) (pa_cons (pe_op op_addG (pe_op op_mulG pe_int (pvN 3 nm_law_k)) pe_int) (pa_cons pe_int (pa_cons pe_int pa_nil))))) pa_nil))) pa_nil)) pa_nil)) pa_nil)))
          (pss_one (ps_nm 1 nd nm_law_due (pe_op op_addG (pvN 1 nm_law_due) (pe_op op_mulG (pe_lst (pa_cons (pe_tup (pa_cons (pvN 5 nm_law_long) (pa_cons (pe_ct call_tuple_of gm_law_tuple T.n_tuple bt_tuple (pa_cons (pe_cb call_sortedS gm_law_sorted T.n_sorted bt_sorted (pa_cons (pvN 6 nm_law_lines) pa_nil)) pa_nil)) (pa_cons (pvN 7 nm_law_seekers) (pa_cons (pe_ct call_tuple_of gm_law_tuple T.n_tuple bt_tuple (pa_cons (pe_cb call_sortedP gm_law_sorted T.n_sorted bt_sorted (pa_cons (pvN 8 nm_law_groups) pa_nil)) pa_nil)) pa_nil))))) pa_nil)) pe_int))))))))))))
        (pss_cons (ps_if (pt_cmpR (op_neG hu) (pe_comp rfl cs_law_2 (pi_list (pvC 2 nm_law_plans)) (fun cl C fp pins s₂ H₂ => (pg_nm 0 cs_law_2.nd nmc_law_2_plan.comp)) (fun cl C fp pins s₂ H₂ => pts_nil) (fun cl C fp pins s₂ H₂ => (pe_fd D_law_parts gmc_law_2__law_parts.comp (hr.mono (by decide)) pass0 (pa_cons (pvN 0 nmc_law_2_plan.comp) pa_nil)))) (pvN 1 nm_law_due) (nomark _)) (pss_one (ps_ret pe_bl)) pss_nil)
        (pss_one (ps_ret (pe_cmpR (op_eqG hu) (pe_comp rfl cs_law_0 (pi_list (pvC 2 nm_law_plans)) (fun cl C fp pins s₂ H₂ => (pg_nm 0 cs_law_0.nd nmc_law_0_plan.comp)) (fun cl C fp pins s₂ H₂ => pts_nil) (fun cl C fp pins s₂ H₂ => (pe_fd D_plan_text gmc_law_0_plan_text.comp (hr.mono (by decide)) pass0 (pa_cons (pvN 0 nmc_law_0_plan.comp) pa_nil)))) (pe_comp rfl cs_law_1 (pi_r1 gm_law_range T.n_range (pa_cons pe_int pa_nil)) (fun cl C fp pins s₂ H₂ => (pg_nm 0 cs_law_1.nd nmc_law_1_k.comp)) (fun cl C fp pins s₂ H₂ => pts_nil) (fun cl C fp pins s₂ H₂ => (pe_fd D_plan_text gmc_law_1_plan_text.comp (hr.mono (by decide)) pass0 (pa_cons (pe_ix (ix_seqB K rfl) (pvF 1 nmc_law_1_plans.comp) (pe_op op_mulG (pe_op op_fdiv (pvN 0 nmc_law_1_k.comp) pe_int) pe_int) (fun _ _ => rfl)) pa_nil)))) (nomark _)))))))), ?_⟩
    have st0 : start ["script", "due", "plans", "k", "parts", "long", "lines", "seekers", "groups", "rows", "text"] [V.ref ps0] = [some (.ref ps0), none, none, none, none, none, none, none, none, none, none] := rfl
    simp only [st0, List.set_cons_succ, List.set_cons_zero]
    walk_at "st"
    refine ⟨(by show 0 ≤ sizeLine; decide), fun du0 ndu => ?_⟩
    have t1 := (Same.refl H).upd (o := .lst []) ndu
    have hdu : (upd H du0 (.lst [])) du0 = some (.lst (([] : List Addr).map V.ref)) := upd_same
    generalize upd H du0 (.lst []) = H1 at t1 hdu ⊢
    walk_at "st"
    refine ⟨(by show 0 ≤ sizeLine; decide), fun pl npl => ?_⟩
    have t2 := t1.upd (o := .lst []) npl
    have hpl : (upd H1 pl (.lst [])) pl = some (.lst (([] : List Addr).map V.ref)) := upd_same
    have hdu2 := ((Same.refl H1).upd (o := .lst []) npl) _ _ hdu
    have fpl : H pl = none := t1.free npl
    generalize upd H1 pl (.lst []) = H2 at t2 hpl hdu2 ⊢
    have lp0 : Lp K a.Plan H H2 pl du0 [] [] [] := ⟨t2, fpl, ne_of_none hdu npl, hpl, hdu2, rfl, rfl, fun i q c h => by simp at h, fun i q c h => by simp at h⟩
    clear hdu hdu2 hpl t1 t2
    walk_at "st"
    refine ⟨by decide, by decide, for_range (n := 2) (fun k σ H' => ∃ x3 x4 x5 x6 x7 x8 x9 x10 du ps ds cs, σ = [some (.ref ps0), some (.ref du), some (.ref pl), x3, x4, x5, x6, x7, x8, x9, x10] ∧ Lp K a.Plan H H' pl du ps ds cs ∧ cs.length = k) ⟨none, none, none, none, none, none, none, none, _, _, _, _, rfl, lp0, rfl⟩ ?_ ?_⟩
    · rintro k σ H' hk ⟨x3, x4, x5, x6, x7, x8, x9, x10, du, ps, ds, cs, rfl, lp, ck⟩
      clear lp0
      simp only [Int.zero_add]
      walk_at "st"
      refine ⟨ps0, ns, 3 * (k : Int), rfl, lp.s.seq hS, hn, by omega, by omega, fun H1' t long l seekers g zs ts s1 ht hl hg lay good ft fl fg nlg fts => ?_⟩
      have gn := good_num good
      obtain ⟨n1, n2, zl, tl, zo, to, tnd⟩ := gn
      walk_at "st"
      refine ⟨t, _, rfl, .of ht, rfl, ?_⟩
      simp only [List.set_cons_succ, List.set_cons_zero]
      walk_at "st"
      refine ⟨t, long, l, seekers, g, zs, ts, rfl, ht, hl, hg, lay, n1, n2, zl, tl, zo, to, tnd, fun H2' r zs' ts' s2 nr hrw pm so pt st => ?_⟩
      walk_at "st"
      refine Or.inl ⟨l, _, rfl, .inl (.of (s2 _ _ hl)), fun l3 nl3 => ?_⟩
      have s3 := s2.upd (o := .lst (zs.map V.str)) nl3
      have h3 : (upd H2' l3 (.lst (zs.map V.str))) l3 = some (.lst (zs.map V.str)) := upd_same
      have hrw3 := ((Same.refl H2').upd (o := .lst (zs.map V.str)) nl3) _ _ hrw
      generalize upd H2' l3 (.lst (zs.map V.str)) = H3 at s3 h3 hrw3 ⊢
      walk_at "st"
      refine Or.inl ⟨g, _, rfl, .inl (.of (s3 _ _ hg)), fun g4 ng4 => ?_⟩
      have s4 := s3.upd (o := .lst (ts.map prV)) ng4
      have h4 : (upd H3 g4 (.lst (ts.map prV))) g4 = some (.lst (ts.map prV)) := upd_same
      have h34 := ((Same.refl H3).upd (o := .lst (ts.map prV)) ng4) _ _ h3
      have hrw4 := ((Same.refl H3).upd (o := .lst (ts.map prV)) ng4) _ _ hrw3
      generalize upd H3 g4 (.lst (ts.map prV)) = H4 at s4 h4 h34 hrw4 ⊢
      clear hrw3 h3 s3 nl3 ng4 hrw
      walk_at "st"
      intro p dx nx ndx ndd
      have s5 : Same H4 (upd (upd H4 dx (.own p)) p (.ins a.Plan dx [])) := ((Same.refl H4).upd ndx).upd (by rw [upd_ne ndd.symm]; exact nx)
      have okl : ∀ z ∈ zs, Ok z := fun z m => ⟨dig_asc (zo z m).dig, (zo z m).hi⟩
      have okg : ∀ t ∈ ts, Ok t.2.1 := fun t m => ⟨dig_asc (to t m).1.dig, (to t m).1.hi⟩
      refine ⟨p, long, l3, seekers, g4, a.Plan, dx, zs, ts, rfl, upd_same, pc, ⟨s5 _ _ h34, s5 _ _ h4, (lay.same s4).same s5, okl, okg, by omega, by omega⟩, fun _ H5 lt gt zs1 ts1 sx hp hlt hgt pm1 so1 pt1 st1 => ⟨rfl, ?_⟩, fun ngd => absurd good ngd⟩
      have s45 : Same H4 H5 := fun b o e => sx b o (fun z => by rw [List.mem_singleton.mp z, nx] at e; cases e) (s5 _ _ e)
      have gz := good_perm good pm pt
      obtain ⟨m1, m2, zl', tl', zo', to', tnd'⟩ := good_num gz.good
      have ndg : ((ts'.map (·.2)).map (·.1)).Nodup := gz.2.2.2.2
      have ez : zs1 = zs' := sorted_one (pm1.trans pm.symm) so1 so
      have eg : ts1.map (·.2) = ts'.map (·.2) := grp_one ((pt1.trans pt.symm).map _) ndg (List.pairwise_map.mpr st1) (List.pairwise_map.mpr st)
      have sg : (ts'.map (·.2)).Pairwise (fun a b => leS a.1 b.1) := List.pairwise_map.mpr st
      have pa : PlanAt K H5 a.Plan p long seekers zs' (ts'.map (·.2)) := by
        refine ⟨⟨dx, lt, gt, ts1, hp, by rw [← ez]; exact hlt, hgt, fun t m => s45 _ _ (s4 _ _ (lay t (pt1.mem_iff.mp m))), eg⟩, pc, n1, n2, ⟨zl', zo'⟩, ⟨by rw [List.length_map]; exact tl', fun x m => ?_⟩⟩
        obtain ⟨t, mt, rfl⟩ := List.mem_map.mp m
        exact to' t mt
      have rok := pa.rows
      have rlen : (rowsOf long seekers zs' (ts'.map (·.2))).length ≤ 110 := by
        simp only [rowsOf, List.length_cons, List.length_append, List.length_map]
        omega
      obtain ⟨f1, f2, f3, f4⟩ := rows_facts long seekers zs' (ts'.map (·.2))
      have c0 : CtOk (long, seekers, zs', ts'.map (·.2)) := pa.ctok (c := (long, seekers, zs', ts'.map (·.2)))
      have s15 := s4.trans s45
      have hrw5 := s45 _ _ hrw4
      clear s5 okl okg sx hp hlt hgt pm1 so1 pt1 st1 h4 h34 hrw4 s45 ez eg
      simp only [List.set_cons_succ, List.set_cons_zero]
      walk_at "st"
      refine ⟨p, long, seekers, zs', ts'.map (·.2), rfl, pa, fun H6 s6 => ?_⟩
      have s16 := s15.trans s6
      have hrw6 := s6 _ _ hrw5
      clear pa hrw5 s15 s6
      generalize hR : rowsOf long seekers zs' (ts'.map (·.2)) = R at rok rlen f1 f2 f3 f4 hrw6 ⊢
      have enl : Str.ofString "\n" = nlS := by decide +kernel
      have sl := sum_len rok
      walk_at "st"
      refine Or.inl ⟨.str _, .ty "str", _, _, true, rfl, .of (.str _), rfl, rfl, ?_⟩
      walk_at "st"
      refine ⟨_, r, _, rfl, rfl, .of hrw6, (by rw [List.length_map]; omega), (by decide +kernel), ?_⟩
      rw [enl]
      walk_at "st"
      rw [decide_eq_true rfl]
      refine iteF ?_
      have k0 : Kp H' H6 := Same.kp (s1.trans s16)
      have sH6 := lp.s.trans (s1.trans s16)
      have hpl6 := (s1.trans s16) _ _ lp.pl
      have hdu6 := (s1.trans s16) _ _ lp.du
      have pl60 : ps.length ≤ 4 := by rw [lp.lp, twice_len, ck]; omega
      have dl60 : ds.length ≤ 4 := by rw [lp.ld, twice_len, ck]; omega
      have nrp : r ≠ pl := fun z => by rw [z, s1 _ _ lp.pl] at nr; cases nr
      walk_at "st"
      refine ⟨.inl ⟨rfl, _, .of hpl6⟩, ?_⟩
      walk_at "st"
      refine ⟨R, long, seekers, zs', ts'.map (·.2), rfl, rok, rlen, f1, f2, f3, f4, gz, fun H7 q1 zq1 gq1 s7 fq1 pa1 pmq1 soq1 pgq1 sgq1 => ?_⟩
      have ez1 : zq1 = zs' := sorted_one pmq1 soq1 so
      have eg1 : gq1 = ts'.map (·.2) := grp_one pgq1 ndg sgq1 sg
      subst ez1 eg1
      have hpl7 := s7 _ _ hpl6
      walk_at "st"
      refine ⟨pl, _, _, rfl, rfl, hpl7, (by rw [List.length_map, sizeLine_eq]; omega), ?_⟩
      rw [show ps.map V.ref ++ [V.ref q1] = (ps ++ [q1]).map V.ref from map_snoc ..]
      have k8 : Kp H6 (upd H7 pl (.lst ((ps ++ [q1]).map V.ref))) := Kp.upd (Same.kp s7) hpl7
      have k78 : Kp H7 (upd H7 pl (.lst ((ps ++ [q1]).map V.ref))) := Kp.upd (Kp.refl H7) hpl7
      have h8 : (upd H7 pl (.lst ((ps ++ [q1]).map V.ref))) pl = some (.lst ((ps ++ [q1]).map V.ref)) := upd_same
      have sH8 : Same H (upd H7 pl (.lst ((ps ++ [q1]).map V.ref))) := (sH6.trans s7).updN lp.fp
      have o8 : ∀ {b o}, b ≠ pl → H7 b = some o → (upd H7 pl (.lst ((ps ++ [q1]).map V.ref))) b = some o := fun n e => by rw [upd_ne n]; exact e
      have hrw8 := o8 nrp (s7 _ _ hrw6)
      generalize upd H7 pl (.lst ((ps ++ [q1]).map V.ref)) = H8 at k8 k78 h8 sH8 o8 hrw8 ⊢
      walk_at "st"
      refine ⟨.inl ⟨rfl, _, .of h8⟩, ?_⟩
      walk_at "st"
      refine ⟨ps0, ns, 3 * (k : Int) + 2, _, _, rfl, sH8.seq hS, by omega, by omega, hn, by decide, by decide, by decide, by decide, fun dr drs H9 s9 ndr hdr ldr bdr => ?_⟩
      walk_at "st"
      refine ⟨r, dr, _, drs, rfl, s9 _ _ hrw8, hdr, (by rw [List.length_map]; exact rlen), ldr, bdr, fun H10 r10 zs10 s10 nr10 hr10 pm10 => ?_⟩
      obtain ⟨R', pR, eR⟩ := perm_map pm10 rfl
      subst eR
      have rok' : ∀ x ∈ R', RowOk x := fun x m => rok x (pR.mem_iff.mp m)
      have rlen' : R'.length ≤ 110 := by rw [pR.length_eq]; exact rlen
      have sl' := sum_len rok'
      have g1 : lngs R' = [long] := List.perm_singleton.mp (by rw [← f1]; exact pR.filterMap _)
      have g2 : seks R' = [seekers] := List.perm_singleton.mp (by rw [← f2]; exact pR.filterMap _)
      have g3 : (lins R').Perm zq1 := by rw [← f3]; exact pR.filterMap _
      have g4' : (grps R').Perm (ts'.map (·.2)) := by rw [← f4]; exact pR.filterMap _
      have gz2 : GoodZ long seekers (lins R') (grps R') := by
        obtain ⟨u1, ⟨⟨u2, u3⟩, u4, u5⟩, u6, u7, u8⟩ := gz
        exact ⟨u1, ⟨⟨by rw [g3.length_eq]; exact u2, by rw [g3.length_eq]; exact u3⟩, fun z m => u4 z (g3.mem_iff.mp m), g3.symm.nodup u5⟩, by rw [g4'.length_eq]; exact u6, fun x m => u7 x (g4'.mem_iff.mp m), (g4'.symm.map _).nodup u8⟩
      refine ⟨_, r10, _, rfl, rfl, .of hr10, (by rw [List.length_map]; omega), (by decide), ?_⟩
      walk_at "st"
      refine ⟨R', long, seekers, lins R', grps R', rfl, rok', rlen', g1, g2, rfl, rfl, gz2, fun H11 q2 zq2 gq2 s11 fq2 pa2 pmq2 soq2 pgq2 sgq2 => ?_⟩
      have ez2 : zq2 = zq1 := sorted_one (pmq2.trans g3) soq2 so
      have eg2 : gq2 = ts'.map (·.2) := grp_one (pgq2.trans g4') ndg sgq2 sg
      subst ez2 eg2
      have s811 := s9.trans (s10.trans s11)
      have hpl11 := s811 _ _ h8
      walk_at "st"
      refine ⟨pl, _, _, rfl, rfl, hpl11, (by rw [List.length_map, List.length_append, sizeLine_eq]; show _ + 1 < _; omega), ?_⟩
      rw [show (ps ++ [q1]).map V.ref ++ [V.ref q2] = (ps ++ [q1] ++ [q2]).map V.ref from map_snoc ..]
      have k12 : Kp H11 (upd H11 pl (.lst ((ps ++ [q1] ++ [q2]).map V.ref))) := Kp.upd (Kp.refl H11) hpl11
      have h12 : (upd H11 pl (.lst ((ps ++ [q1] ++ [q2]).map V.ref))) pl = some (.lst ((ps ++ [q1] ++ [q2]).map V.ref)) := upd_same
      have sH12 : Same H (upd H11 pl (.lst ((ps ++ [q1] ++ [q2]).map V.ref))) := (sH8.trans s811).updN lp.fp
      have o12 : ∀ {b o}, b ≠ pl → H11 b = some o → (upd H11 pl (.lst ((ps ++ [q1] ++ [q2]).map V.ref))) b = some o := fun n e => by rw [upd_ne n]; exact e
      generalize upd H11 pl (.lst ((ps ++ [q1] ++ [q2]).map V.ref)) = H12 at k12 h12 sH12 o12 ⊢
      have kk := k0.trans (k8.trans ((Same.kp s811).trans k12))
      have pa1' := PlanAt.kp (c := (long, seekers, zq2, ts'.map (·.2))) pa1 (k78.trans ((Same.kp s811).trans k12))
      have pa2' := PlanAt.kp (c := (long, seekers, zq2, ts'.map (·.2))) pa2 k12
      have npl : ∀ {b xs}, H' b = some (.lst xs) → b ≠ pl → H12 b = some (.lst xs) := fun e n => o12 n (s811 _ _ (o8 n (s7 _ _ ((s1.trans s16) _ _ e))))
      have nlp : l ≠ pl := fun z => by rw [z, lp.pl] at fl; cases fl
      have ngp : g ≠ pl := fun z => by rw [z, lp.pl] at fg; cases fg
      have hl12 : H12 l = some (.lst (zs.map V.str)) := o12 nlp (s811 _ _ (o8 nlp (s7 _ _ (s16 _ _ hl))))
      have hg12 : H12 g = some (.lst (ts.map prV)) := o12 ngp (s811 _ _ (o8 ngp (s7 _ _ (s16 _ _ hg))))
      have lay12 : Lay H12 ts := fun x m => ((Same.kp s16).trans (k8.trans ((Same.kp s811).trans k12))) _ _ (fun xs z => by cases z) (lay x m)
      clear hl hg lay k0 k8 k78 o8 o12 s811 s9 s10 s11 s7 s16 pa1 pa2 h8 hdr
      have hdu12 := npl lp.du lp.ne
      walk_at "st"
      refine ⟨l, zs, rfl, .of hl12, by omega, fun l13 zs13 n13 pm13 so13 => ?_⟩
      have ez13 : zs13 = zq2 := sorted_one (pm13.trans pm.symm) so13 so
      subst ez13
      have s13 := (Same.refl H12).upd (o := .lst (zs13.map V.str)) n13
      have h13 : (upd H12 l13 (.lst (zs13.map V.str))) l13 = some (.lst (zs13.map V.str)) := upd_same
      generalize upd H12 l13 (.lst (zs13.map V.str)) = H13 at s13 h13 ⊢
      walk_at "st"
      refine ⟨l13, _, rfl, .inl ⟨.of h13, fun t14 n14 => ?_⟩⟩
      have s14 := s13.upd (o := .tup (zs13.map V.str)) n14
      have h14 : (upd H13 t14 (.tup (zs13.map V.str))) t14 = some (.tup (zs13.map V.str)) := upd_same
      generalize upd H13 t14 (.tup (zs13.map V.str)) = H14 at s14 h14 ⊢
      clear h13 s13 n13 n14
      walk_at "st"
      refine ⟨g, ts, rfl, .of (s14 _ _ hg12), lay12.same s14, tnd, by omega, fun l15 ts15 n15 pt15 st15 => ?_⟩
      have eg15 : ts15.map (·.2) = ts'.map (·.2) := grp_one ((pt15.trans pt.symm).map _) ndg (List.pairwise_map.mpr st15) sg
      have s15 := s14.upd (o := .lst (ts15.map prV)) n15
      have h15 : (upd H14 l15 (.lst (ts15.map prV))) l15 = some (.lst (ts15.map prV)) := upd_same
      have h14' := ((Same.refl H14).upd (o := .lst (ts15.map prV)) n15) _ _ h14
      generalize upd H14 l15 (.lst (ts15.map prV)) = H15 at s15 h15 h14' ⊢
      walk_at "st"
      refine ⟨l15, _, rfl, .inl ⟨.of h15, fun t16 n16 => ?_⟩⟩
      have s16 := s15.upd (o := .tup (ts15.map prV)) n16
      have h16 : (upd H15 t16 (.tup (ts15.map prV))) t16 = some (.tup (ts15.map prV)) := upd_same
      have h146 := ((Same.refl H15).upd (o := .tup (ts15.map prV)) n16) _ _ h14'
      generalize upd H15 t16 (.tup (ts15.map prV)) = H16 at s16 h16 h146 ⊢
      clear h15 h14 h14' s15 s14 n15 n16
      walk_at "st"
      refine ⟨(by show 4 ≤ sizeLine; decide), fun t17 n17 => ?_⟩
      have t1617 := (Same.refl H16).upd (o := .tup [.int long, .ref t14, .int seekers, .ref t16]) n17
      have h17 : (upd H16 t17 (.tup [.int long, .ref t14, .int seekers, .ref t16])) t17 = some (.tup [.int long, .ref t14, .int seekers, .ref t16]) := upd_same
      generalize upd H16 t17 (.tup [.int long, .ref t14, .int seekers, .ref t16]) = H17 at t1617 h17 ⊢
      have due17 : DueAt H17 t17 (long, seekers, zs13, ts'.map (·.2)) := ⟨t14, t16, ts15, h17, t1617 _ _ h146, t1617 _ _ h16, fun x m => (s16.trans t1617) _ _ (lay12 x (pt15.mem_iff.mp m)), eg15⟩
      have s17 := s16.trans t1617
      clear t1617 h17 h146 h16 s16 n17
      walk_at "st"
      refine ⟨(by show 1 ≤ sizeLine; decide), fun l18 n18 => ?_⟩
      walk_at "st"
      refine Or.inr (Or.inr ⟨l18, 2, [.ref t17], rfl, rfl, upd_same, by omega, by omega, (by rw [List.length_singleton, sizeLine_eq]; decide), fun l19 n19 => ?_⟩)
      rw [rep_flat]
      have s19 : Same H17 (upd (upd H17 l18 (.lst [.ref t17])) l19 (.lst (List.replicate (2 : Int).toNat (.ref t17)))) := ((Same.refl H17).upd n18).upd n19
      have h19 : (upd (upd H17 l18 (.lst [.ref t17])) l19 (.lst (List.replicate (2 : Int).toNat (.ref t17)))) l19 = some (.lst ([t17, t17].map V.ref)) := upd_same
      generalize upd (upd H17 l18 (.lst [.ref t17])) l19 (.lst (List.replicate (2 : Int).toNat (.ref t17))) = H19 at s19 h19 ⊢
      have s1219 := s17.trans s19
      refine Or.inr (Or.inr ⟨du, l19, _, _, rfl, rfl, s1219 _ _ hdu12, h19, (by rw [List.length_map, sizeLine_eq]; show _ + 2 ≤ _; omega), fun l20 n20 => ?_⟩)
      rw [← List.map_append]
      have s20 := s1219.upd (o := .lst ((ds ++ [t17, t17]).map V.ref)) n20
      have h20 : (upd H19 l20 (.lst ((ds ++ [t17, t17]).map V.ref))) l20 = some (.lst ((ds ++ [t17, t17]).map V.ref)) := upd_same
      have ne20 : l20 ≠ pl := (ne_of_none (s1219 _ _ h12) n20).symm
      have d20 := due17.kp ((Same.kp s19).trans (Same.kp ((Same.refl H19).upd (o := .lst ((ds ++ [t17, t17]).map V.ref)) n20)))
      generalize upd H19 l20 (.lst ((ds ++ [t17, t17]).map V.ref)) = H20 at s20 h20 d20 ⊢
      have kf := kk.trans (Same.kp s20)
      have tw := twice_snoc (long, seekers, zs13, ts'.map (·.2)) cs
      have qa1 := PlanAt.kp pa1' (Same.kp s20)
      have qa2 := PlanAt.kp pa2' (Same.kp s20)
      refine ⟨_, _, _, _, _, _, _, _, l20, ps ++ [q1] ++ [q2], ds ++ [t17, t17], cs ++ [(long, seekers, zs13, ts'.map (·.2))], rfl, ⟨sH12.trans s20, lp.fp, ne20, s20 _ _ h12, h20, ?_, ?_, ?_, ?_⟩, by rw [List.length_append, ck]; rfl⟩
      · rw [tw, List.length_append, List.length_append, List.length_append, lp.lp]; rfl
      · rw [tw, List.length_append, List.length_append, lp.ld]; rfl
      · intro i x c h1 h2
        rw [tw] at h2
        rw [List.append_assoc] at h1
        by_cases hi : i < ps.length
        · rw [List.getElem?_append_left hi] at h1
          rw [List.getElem?_append_left (by rw [← lp.lp]; exact hi)] at h2
          exact PlanAt.kp (lp.ap i x c h1 h2) kf
        · rw [List.getElem?_append_right (by omega)] at h1
          rw [List.getElem?_append_right (by rw [← lp.lp]; omega), ← lp.lp] at h2
          match i - ps.length, h1, h2 with
          | 0, h1, h2 => cases h1; cases h2; exact qa1
          | 1, h1, h2 => cases h1; cases h2; exact qa2
          | n + 2, h1, h2 => simp at h1
      · intro i x c h1 h2
        rw [tw] at h2
        by_cases hi : i < ds.length
        · rw [List.getElem?_append_left hi] at h1
          rw [List.getElem?_append_left (by rw [← lp.ld]; exact hi)] at h2
          exact (lp.ad i x c h1 h2).kp kf
        · rw [List.getElem?_append_right (by omega)] at h1
          rw [List.getElem?_append_right (by rw [← lp.ld]; omega), ← lp.ld] at h2
          match i - ds.length, h1, h2 with
          | 0, h1, h2 => cases h1; cases h2; exact d20
          | 1, h1, h2 => cases h1; cases h2; exact d20
          | n + 2, h1, h2 => simp at h1
    · rintro σ H' ⟨x3, x4, x5, x6, x7, x8, x9, x10, du, ps, ds, cs, rfl, lp, ck⟩
      have tl4 : (twice cs).length = 4 := by rw [twice_len, ck]
      have pl4 : ps.length = 4 := by rw [lp.lp, tl4]
      have cok : ∀ c ∈ twice cs, CtOk c ∧ Asc (ctT c) := fun c m => by
        obtain ⟨i, hi, ei⟩ := List.getElem_of_mem m
        have hc : (twice cs)[i]? = some c := by rw [List.getElem?_eq_getElem hi, ei]
        have pa := lp.ap i ps[i] c (List.getElem?_eq_getElem (by omega)) hc
        exact ⟨pa.ctok, PlanAt.asc pa⟩
      walk_at "st"
      refine ⟨⟨_, .of lp.pl⟩, fun D nD => ?_⟩
      refine comp_list (K := K) (a := pl) (xs := ps.map V.ref) (fun i σ H2 => ∃ x ts, σ = [x] ∧ Same H' H2 ∧ H2 D = some (.lst (ts.map V.ref)) ∧ ts.length = i ∧ ∀ (j : Nat) (t : Addr) (c : Ct), ts[j]? = some t → (twice cs)[j]? = some c → DueAt H2 t c) ⟨none, [], rfl, (Same.refl H').upd nD, upd_same, rfl, fun j t c h => by simp at h⟩ (fun i σ H2 _ ⟨_, _, _, sm, _⟩ => .of (sm _ _ lp.pl)) ?_ ?_
      · rintro i x σ H2 hi ⟨x0, ts, rfl, sm, hD, tl, ht⟩
        rw [List.getElem?_map] at hi
        cases hk : ps[i]? with
        | none => rw [hk] at hi; cases hi
        | some qq =>
          rw [hk] at hi; cases hi
          have il : i < ps.length := (List.getElem?_eq_some_iff.mp hk).1
          have hc : (twice cs)[i]? = some (twice cs)[i] := List.getElem?_eq_getElem (by omega)
          obtain ⟨dx, lt, gt, tsx, h1, h2, h3, h4, h5⟩ := (lp.ap i qq _ hk hc).ins
          walk_at "st"
          refine ⟨qq, dx, _, lt, _, gt, rfl, sm _ _ h1, pc, fun t nt => ?_⟩
          have tD : D ≠ t := ne_of_none hD nt
          have hD' : (upd H2 t (.tup [.int (twice cs)[i].1, .ref lt, .int (twice cs)[i].2.1, .ref gt])) D = some (.lst (ts.map V.ref)) := by rw [upd_ne tD]; exact hD
          have k2 : Kp H2 (upd (upd H2 t (.tup [.int (twice cs)[i].1, .ref lt, .int (twice cs)[i].2.1, .ref gt])) D (.lst (ts.map V.ref ++ [.ref t]))) := Kp.upd (Same.kp ((Same.refl H2).upd nt)) hD'
          refine ⟨_, hD', (by rw [List.length_map, sizeLine_eq]; omega), _, ts ++ [t], rfl, (sm.upd nt).updN nD, (by rw [upd_same, List.map_append]; rfl), (by rw [List.length_append, tl]; rfl), fun j u c h1' h2' => ?_⟩
          by_cases hj : j < ts.length
          · rw [List.getElem?_append_left hj] at h1'
            exact (ht j u c h1' h2').kp k2
          · have ej : j = i := by
              have := (List.getElem?_eq_some_iff.mp h1').1
              rw [List.length_append, List.length_singleton] at this
              omega
            subst ej
            rw [List.getElem?_append_right (by omega), tl, Nat.sub_self] at h1'
            cases h1'
            rw [hc] at h2'
            cases h2'
            exact ⟨lt, gt, tsx, by rw [upd_ne tD.symm, upd_same], k2 _ _ (fun xs z => by cases z) (sm _ _ h2), k2 _ _ (fun xs z => by cases z) (sm _ _ h3), fun x m => k2 _ _ (fun xs z => by cases z) (sm _ _ (h4 x m)), h5⟩
      · rintro σ2 H2 ⟨x0, ts, rfl, sm, hD, tl, ht⟩
        rw [List.length_map] at tl
        have i1 := due_all (K := K) (H := H2) (by rw [tl, lp.lp]) ht
        have i2 := due_all (K := K) (H := H2) lp.ld fun i t c h1 h2 => (lp.ad i t c h1 h2).kp (Same.kp sm)
        obtain ⟨l1, l2⟩ := plans_lay fun c m => (cok c m).1
        have cl : PyData.canLay0 (.list ((twice cs).map planD)) = true := l1
        walk_at "st"
        refine Or.inr ⟨.list ((twice cs).map planD), .list ((twice cs).map planD), .lst (.of hD) i1, .lst (.of (sm _ _ lp.du)) i2, cl, cl, (by rw [dep_lst]; omega), ?_⟩
        rw [SeqAt.eqv_refl _ cl, nn]
        walk_at "st"
        refine ⟨⟨_, .of (sm _ _ lp.pl)⟩, fun D2 nD2 => ?_⟩
        refine comp_list (K := K) (a := pl) (xs := ps.map V.ref) (fun i σ H3 => ∃ x, σ = [x] ∧ Same H2 H3 ∧ H3 D2 = some (.lst ((((twice cs).take i).map ctT).map V.str))) ⟨none, rfl, (Same.refl H2).upd nD2, upd_same⟩ (fun i σ H3 _ ⟨_, _, s3, _⟩ => .of (s3 _ _ (sm _ _ lp.pl))) ?_ ?_
        · rintro i x σ H3 hi ⟨x0, rfl, s3, hL⟩
          rw [List.getElem?_map] at hi
          cases hk : ps[i]? with
          | none => rw [hk] at hi; cases hi
          | some qq =>
            rw [hk] at hi; cases hi
            have il : i < ps.length := (List.getElem?_eq_some_iff.mp hk).1
            have hc : (twice cs)[i]? = some (twice cs)[i] := List.getElem?_eq_getElem (by omega)
            have pa := PlanAt.kp (lp.ap i qq _ hk hc) (Same.kp (sm.trans s3))
            walk_at "st"
            refine ⟨qq, _, _, _, _, rfl, pa, fun H4 s4 => ?_⟩
            refine ⟨_, s4 _ _ hL, (by rw [List.length_map, List.length_map, List.length_take, sizeLine_eq]; omega), _, rfl, (s3.trans s4).updN nD2, ?_⟩
            rw [upd_same, List.take_add_one, hc, List.map_append, List.map_append]; rfl
        · rintro σ3 H3 ⟨x0, rfl, s3, hL⟩
          rw [List.length_map, pl4, ← tl4, List.take_length] at hL
          walk_at "st"
          refine ⟨by decide, by decide, fun D3 nD3 => ?_⟩
          refine comp_range (lo := 0) (n := 4) (fun j σ H4 => ∃ x, σ = [x, some (.ref pl)] ∧ Same H3 H4 ∧ H4 D3 = some (.lst ((((twice cs).take j).map ctT).map V.str))) ⟨none, rfl, (Same.refl H3).upd nD3, upd_same⟩ ?_ ?_
          · rintro j σ H4 hj ⟨x, rfl, s4, hL4⟩
            simp only [Int.zero_add]
            have jl : j / 2 * 2 < ps.length := by omega
            have hk : ps[j / 2 * 2]? = some ps[j / 2 * 2] := List.getElem?_eq_getElem jl
            have hc0 : (twice cs)[j]? = some (twice cs)[j] := List.getElem?_eq_getElem (by omega)
            have hc : (twice cs)[j / 2 * 2]? = some (twice cs)[j] := by rw [twice_at]; exact hc0
            have pa := PlanAt.kp (lp.ap _ _ _ hk hc) (Same.kp (sm.trans (s3.trans s4)))
            have ej : atI (ps.map V.ref) ((j : Int) / 2 * 2) = some (.ref ps[j / 2 * 2]) := by
              have : (j : Int) / 2 * 2 = ((j / 2 * 2 : Nat) : Int) := by omega
              rw [this]
              exact atI_nat (by rw [List.getElem?_map, hk]; rfl)
            walk_at "st"
            refine Or.inl ⟨pl, _, _, _, rfl, rfl, .of (s4 _ _ (s3 _ _ (sm _ _ lp.pl))), ej, ?_⟩
            walk_at "st"
            refine ⟨_, _, _, _, _, rfl, pa, fun H5 s5 => ?_⟩
            refine ⟨_, s5 _ _ hL4, (by rw [List.length_map, List.length_map, List.length_take, sizeLine_eq]; omega), _, rfl, (s4.trans s5).updN nD3, ?_⟩
            rw [upd_same, List.take_add_one, hc0, List.map_append, List.map_append]; rfl
          · rintro σ4 H4 ⟨x, rfl, s4, hL4⟩
            rw [← tl4, List.take_length] at hL4
            obtain ⟨m1, m2⟩ := strs_lay (zs := (twice cs).map ctT) fun z m => by
              obtain ⟨c, mc, rfl⟩ := List.mem_map.mp m
              exact (cok c mc).2
            have cl2 : PyData.canLay0 (.list (((twice cs).map ctT).map PyData.str)) = true := m1
            refine Or.inr ⟨.list (((twice cs).map ctT).map PyData.str), .list (((twice cs).map ctT).map PyData.str), .lst (.of (s4 _ _ hL)) (isAll_strs _), .lst (.of hL4) (isAll_strs _), cl2, cl2, (by rw [dep_lst]; omega), ?_⟩
            rw [SeqAt.eqv_refl _ cl2]
            exact q _
end
end Lw

set_option Elab.async false
set_option linter.all false
set_option maxRecDepth 100000
namespace L2
open PySem PySem.Spec PyProof.Rows
def EntsOf (P : Params) : List DictEntry → List (Str × V) → Prop
  | [], [] => True
  | e :: r, p :: kvs => (∃ t, e.key = .str p.1 t) ∧ e.hash = PyData.keyHash P p.1 ∧ RelV p.2 e.val ∧ EntsOf P r kvs
  | _, _ => False
theorem ents_pairs {P : Program} {w : World} : ∀ {es : List DictEntry} {kvs : List (Str × V)}, EntsOf w.params es kvs → ∃ vs : List (Key × Value), KV (kvs.map fun p => (Sum.inr p.1, p.2)) vs ∧ Pairs (mixKind P w) es vs ∧ ∀ e ∈ es, ∃ k, (mixKind P w).is k e.key = true ∧ e.hash = (mixKind P w).hash k
  | [], [], _ => ⟨[], .nil, .nil, fun e m => absurd m (by simp)⟩
  | [], _ :: _, h => h.elim
  | _ :: _, [], h => h.elim
  | e :: es, p :: kvs, h => by
    obtain ⟨⟨t, e1⟩, e2, e3, e4⟩ := h
    obtain ⟨vs, r, q, m⟩ := ents_pairs (P := P) e4
    have k1 : (mixKind P w).is (.inr p.1) e.key = true := by rw [e1]; exact mixKind_str P w p.1 t
    refine ⟨(.inr p.1, e.val) :: vs, .cons ⟨rfl, e3⟩ r, .cons k1 rfl q, fun x hx => ?_⟩
    rcases List.mem_cons.mp hx with z | z
    · exact ⟨.inr p.1, by rw [z]; exact k1, by rw [z]; exact e2⟩
    · exact m x z
theorem kdict_mk {P : Program} {w : World} {K : PySem.W.Frag} {a : Addr} {es : Array DictEntry} {n : Nat} {kvs : List (Str × V)} (lo : (a == sysModules) = false) (l : K.lookup a = some ⟨.type "dict", none, .dict es n, #[]⟩) (h : EntsOf w.params es.toList kvs) (nd : (kvs.map (·.1)).Nodup) (sz : kvs.length ≤ 1000) :
    KDict P w K a (kvs.map fun p => (Sum.inr p.1, p.2)) := by
  obtain ⟨vs, r, q, m⟩ := ents_pairs (P := P) h
  refine ⟨lo, by rw [List.length_map, sizeLine_eq]; omega, _, vs, n, l, r, fun hp hg => ⟨_, es, hg, ⟨rfl, rfl, rfl⟩, rfl, fun e he => m e (Array.mem_toList_iff.mpr he), q, ?_⟩⟩
  rw [← r.keys, List.map_map]
  have : (kvs.map ((·.1) ∘ fun p : Str × V => ((Sum.inr p.1 : Key), p.2))) = (kvs.map (·.1)).map (Sum.inr : Str → Key) := by rw [List.map_map]; rfl
  rw [this]
  exact List.pairwise_map.mpr (nd.imp fun h z => h (Sum.inr.inj z))
end L2

set_option Elab.async false
set_option linter.all false
set_option maxRecDepth 100000
set_option maxHeartbeats 4000000
namespace Lw
open PySem PySem.Spec PyProof.Rows L2
theorem all_mk {l : PySem.W.OpenLaw} {w : World} {K : PySem.W.Frag} {h : Heap} {mg : Str → Option Value} {fa : Addr} (X : K.In h) (G : h.Ns mainGlobals mg) (hfa : mg "law" = some (.ref fa))
    {f_within : Addr} {od_within an_within : Option Addr} {sl_within : Array (Option Value)} {oc_within kV_within dc_within pm_within cd_within ct_within : Value}
    {f_are_figures : Addr} {od_are_figures an_are_figures : Option Addr} {sl_are_figures : Array (Option Value)} {oc_are_figures kV_are_figures dc_are_figures pm_are_figures cd_are_figures ct_are_figures : Value}
    {f_short_number : Addr} {od_short_number an_short_number : Option Addr} {sl_short_number : Array (Option Value)} {oc_short_number kV_short_number dc_short_number pm_short_number cd_short_number ct_short_number : Value}
    {f_check_counts : Addr} {od_check_counts an_check_counts : Option Addr} {sl_check_counts : Array (Option Value)} {oc_check_counts kV_check_counts dc_check_counts pm_check_counts cd_check_counts ct_check_counts : Value}
    {f_check_lines : Addr} {od_check_lines an_check_lines : Option Addr} {sl_check_lines : Array (Option Value)} {oc_check_lines kV_check_lines dc_check_lines pm_check_lines cd_check_lines ct_check_lines : Value}
    {f_check_groups : Addr} {od_check_groups an_check_groups : Option Addr} {sl_check_groups : Array (Option Value)} {oc_check_groups kV_check_groups dc_check_groups pm_check_groups cd_check_groups ct_check_groups : Value}
    {f_plan_text : Addr} {od_plan_text an_plan_text : Option Addr} {sl_plan_text : Array (Option Value)} {oc_plan_text kV_plan_text dc_plan_text pm_plan_text cd_plan_text ct_plan_text : Value}
    {f_read_plan : Addr} {od_read_plan an_read_plan : Option Addr} {sl_read_plan : Array (Option Value)} {oc_read_plan kV_read_plan dc_read_plan pm_read_plan cd_read_plan ct_read_plan : Value}
    {f_check_row : Addr} {od_check_row an_check_row : Option Addr} {sl_check_row : Array (Option Value)} {oc_check_row kV_check_row dc_check_row pm_check_row cd_check_row ct_check_row : Value}
    {f_read_row : Addr} {od_read_row an_read_row : Option Addr} {sl_read_row : Array (Option Value)} {oc_read_row kV_read_row dc_read_row pm_read_row cd_read_row ct_read_row : Value}
    {f_read_number : Addr} {od_read_number an_read_number : Option Addr} {sl_read_number : Array (Option Value)} {oc_read_number kV_read_number dc_read_number pm_read_number cd_read_number ct_read_number : Value}
    {f_law_cell : Addr} {od_law_cell an_law_cell : Option Addr} {sl_law_cell : Array (Option Value)} {oc_law_cell kV_law_cell dc_law_cell pm_law_cell cd_law_cell ct_law_cell : Value}
    {f_law_draws : Addr} {od_law_draws an_law_draws : Option Addr} {sl_law_draws : Array (Option Value)} {oc_law_draws kV_law_draws dc_law_draws pm_law_draws cd_law_draws ct_law_draws : Value}
    {f_law_number : Addr} {od_law_number an_law_number : Option Addr} {sl_law_number : Array (Option Value)} {oc_law_number kV_law_number dc_law_number pm_law_number cd_law_number ct_law_number : Value}
    {f_law_plan : Addr} {od_law_plan an_law_plan : Option Addr} {sl_law_plan : Array (Option Value)} {oc_law_plan kV_law_plan dc_law_plan pm_law_plan cd_law_plan ct_law_plan : Value}
    {f_law_plan_rows : Addr} {od_law_plan_rows an_law_plan_rows : Option Addr} {sl_law_plan_rows : Array (Option Value)} {oc_law_plan_rows kV_law_plan_rows dc_law_plan_rows pm_law_plan_rows cd_law_plan_rows ct_law_plan_rows : Value}
    {f_law_dealt : Addr} {od_law_dealt an_law_dealt : Option Addr} {sl_law_dealt : Array (Option Value)} {oc_law_dealt kV_law_dealt dc_law_dealt pm_law_dealt cd_law_dealt ct_law_dealt : Value}
    {f_law_parts : Addr} {od_law_parts an_law_parts : Option Addr} {sl_law_parts : Array (Option Value)} {oc_law_parts kV_law_parts dc_law_parts pm_law_parts cd_law_parts ct_law_parts : Value}
    {f_law : Addr} {od_law an_law : Option Addr} {sl_law : Array (Option Value)} {oc_law kV_law dc_law pm_law cd_law ct_law : Value}
    {f_M__init__ : Addr} {od_M__init__ an_M__init__ : Option Addr} {sl_M__init__ : Array (Option Value)} {oc_M__init__ kV_M__init__ dc_M__init__ pm_M__init__ cd_M__init__ ct_M__init__ : Value}
    {a_HallError a_BadPlan a_NoText a_Plan a_WORDS : Addr} {tk_SIGNS tk_LEAST_LONG tk_MOST_LONG tk_MOST_LINES tk_MOST_SEEKERS tk_MOST_GROUPS tk_MOST_SWITCHES : Tok} {esW : Array DictEntry} {nW : Nat}
    (g_HallError : PySem.W.nsIn K mainGlobals "HallError" = some (some (.ref a_HallError))) (g_BadPlan : PySem.W.nsIn K mainGlobals "BadPlan" = some (some (.ref a_BadPlan))) (g_NoText : PySem.W.nsIn K mainGlobals "NoText" = some (some (.ref a_NoText))) (g_Plan : PySem.W.nsIn K mainGlobals "Plan" = some (some (.ref a_Plan))) (g_WORDS : PySem.W.nsIn K mainGlobals "WORDS" = some (some (.ref a_WORDS)))
    (v_SIGNS : PySem.W.nsIn K mainGlobals "SIGNS" = some (some (.str "0123456789" tk_SIGNS))) (v_LEAST_LONG : PySem.W.nsIn K mainGlobals "LEAST_LONG" = some (some (.int 2 tk_LEAST_LONG))) (v_MOST_LONG : PySem.W.nsIn K mainGlobals "MOST_LONG" = some (some (.int 4 tk_MOST_LONG))) (v_MOST_LINES : PySem.W.nsIn K mainGlobals "MOST_LINES" = some (some (.int 60 tk_MOST_LINES))) (v_MOST_SEEKERS : PySem.W.nsIn K mainGlobals "MOST_SEEKERS" = some (some (.int 60 tk_MOST_SEEKERS))) (v_MOST_GROUPS : PySem.W.nsIn K mainGlobals "MOST_GROUPS" = some (some (.int 40 tk_MOST_GROUPS))) (v_MOST_SWITCHES : PySem.W.nsIn K mainGlobals "MOST_SWITCHES" = some (some (.int 10 tk_MOST_SWITCHES)))
    (a_within : PySem.W.nsIn K mainGlobals "within" = some (some (.ref f_within))) (l_within : K.lookup f_within = some ⟨oc_within, od_within, .func (PySem.W.fnOf "within" "within" (defArgs (top 2)) (defBody (top 2)) (defScope (top 2)) .none kV_within dc_within pm_within an_within cd_within ct_within), sl_within⟩) (c_within : PySem.W.codeIn K cd_within "within" = true) (k_within : PySem.W.keepIn K (.ref f_within) = true)
    (a_are_figures : PySem.W.nsIn K mainGlobals "are_figures" = some (some (.ref f_are_figures))) (l_are_figures : K.lookup f_are_figures = some ⟨oc_are_figures, od_are_figures, .func (PySem.W.fnOf "are_figures" "are_figures" (defArgs (top 3)) (defBody (top 3)) (defScope (top 3)) .none kV_are_figures dc_are_figures pm_are_figures an_are_figures cd_are_figures ct_are_figures), sl_are_figures⟩) (c_are_figures : PySem.W.codeIn K cd_are_figures "are_figures" = true) (k_are_figures : PySem.W.keepIn K (.ref f_are_figures) = true)
    (a_short_number : PySem.W.nsIn K mainGlobals "short_number" = some (some (.ref f_short_number))) (l_short_number : K.lookup f_short_number = some ⟨oc_short_number, od_short_number, .func (PySem.W.fnOf "short_number" "short_number" (defArgs (top 4)) (defBody (top 4)) (defScope (top 4)) .none kV_short_number dc_short_number pm_short_number an_short_number cd_short_number ct_short_number), sl_short_number⟩) (c_short_number : PySem.W.codeIn K cd_short_number "short_number" = true) (k_short_number : PySem.W.keepIn K (.ref f_short_number) = true)
    (a_check_counts : PySem.W.nsIn K mainGlobals "check_counts" = some (some (.ref f_check_counts))) (l_check_counts : K.lookup f_check_counts = some ⟨oc_check_counts, od_check_counts, .func (PySem.W.fnOf "check_counts" "check_counts" (defArgs (top 18)) (defBody (top 18)) (defScope (top 18)) .none kV_check_counts dc_check_counts pm_check_counts an_check_counts cd_check_counts ct_check_counts), sl_check_counts⟩) (c_check_counts : PySem.W.codeIn K cd_check_counts "check_counts" = true) (k_check_counts : PySem.W.keepIn K (.ref f_check_counts) = true)
    (a_check_lines : PySem.W.nsIn K mainGlobals "check_lines" = some (some (.ref f_check_lines))) (l_check_lines : K.lookup f_check_lines = some ⟨oc_check_lines, od_check_lines, .func (PySem.W.fnOf "check_lines" "check_lines" (defArgs (top 19)) (defBody (top 19)) (defScope (top 19)) .none kV_check_lines dc_check_lines pm_check_lines an_check_lines cd_check_lines ct_check_lines), sl_check_lines⟩) (c_check_lines : PySem.W.codeIn K cd_check_lines "check_lines" = true) (k_check_lines : PySem.W.keepIn K (.ref f_check_lines) = true)
    (a_check_groups : PySem.W.nsIn K mainGlobals "check_groups" = some (some (.ref f_check_groups))) (l_check_groups : K.lookup f_check_groups = some ⟨oc_check_groups, od_check_groups, .func (PySem.W.fnOf "check_groups" "check_groups" (defArgs (top 20)) (defBody (top 20)) (defScope (top 20)) .none kV_check_groups dc_check_groups pm_check_groups an_check_groups cd_check_groups ct_check_groups), sl_check_groups⟩) (c_check_groups : PySem.W.codeIn K cd_check_groups "check_groups" = true) (k_check_groups : PySem.W.keepIn K (.ref f_check_groups) = true)
    (a_plan_text : PySem.W.nsIn K mainGlobals "plan_text" = some (some (.ref f_plan_text))) (l_plan_text : K.lookup f_plan_text = some ⟨oc_plan_text, od_plan_text, .func (PySem.W.fnOf "plan_text" "plan_text" (defArgs (top 21)) (defBody (top 21)) (defScope (top 21)) .none kV_plan_text dc_plan_text pm_plan_text an_plan_text cd_plan_text ct_plan_text), sl_plan_text⟩) (c_plan_text : PySem.W.codeIn K cd_plan_text "plan_text" = true) (k_plan_text : PySem.W.keepIn K (.ref f_plan_text) = true)
    (a_read_plan : PySem.W.nsIn K mainGlobals "read_plan" = some (some (.ref f_read_plan))) (l_read_plan : K.lookup f_read_plan = some ⟨oc_read_plan, od_read_plan, .func (PySem.W.fnOf "read_plan" "read_plan" (defArgs (top 22)) (defBody (top 22)) (defScope (top 22)) .none kV_read_plan dc_read_plan pm_read_plan an_read_plan cd_read_plan ct_read_plan), sl_read_plan⟩) (c_read_plan : PySem.W.codeIn K cd_read_plan "read_plan" = true) (k_read_plan : PySem.W.keepIn K (.ref f_read_plan) = true)
    (a_check_row : PySem.W.nsIn K mainGlobals "check_row" = some (some (.ref f_check_row))) (l_check_row : K.lookup f_check_row = some ⟨oc_check_row, od_check_row, .func (PySem.W.fnOf "check_row" "check_row" (defArgs (top 23)) (defBody (top 23)) (defScope (top 23)) .none kV_check_row dc_check_row pm_check_row an_check_row cd_check_row ct_check_row), sl_check_row⟩) (c_check_row : PySem.W.codeIn K cd_check_row "check_row" = true) (k_check_row : PySem.W.keepIn K (.ref f_check_row) = true)
    (a_read_row : PySem.W.nsIn K mainGlobals "read_row" = some (some (.ref f_read_row))) (l_read_row : K.lookup f_read_row = some ⟨oc_read_row, od_read_row, .func (PySem.W.fnOf "read_row" "read_row" (defArgs (top 24)) (defBody (top 24)) (defScope (top 24)) .none kV_read_row dc_read_row pm_read_row an_read_row cd_read_row ct_read_row), sl_read_row⟩) (c_read_row : PySem.W.codeIn K cd_read_row "read_row" = true) (k_read_row : PySem.W.keepIn K (.ref f_read_row) = true)
    (a_read_number : PySem.W.nsIn K mainGlobals "read_number" = some (some (.ref f_read_number))) (l_read_number : K.lookup f_read_number = some ⟨oc_read_number, od_read_number, .func (PySem.W.fnOf "read_number" "read_number" (defArgs (top 25)) (defBody (top 25)) (defScope (top 25)) .none kV_read_number dc_read_number pm_read_number an_read_number cd_read_number ct_read_number), sl_read_number⟩) (c_read_number : PySem.W.codeIn K cd_read_number "read_number" = true) (k_read_number : PySem.W.keepIn K (.ref f_read_number) = true)
    (a_law_cell : PySem.W.nsIn K mainGlobals "_law_cell" = some (some (.ref f_law_cell))) (l_law_cell : K.lookup f_law_cell = some ⟨oc_law_cell, od_law_cell, .func (PySem.W.fnOf "_law_cell" "_law_cell" (defArgs (top 27)) (defBody (top 27)) (defScope (top 27)) .none kV_law_cell dc_law_cell pm_law_cell an_law_cell cd_law_cell ct_law_cell), sl_law_cell⟩) (c_law_cell : PySem.W.codeIn K cd_law_cell "_law_cell" = true) (k_law_cell : PySem.W.keepIn K (.ref f_law_cell) = true)
    (a_law_draws : PySem.W.nsIn K mainGlobals "_law_draws" = some (some (.ref f_law_draws))) (l_law_draws : K.lookup f_law_draws = some ⟨oc_law_draws, od_law_draws, .func (PySem.W.fnOf "_law_draws" "_law_draws" (defArgs (top 28)) (defBody (top 28)) (defScope (top 28)) .none kV_law_draws dc_law_draws pm_law_draws an_law_draws cd_law_draws ct_law_draws), sl_law_draws⟩) (c_law_draws : PySem.W.codeIn K cd_law_draws "_law_draws" = true) (k_law_draws : PySem.W.keepIn K (.ref f_law_draws) = true)
    (a_law_number : PySem.W.nsIn K mainGlobals "_law_number" = some (some (.ref f_law_number))) (l_law_number : K.lookup f_law_number = some ⟨oc_law_number, od_law_number, .func (PySem.W.fnOf "_law_number" "_law_number" (defArgs (top 29)) (defBody (top 29)) (defScope (top 29)) .none kV_law_number dc_law_number pm_law_number an_law_number cd_law_number ct_law_number), sl_law_number⟩) (c_law_number : PySem.W.codeIn K cd_law_number "_law_number" = true) (k_law_number : PySem.W.keepIn K (.ref f_law_number) = true)
    (a_law_plan : PySem.W.nsIn K mainGlobals "_law_plan" = some (some (.ref f_law_plan))) (l_law_plan : K.lookup f_law_plan = some ⟨oc_law_plan, od_law_plan, .func (PySem.W.fnOf "_law_plan" "_law_plan" (defArgs (top 30)) (defBody (top 30)) (defScope (top 30)) .none kV_law_plan dc_law_plan pm_law_plan an_law_plan cd_law_plan ct_law_plan), sl_law_plan⟩) (c_law_plan : PySem.W.codeIn K cd_law_plan "_law_plan" = true) (k_law_plan : PySem.W.keepIn K (.ref f_law_plan) = true)
    (a_law_plan_rows : PySem.W.nsIn K mainGlobals "_law_plan_rows" = some (some (.ref f_law_plan_rows))) (l_law_plan_rows : K.lookup f_law_plan_rows = some ⟨oc_law_plan_rows, od_law_plan_rows, .func (PySem.W.fnOf "_law_plan_rows" "_law_plan_rows" (defArgs (top 31)) (defBody (top 31)) (defScope (top 31)) .none kV_law_plan_rows dc_law_plan_rows pm_law_plan_rows an_law_plan_rows cd_law_plan_rows ct_law_plan_rows), sl_law_plan_rows⟩) (c_law_plan_rows : PySem.W.codeIn K cd_law_plan_rows "_law_plan_rows" = true) (k_law_plan_rows : PySem.W.keepIn K (.ref f_law_plan_rows) = true)
    (a_law_dealt : PySem.W.nsIn K mainGlobals "_law_dealt" = some (some (.ref f_law_dealt))) (l_law_dealt : K.lookup f_law_dealt = some ⟨oc_law_dealt, od_law_dealt, .func (PySem.W.fnOf "_law_dealt" "_law_dealt" (defArgs (top 32)) (defBody (top 32)) (defScope (top 32)) .none kV_law_dealt dc_law_dealt pm_law_dealt an_law_dealt cd_law_dealt ct_law_dealt), sl_law_dealt⟩) (c_law_dealt : PySem.W.codeIn K cd_law_dealt "_law_dealt" = true) (k_law_dealt : PySem.W.keepIn K (.ref f_law_dealt) = true)
    (a_law_parts : PySem.W.nsIn K mainGlobals "_law_parts" = some (some (.ref f_law_parts))) (l_law_parts : K.lookup f_law_parts = some ⟨oc_law_parts, od_law_parts, .func (PySem.W.fnOf "_law_parts" "_law_parts" (defArgs (top 33)) (defBody (top 33)) (defScope (top 33)) .none kV_law_parts dc_law_parts pm_law_parts an_law_parts cd_law_parts ct_law_parts), sl_law_parts⟩) (c_law_parts : PySem.W.codeIn K cd_law_parts "_law_parts" = true) (k_law_parts : PySem.W.keepIn K (.ref f_law_parts) = true)
    (a_law : PySem.W.nsIn K mainGlobals "law" = some (some (.ref f_law))) (l_law : K.lookup f_law = some ⟨oc_law, od_law, .func (PySem.W.fnOf "law" "law" (defArgs (top 34)) (defBody (top 34)) (defScope (top 34)) .none kV_law dc_law pm_law an_law cd_law ct_law), sl_law⟩) (c_law : PySem.W.codeIn K cd_law "law" = true) (k_law : PySem.W.keepIn K (.ref f_law) = true)
    (a_M__init__ : PySem.W.findIn K (.ref a_Plan) "__init__" = some (some (.ref f_M__init__))) (i_M__init__ : PySem.W.isFn K (.ref f_M__init__) = true) (l_M__init__ : K.lookup f_M__init__ = some ⟨oc_M__init__, od_M__init__, .func (PySem.W.fnOf "__init__" "Plan.__init__" (defArgs (inClass (top 17) 0)) (defBody (inClass (top 17) 0)) (defScope (inClass (top 17) 0)) .none kV_M__init__ dc_M__init__ pm_M__init__ an_M__init__ cd_M__init__ ct_M__init__), sl_M__init__⟩) (c_M__init__ : PySem.W.codeIn K cd_M__init__ "Plan.__init__" = true) (k_M__init__ : PySem.W.keepIn K (.ref f_M__init__) = true)
    (pg : PySem.W.plainGet K a_Plan Str.empty = true) (hd : PySem.W.hasDictIn K a_Plan = true) (po : PySem.W.plainOver K a_Plan = true) (sa : PySem.W.findIn K (.ref a_Plan) "__setattr__" = some (some (.builtin "object.__setattr__"))) (mk : PySem.W.makesIn K a_Plan = true) (kc : PySem.W.keepIn K (.ref a_Plan) = true)
    (nL : PySem.W.findIn K (.ref a_Plan) "long" = some none) (nN : PySem.W.findIn K (.ref a_Plan) "lines" = some none) (nS : PySem.W.findIn K (.ref a_Plan) "seekers" = some none) (nG : PySem.W.findIn K (.ref a_Plan) "groups" = some none)
    (xN_BadPlan : PySem.W.excIn K a_BadPlan [.type "ValueError", .type "Exception", .type "BaseException", .type "object"] "ValueError.__new__" = true)
    (xN_NoText : PySem.W.excIn K a_NoText [.type "ValueError", .type "Exception", .type "BaseException", .type "object"] "ValueError.__new__" = true)
    (lW : K.lookup a_WORDS = some ⟨.type "dict", none, .dict esW nW, #[]⟩) (oW : (a_WORDS == sysModules) = false) (vW : EntsOf w.params esW.toList [("long", .int 2), ("seekers", .int 2), ("line", .int 2), ("group", .int 3)])
    (z_len : PySem.W.nsIn K mainGlobals "len" = some none) (z_isinstance : PySem.W.nsIn K mainGlobals "isinstance" = some none) (z_bool : PySem.W.nsIn K mainGlobals "bool" = some none) (z_int : PySem.W.nsIn K mainGlobals "int" = some none) (z_range : PySem.W.nsIn K mainGlobals "range" = some none) (z_all : PySem.W.nsIn K mainGlobals "all" = some none) (z_list : PySem.W.nsIn K mainGlobals "list" = some none) (z_tuple : PySem.W.nsIn K mainGlobals "tuple" = some none) (z_sorted : PySem.W.nsIn K mainGlobals "sorted" = some none) (z_set : PySem.W.nsIn K mainGlobals "set" = some none) (z_min : PySem.W.nsIn K mainGlobals "min" = some none) (z_str : PySem.W.nsIn K mainGlobals "str" = some none) :
    ∃ fd : FuncData, (∀ (s : Shared) (v : Value), BindsTo s fd ⟨[v], []⟩ [("script", v)]) ∧ ∀ base : Heap, K.In base → base.Ns mainGlobals mg → FnOk l.prog w K mg base CX0 6 fa fd ["script"] (spLaw K) := by
  have e := hfa.symm.trans (PySem.W.mg_of X G a_law)
  cases e
  have T : TxtR l.prog w K mg ⟨a_HallError, a_BadPlan, a_NoText, a_Plan, a_WORDS⟩ :=
    ⟨⟨⟨PySem.W.mg_none_of X G z_len, PySem.W.mg_none_of X G z_isinstance, PySem.W.mg_none_of X G z_bool, PySem.W.mg_none_of X G z_int, PySem.W.mg_none_of X G z_range⟩, PySem.W.mg_none_of X G z_all, PySem.W.mg_none_of X G z_list, PySem.W.mg_none_of X G z_tuple, PySem.W.mg_none_of X G z_sorted, PySem.W.mg_none_of X G z_set, PySem.W.mg_none_of X G z_min, ⟨_, PySem.W.mg_of X G v_SIGNS⟩, ⟨_, PySem.W.mg_of X G v_LEAST_LONG⟩, ⟨_, PySem.W.mg_of X G v_MOST_LONG⟩, ⟨_, PySem.W.mg_of X G v_MOST_LINES⟩, ⟨_, PySem.W.mg_of X G v_MOST_SEEKERS⟩, ⟨_, PySem.W.mg_of X G v_MOST_GROUPS⟩, ⟨_, PySem.W.mg_of X G v_MOST_SWITCHES⟩, PySem.W.mg_of X G g_BadPlan, xN_BadPlan⟩,
      PySem.W.mg_none_of X G z_str, PySem.W.mg_of X G g_WORDS, kdict_mk oW lW vW (by decide +kernel) (by decide), PySem.W.mg_of X G g_NoText, xN_NoText⟩
  have pc : PlC K a_Plan := ⟨⟨pg, hd, po, sa⟩, nL, nN, nS, nG⟩
  have F_within := fun_mk (st := (top 2)) l_within c_within k_within
  have b_within := F_within.binds (ps := ["number", "least", "most"]) fun _ _ _ _ _ _ us hl => match us, hl with | [_, _, _], _ => rfl
  have m_within := PySem.W.mg_of X G a_within
  have F_are_figures := fun_mk (st := (top 3)) l_are_figures c_are_figures k_are_figures
  have b_are_figures := F_are_figures.binds (ps := ["text"]) fun _ _ _ _ _ _ us hl => match us, hl with | [_], _ => rfl
  have m_are_figures := PySem.W.mg_of X G a_are_figures
  have F_short_number := fun_mk (st := (top 4)) l_short_number c_short_number k_short_number
  have b_short_number := F_short_number.binds (ps := ["word"]) fun _ _ _ _ _ _ us hl => match us, hl with | [_], _ => rfl
  have m_short_number := PySem.W.mg_of X G a_short_number
  have F_check_counts := fun_mk (st := (top 18)) l_check_counts c_check_counts k_check_counts
  have b_check_counts := F_check_counts.binds (ps := ["long", "seekers"]) fun _ _ _ _ _ _ us hl => match us, hl with | [_, _], _ => rfl
  have m_check_counts := PySem.W.mg_of X G a_check_counts
  have F_check_lines := fun_mk (st := (top 19)) l_check_lines c_check_lines k_check_lines
  have b_check_lines := F_check_lines.binds (ps := ["long", "lines"]) fun _ _ _ _ _ _ us hl => match us, hl with | [_, _], _ => rfl
  have m_check_lines := PySem.W.mg_of X G a_check_lines
  have F_check_groups := fun_mk (st := (top 20)) l_check_groups c_check_groups k_check_groups
  have b_check_groups := F_check_groups.binds (ps := ["long", "groups"]) fun _ _ _ _ _ _ us hl => match us, hl with | [_, _], _ => rfl
  have m_check_groups := PySem.W.mg_of X G a_check_groups
  have F_plan_text := fun_mk (st := (top 21)) l_plan_text c_plan_text k_plan_text
  have b_plan_text := F_plan_text.binds (ps := ["plan"]) fun _ _ _ _ _ _ us hl => match us, hl with | [_], _ => rfl
  have m_plan_text := PySem.W.mg_of X G a_plan_text
  have F_read_plan := fun_mk (st := (top 22)) l_read_plan c_read_plan k_read_plan
  have b_read_plan := F_read_plan.binds (ps := ["text"]) fun _ _ _ _ _ _ us hl => match us, hl with | [_], _ => rfl
  have m_read_plan := PySem.W.mg_of X G a_read_plan
  have F_check_row := fun_mk (st := (top 23)) l_check_row c_check_row k_check_row
  have b_check_row := F_check_row.binds (ps := ["words"]) fun _ _ _ _ _ _ us hl => match us, hl with | [_], _ => rfl
  have m_check_row := PySem.W.mg_of X G a_check_row
  have F_read_row := fun_mk (st := (top 24)) l_read_row c_read_row k_read_row
  have b_read_row := F_read_row.binds (ps := ["words"]) fun _ _ _ _ _ _ us hl => match us, hl with | [_], _ => rfl
  have m_read_row := PySem.W.mg_of X G a_read_row
  have F_read_number := fun_mk (st := (top 25)) l_read_number c_read_number k_read_number
  have b_read_number := F_read_number.binds (ps := ["word"]) fun _ _ _ _ _ _ us hl => match us, hl with | [_], _ => rfl
  have m_read_number := PySem.W.mg_of X G a_read_number
  have F_law_cell := fun_mk (st := (top 27)) l_law_cell c_law_cell k_law_cell
  have b_law_cell := F_law_cell.binds (ps := ["script", "k"]) fun _ _ _ _ _ _ us hl => match us, hl with | [_, _], _ => rfl
  have m_law_cell := PySem.W.mg_of X G a_law_cell
  have F_law_draws := fun_mk (st := (top 28)) l_law_draws c_law_draws k_law_draws
  have b_law_draws := F_law_draws.binds (ps := ["script", "k", "many", "base"]) fun _ _ _ _ _ _ us hl => match us, hl with | [_, _, _, _], _ => rfl
  have m_law_draws := PySem.W.mg_of X G a_law_draws
  have F_law_number := fun_mk (st := (top 29)) l_law_number c_law_number k_law_number
  have b_law_number := F_law_number.binds (ps := ["draw", "long"]) fun _ _ _ _ _ _ us hl => match us, hl with | [_, _], _ => rfl
  have m_law_number := PySem.W.mg_of X G a_law_number
  have F_law_plan := fun_mk (st := (top 30)) l_law_plan c_law_plan k_law_plan
  have b_law_plan := F_law_plan.binds (ps := ["script", "at"]) fun _ _ _ _ _ _ us hl => match us, hl with | [_, _], _ => rfl
  have m_law_plan := PySem.W.mg_of X G a_law_plan
  have F_law_plan_rows := fun_mk (st := (top 31)) l_law_plan_rows c_law_plan_rows k_law_plan_rows
  have b_law_plan_rows := F_law_plan_rows.binds (ps := ["parts"]) fun _ _ _ _ _ _ us hl => match us, hl with | [_], _ => rfl
  have m_law_plan_rows := PySem.W.mg_of X G a_law_plan_rows
  have F_law_dealt := fun_mk (st := (top 32)) l_law_dealt c_law_dealt k_law_dealt
  have b_law_dealt := F_law_dealt.binds (ps := ["rows", "draws"]) fun _ _ _ _ _ _ us hl => match us, hl with | [_, _], _ => rfl
  have m_law_dealt := PySem.W.mg_of X G a_law_dealt
  have F_law_parts := fun_mk (st := (top 33)) l_law_parts c_law_parts k_law_parts
  have b_law_parts := F_law_parts.binds (ps := ["plan"]) fun _ _ _ _ _ _ us hl => match us, hl with | [_], _ => rfl
  have m_law_parts := PySem.W.mg_of X G a_law_parts
  have F_law := fun_mk (st := (top 34)) l_law c_law k_law
  have b_law := F_law.binds (ps := ["script"]) fun _ _ _ _ _ _ us hl => match us, hl with | [_], _ => rfl
  have m_law := PySem.W.mg_of X G a_law
  have F_M__init__ := fun_mk (st := (inClass (top 17) 0)) l_M__init__ c_M__init__ k_M__init__
  have b_M__init__ := F_M__init__.binds (ps := ["self", "long", "lines", "seekers", "groups"]) fun _ _ _ _ _ _ us hl => match us, hl with | [_, _, _, _, _], _ => rfl
  refine ⟨PySem.W.fnOf "law" "law" (defArgs (top 34)) (defBody (top 34)) (defScope (top 34)) .none kV_law dc_law pm_law an_law cd_law ct_law, fun s v => .of_eq rfl, fun base _ _ => ?_⟩
  have D_within : FnIn l.prog w K mg base CX0 1 "within" ["number", "least", "most"] spWithin := ⟨_, _, m_within, k_within, b_within, ok_within F_within T.toTxt⟩
  have D_law_cell : FnIn l.prog w K mg base CX0 1 "_law_cell" ["script", "k"] (spCell K) := ⟨_, _, m_law_cell, k_law_cell, b_law_cell, ok_cell F_law_cell T.toTxt⟩
  have D_law_draws : FnIn l.prog w K mg base CX0 2 "_law_draws" ["script", "k", "many", "base"] (spDraws K) := ⟨_, _, m_law_draws, k_law_draws, b_law_draws, ok_draws F_law_draws T.toTxt D_law_cell⟩
  have D_law_number : FnIn l.prog w K mg base CX0 1 "_law_number" ["draw", "long"] spNumber := ⟨_, _, m_law_number, k_law_number, b_law_number, ok_number F_law_number T.toTxt⟩
  have D_are_figures : FnIn l.prog w K mg base CX0 1 "are_figures" ["text"] spFigs := ⟨_, _, m_are_figures, k_are_figures, b_are_figures, ok_figs F_are_figures T.toTxtP⟩
  have D_check_counts : FnIn l.prog w K mg base (CXE l.prog w) 2 "check_counts" ["long", "seekers"] (spCounts ⟨a_HallError, a_BadPlan, a_NoText, a_Plan, a_WORDS⟩) := ⟨_, _, m_check_counts, k_check_counts, b_check_counts, ok_counts F_check_counts T.toTxtP D_within⟩
  have D_check_lines : FnIn l.prog w K mg base (CXE l.prog w) 2 "check_lines" ["long", "lines"] (spLines ⟨a_HallError, a_BadPlan, a_NoText, a_Plan, a_WORDS⟩ K) := ⟨_, _, m_check_lines, k_check_lines, b_check_lines, ok_lines F_check_lines T.toTxtP D_within D_are_figures⟩
  have D_check_groups : FnIn l.prog w K mg base (CXE l.prog w) 2 "check_groups" ["long", "groups"] (spGroups ⟨a_HallError, a_BadPlan, a_NoText, a_Plan, a_WORDS⟩) := ⟨_, _, m_check_groups, k_check_groups, b_check_groups, ok_groups F_check_groups T.toTxtP D_within D_are_figures⟩
  have MP : MkIn l.prog w K mg base (CXE l.prog w) 3 a_Plan "Plan" ["self", "long", "lines", "seekers", "groups"] (spPlanI ⟨a_HallError, a_BadPlan, a_NoText, a_Plan, a_WORDS⟩ K) := ⟨_, _, PySem.W.mg_of X G g_Plan, ⟨mk, a_M__init__, i_M__init__, kc⟩, b_M__init__, ok_planI F_M__init__ T.toTxtP D_check_counts D_check_lines D_check_groups⟩
  have D_law_plan : FnIn l.prog w K mg base CX0 3 "_law_plan" ["script", "at"] (spLawPlan K) := ⟨_, _, m_law_plan, k_law_plan, b_law_plan, ok_lawplan F_law_plan T.toTxtP D_law_draws D_law_number⟩
  have D_short_number : FnIn l.prog w K mg base CX0 2 "short_number" ["word"] spShort := ⟨_, _, m_short_number, k_short_number, b_short_number, ok_short F_short_number T D_are_figures⟩
  have D_read_number : FnIn l.prog w K mg base (CXE l.prog w) 3 "read_number" ["word"] spReadNum := ⟨_, _, m_read_number, k_read_number, b_read_number, ok_readnum F_read_number T D_short_number⟩
  have D_check_row : FnIn l.prog w K mg base (CXE l.prog w) 1 "check_row" ["words"] spCheckRow := ⟨_, _, m_check_row, k_check_row, b_check_row, ok_checkrow F_check_row T⟩
  have D_read_row : FnIn l.prog w K mg base (CXE l.prog w) 4 "read_row" ["words"] spReadRow := ⟨_, _, m_read_row, k_read_row, b_read_row, ok_readrow F_read_row T D_read_number⟩
  have D_plan_text : FnIn l.prog w K mg base CX0 1 "plan_text" ["plan"] (spPlanText K ⟨a_HallError, a_BadPlan, a_NoText, a_Plan, a_WORDS⟩) := ⟨_, _, m_plan_text, k_plan_text, b_plan_text, ok_plantext F_plan_text T⟩
  have D_read_plan : FnIn l.prog w K mg base (CXE l.prog w) 5 "read_plan" ["text"] (spReadPlan K ⟨a_HallError, a_BadPlan, a_NoText, a_Plan, a_WORDS⟩) := ⟨_, _, m_read_plan, k_read_plan, b_read_plan, ok_readplan F_read_plan T pc D_check_row D_read_row MP⟩
  have D_law_plan_rows : FnIn l.prog w K mg base CX0 1 "_law_plan_rows" ["parts"] spPlanRows := ⟨_, _, m_law_plan_rows, k_law_plan_rows, b_law_plan_rows, ok_planrows F_law_plan_rows T⟩
  have D_law_dealt : FnIn l.prog w K mg base CX0 1 "_law_dealt" ["rows", "draws"] spDealt := ⟨_, _, m_law_dealt, k_law_dealt, b_law_dealt, ok_dealt F_law_dealt T⟩
  have D_law_parts : FnIn l.prog w K mg base CX0 1 "_law_parts" ["plan"] (spParts K ⟨a_HallError, a_BadPlan, a_NoText, a_Plan, a_WORDS⟩) := ⟨_, _, m_law_parts, k_law_parts, b_law_parts, ok_parts F_law_parts T⟩
  exact ok_law F_law T pc D_law_draws D_law_plan D_law_plan_rows D_law_dealt D_law_parts D_plan_text D_read_plan MP
theorem walk {l : PySem.W.OpenLaw} {q : Program} {loose : List Str} {XP : (Str → Option Value) → Heap → Prop} {YP : World → Heap → Prop} {d : DefRec} {K : Params → PySem.W.Frag} (hn : l.most = some 63) (hdf : d.params.defaults = [])
    (hY : ∀ (w : World) (h : Heap), YP w h → (K w.params).In h)
    (F : ∀ (w : World) (mg : Str → Option Value) (fa : Addr) (h : Heap), (K w.params).In h → h.Ns mainGlobals mg → mg d.name = some (.ref fa) →
      ∃ fd : FuncData, (∀ (s : Shared) (u : Value), BindsTo s fd ⟨[u], []⟩ [("script", u)]) ∧ ∀ base : Heap, (K w.params).In base → base.Ns mainGlobals mg → FnOk l.prog w (K w.params) mg base CX0 6 fa fd ["script"] (spLaw (K w.params))) :
    PySem.W.WalkO q loose XP YP l.row.toRowW d [] (fun f vs => PySem.call f vs) :=
  L2.walk_of (n := 63) (k := 6) (x := "script") (CX := fun _ => CX0) (sp := fun w => spLaw (K w.params)) hn (by decide) hdf ⟨rfl, by decide, by decide⟩ hY F (fun _ _ a ns hl _ hS => ⟨a, ns, rfl, hS, hl, fun _ => rfl⟩) fun _ _ _ _ _ z => z
end Lw
open PySem PySem.W PyProof.Rows
set_option maxRecDepth 100000 in
set_option maxHeartbeats 0 in
theorem PySem.Challenge.cw_stephall_k03_plans_written_and_read_holds : PySem.Challenge.rw_stephall_k03_plans_written_and_read.Holds := by
  w_on; o_law; k_head; (case hw => w_witness2)
  k_fill
  refine Lw.walk (l := PySem.Challenge.rw_stephall_k03_plans_written_and_read) rfl rfl (fun w h Y => PySem.W.kIn_of Y) ?F
  case F =>
    intro w mg fa h KX G hmg
    refine' Lw.all_mk KX G hmg ?g_HallError ?g_BadPlan ?g_NoText ?g_Plan ?g_WORDS ?v_SIGNS ?v_LEAST_LONG ?v_MOST_LONG ?v_MOST_LINES ?v_MOST_SEEKERS ?v_MOST_GROUPS ?v_MOST_SWITCHES ?a_within ?l_within ?c_within ?k_within ?a_are_figures ?l_are_figures ?c_are_figures ?k_are_figures ?a_short_number ?l_short_number ?c_short_number ?k_short_number ?a_check_counts ?l_check_counts ?c_check_counts ?k_check_counts ?a_check_lines ?l_check_lines ?c_check_lines ?k_check_lines ?a_check_groups ?l_check_groups ?c_check_groups ?k_check_groups ?a_plan_text ?l_plan_text ?c_plan_text ?k_plan_text ?a_read_plan ?l_read_plan ?c_read_plan ?k_read_plan ?a_check_row ?l_check_row ?c_check_row ?k_check_row ?a_read_row ?l_read_row ?c_read_row ?k_read_row ?a_read_number ?l_read_number ?c_read_number ?k_read_number ?a_law_cell ?l_law_cell ?c_law_cell ?k_law_cell ?a_law_draws ?l_law_draws ?c_law_draws ?k_law_draws ?a_law_number ?l_law_number ?c_law_number ?k_law_number ?a_law_plan ?l_law_plan ?c_law_plan ?k_law_plan ?a_law_plan_rows ?l_law_plan_rows ?c_law_plan_rows ?k_law_plan_rows ?a_law_dealt ?l_law_dealt ?c_law_dealt ?k_law_dealt ?a_law_parts ?l_law_parts ?c_law_parts ?k_law_parts ?a_law ?l_law ?c_law ?k_law ?a_M__init__ ?i_M__init__ ?l_M__init__ ?c_M__init__ ?k_M__init__ ?pg ?hd ?po ?sa ?mk ?kc ?nL ?nN ?nS ?nG ?xN_BadPlan ?xN_NoText ?lW ?oW ?vW ?z_len ?z_isinstance ?z_bool ?z_int ?z_range ?z_all ?z_list ?z_tuple ?z_sorted ?z_set ?z_min ?z_str
    (case g_HallError => k_is)
    (case g_BadPlan => k_is)
    (case g_NoText => k_is)
    (case g_Plan => k_is)
    (case g_WORDS => k_is)
    (case v_SIGNS => k_is)
    (case v_LEAST_LONG => k_is)
    (case v_MOST_LONG => k_is)
    (case v_MOST_LINES => k_is)
    (case v_MOST_SEEKERS => k_is)
    (case v_MOST_GROUPS => k_is)
    (case v_MOST_SWITCHES => k_is)
    (case a_within => k_is)
    (case l_within => k_is)
    (case c_within => k_is)
    (case k_within => k_is)
    (case a_are_figures => k_is)
    (case l_are_figures => k_is)
    (case c_are_figures => k_is)
    (case k_are_figures => k_is)
    (case a_short_number => k_is)
    (case l_short_number => k_is)
    (case c_short_number => k_is)
    (case k_short_number => k_is)
    (case a_check_counts => k_is)
    (case l_check_counts => k_is)
    (case c_check_counts => k_is)
    (case k_check_counts => k_is)
    (case a_check_lines => k_is)
    (case l_check_lines => k_is)
    (case c_check_lines => k_is)
    (case k_check_lines => k_is)
    (case a_check_groups => k_is)
    (case l_check_groups => k_is)
    (case c_check_groups => k_is)
    (case k_check_groups => k_is)
    (case a_plan_text => k_is)
    (case l_plan_text => k_is)
    (case c_plan_text => k_is)
    (case k_plan_text => k_is)
    (case a_read_plan => k_is)
    (case l_read_plan => k_is)
    (case c_read_plan => k_is)
    (case k_read_plan => k_is)
    (case a_check_row => k_is)
    (case l_check_row => k_is)
    (case c_check_row => k_is)
    (case k_check_row => k_is)
    (case a_read_row => k_is)
    (case l_read_row => k_is)
    (case c_read_row => k_is)
    (case k_read_row => k_is)
    (case a_read_number => k_is)
    (case l_read_number => k_is)
    (case c_read_number => k_is)
    (case k_read_number => k_is)
    (case a_law_cell => k_is)
    (case l_law_cell => k_is)
    (case c_law_cell => k_is)
    (case k_law_cell => k_is)
    (case a_law_draws => k_is)
    (case l_law_draws => k_is)
    (case c_law_draws => k_is)
    (case k_law_draws => k_is)
    (case a_law_number => k_is)
    (case l_law_number => k_is)
    (case c_law_number => k_is)
    (case k_law_number => k_is)
    (case a_law_plan => k_is)
    (case l_law_plan => k_is)
    (case c_law_plan => k_is)
    (case k_law_plan => k_is)
    (case a_law_plan_rows => k_is)
    (case l_law_plan_rows => k_is)
    (case c_law_plan_rows => k_is)
    (case k_law_plan_rows => k_is)
    (case a_law_dealt => k_is)
    (case l_law_dealt => k_is)
    (case c_law_dealt => k_is)
    (case k_law_dealt => k_is)
    (case a_law_parts => k_is)
    (case l_law_parts => k_is)
    (case c_law_parts => k_is)
    (case k_law_parts => k_is)
    (case a_law => k_is)
    (case l_law => k_is)
    (case c_law => k_is)
    (case k_law => k_is)
    (case a_M__init__ => k_is)
    (case i_M__init__ => k_is)
    (case l_M__init__ => k_is)
    (case c_M__init__ => k_is)
    (case k_M__init__ => k_is)
    (case pg => k_is)
    (case hd => k_is)
    (case po => k_is)
    (case sa => k_is)
    (case mk => k_is)
    (case kc => k_is)
    (case nL => k_is)
    (case nN => k_is)
    (case nS => k_is)
    (case nG => k_is)
    (case xN_BadPlan => k_exc)
    (case xN_NoText => k_exc)
    (case lW => k_is)
    (case oW => rfl)
    (case vW => exact ⟨⟨_, rfl⟩, rfl, ⟨_, rfl⟩, ⟨_, rfl⟩, rfl, ⟨_, rfl⟩, ⟨_, rfl⟩, rfl, ⟨_, rfl⟩, ⟨_, rfl⟩, rfl, ⟨_, rfl⟩, trivial⟩)
    (case z_len => k_is)
    (case z_isinstance => k_is)
    (case z_bool => k_is)
    (case z_int => k_is)
    (case z_range => k_is)
    (case z_all => k_is)
    (case z_list => k_is)
    (case z_tuple => k_is)
    (case z_sorted => k_is)
    (case z_set => k_is)
    (case z_min => k_is)
    (case z_str => k_is)

