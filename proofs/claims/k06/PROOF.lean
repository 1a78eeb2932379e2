import PyProof.Rows.All
import Wide.All
import OpenK.AllK
import Wide.FinOn
import Lean
import PyProof.EqAt
import PyProof.EqKinds
import PyProof.TupleCall
import PyProof.NeData
import PyProof.P3In
import PyProof.SliceStr2
import PyProof.StrLaws
import PyProof.WalksEnum
import PyProof.EnumMake
import PyProof.ListRange
import PyProof.Rows.StrInSeq3
import PyProof.StrLawsRepr
import PySem.Challenge.RW_stephall_k06_whole_seekers_go_round
import PyProof.Rows.SortWalk
import PyProof.Rows.SortStr
import PyProof.ConsumeWalk
import KE.KSortTup
import PyProof.Rows.SetFrom
import PyProof.CollectWalk
import PyProof.AutoListH
import PyProof.SliceMore
set_option Elab.async false
set_option linter.all false
set_option maxRecDepth 100000
namespace L2
open PySem PySem.Spec PyProof.Rows
abbrev Key := Sum Int Str
def keyIs : Key → Value → Bool
  | .inl k, v => Value.isInt k v
  | .inr x, v => Value.isStrOf x v
def keyH (w : World) : Key → Int
  | .inl k => hashInt k
  | .inr x => hashStr w x
theorem keyIs_shape : ∀ {k : Key} {v : Value}, keyIs k v = true → (∃ i t, k = Sum.inl i ∧ v = Value.int i t) ∨ (∃ x t, k = Sum.inr x ∧ v = Value.str x t)
  | .inl i, v, h => by
    obtain ⟨t, e⟩ := Value.isInt_shape (k := i) (v := v) h
    exact .inl ⟨i, t, rfl, e⟩
  | .inr x, v, h => by
    obtain ⟨t, e⟩ := Value.isStrOf_shape (x := x) (v := v) h
    exact .inr ⟨x, t, rfl, e⟩
theorem keyIs_int (i : Int) (t : Tok) : keyIs (.inl i) (.int i t) = true := by simp [keyIs, Value.isInt]
theorem key_ll (a b : Int) : decide ((Sum.inl a : Key) = Sum.inl b) = (a == b) := by
  by_cases e : a = b
  · subst e; simp
  · have h : ¬ (Sum.inl a : Key) = Sum.inl b := fun q => e (Sum.inl.inj q)
    rw [decide_eq_false h]
    exact (beq_eq_false_iff_ne.mpr e).symm
theorem key_rr (a b : Str) : decide ((Sum.inr a : Key) = Sum.inr b) = decide (a = b) := by
  by_cases e : a = b
  · subst e; simp
  · have h : ¬ (Sum.inr a : Key) = Sum.inr b := fun q => e (Sum.inr.inj q)
    rw [decide_eq_false h, decide_eq_false e]
theorem key_lr (a : Int) (b : Str) : decide ((Sum.inl a : Key) = Sum.inr b) = false := decide_eq_false (fun q => nomatch q)
theorem key_rl (a : Str) (b : Int) : decide ((Sum.inr a : Key) = Sum.inl b) = false := decide_eq_false (fun q => nomatch q)
def mixKind (prog : Program) (w : World) : PySem.KeyKind prog w Key where
  is := keyIs
  hash := keyH w
  inj := fun v a b ha hb => by
    rcases keyIs_shape ha with ⟨i, t, rfl, rfl⟩ | ⟨x, t, rfl, rfl⟩
    · rcases keyIs_shape hb with ⟨j, u, rfl, e⟩ | ⟨y, u, rfl, e⟩
      · injection e with e1 _; rw [e1]
      · exact nomatch e
    · rcases keyIs_shape hb with ⟨j, u, rfl, e⟩ | ⟨y, u, rfl, e⟩
      · exact nomatch e
      · injection e with e1 _; rw [e1]
  byValue := fun k v h => by
    rcases keyIs_shape h with ⟨i, t, rfl, rfl⟩ | ⟨x, t, rfl, rfl⟩ <;> rfl
  pyHash := fun hv h => by
    rcases keyIs_shape hv with ⟨i, t, rfl, rfl⟩ | ⟨x, t, rfl, rfl⟩
    · exact wpAny_pyHash_int h
    · exact wpAny_pyHash_str h
  eqBool := fun hu hv h => by
    rcases keyIs_shape hu with ⟨i, t, rfl, rfl⟩ | ⟨x, t, rfl, rfl⟩
    · rcases keyIs_shape hv with ⟨j, u, rfl, rfl⟩ | ⟨y, u, rfl, rfl⟩
      · rw [key_ll] at h; exact wpAny_eqBool_int h
      · rw [key_lr] at h; exact SeqAt.EqAt.int_str i t y u _ _ _ _ h
    · rcases keyIs_shape hv with ⟨j, u, rfl, rfl⟩ | ⟨y, u, rfl, rfl⟩
      · rw [key_rl] at h; exact SeqAt.EqAt.str_int x t j u _ _ _ _ h
      · rw [key_rr] at h; exact wpAny_eqBool_str h
  «strs» := fun k x t v h => by
    rcases keyIs_shape h with ⟨i, u, rfl, e⟩ | ⟨y, u, rfl, e⟩
    · exact nomatch e
    · injection e with e1 _
      subst e1
      cases v <;> rfl
theorem mixKind_int (prog : Program) (w : World) (i : Int) (t : Tok) : (mixKind prog w).is (.inl i) (.int i t) = true := keyIs_int i t
end L2
namespace L2
open PySem PySem.Spec PyProof.Rows
inductive V where
  | non | bl (b : Bool) | int (i : Int) | str (x : Str) | byt (b : Array UInt8) | flt (b : UInt64) | ref (a : Addr) | ty (n : String)
  deriving DecidableEq
def RelV : V → Value → Prop
  | .non, u => u = Value.none
  | .bl b, u => u = Value.bool b
  | .int i, u => ∃ t, u = Value.int i t
  | .str x, u => ∃ t, u = Value.str x t
  | .byt b, u => ∃ t, u = Value.bytes b t
  | .flt b, u => ∃ t, u = Value.float b t
  | .ref a, u => u = Value.ref a
  | .ty n, u => u = Value.type n
abbrev Vals : List V → List Value → Prop := Paired RelV
theorem Vals.length {xs : List V} {us : List Value} (r : Vals xs us) : xs.length = us.length := Paired.length r
theorem Vals.get : ∀ {xs : List V} {us : List Value} {i : Nat} {x : V}, Vals xs us → xs[i]? = some x → ∃ u, us[i]? = some u ∧ RelV x u
  | _, _, _, _, .nil, e => by simp at e
  | _, _, 0, _, .cons r _, e => by simp at e; subst e; exact ⟨_, rfl, r⟩
  | _, _, i + 1, x, .cons _ t, e => by
    obtain ⟨u, h1, h2⟩ := Vals.get (i := i) (x := x) t (by simpa using e)
    exact ⟨u, by simpa using h1, h2⟩
theorem Vals.set {x : V} {u : Value} (r : RelV x u) : ∀ {xs : List V} {us : List Value} (i : Nat), Vals xs us → Vals (xs.set i x) (us.set i u)
  | _, _, _, .nil => .nil
  | _, _, 0, .cons _ t => .cons r t
  | _, _, i + 1, .cons q t => .cons q (Vals.set r i t)
theorem Vals.append : ∀ {xs ys : List V} {us ws : List Value}, Vals xs us → Vals ys ws → Vals (xs ++ ys) (us ++ ws)
  | _, _, _, _, .nil, s => s
  | _, _, _, _, .cons r t, s => .cons r (Vals.append t s)
def RelO : Option V → Option Value → Prop
  | some v, some u => RelV v u
  | none, none => True
  | _, _ => False
def KV {κ : Type} : List (κ × V) → List (κ × Value) → Prop := Paired fun (p : κ × V) (q : κ × Value) => p.1 = q.1 ∧ RelV p.2 q.2
def kV : Key → V
  | .inl i => .int i
  | .inr x => .str x
inductive HO where
  | lst (xs : List V)
  | tup (xs : List V)
  | dK (kvs : List (Key × V)) | dT (kvs : List (List Key × V))
  | set (S : Int → Bool) (n : Nat)
  | ins (C dx : Addr) (fs : List (Str × V))
  | own (x : Addr)
  | xd (fs : List (Str × V))
  | met (f x : Addr)
  | rng (lo hi : Int)
  | frz (o : Obj) (u : HO)
  | tbl (ps : Array Value)
  | ext (φ : Heap → Prop)
abbrev Hp := Addr → Option HO
def upd (H : Hp) (a : Addr) (o : HO) : Hp := fun b => if b = a then some o else H b
theorem upd_same {H : Hp} {a : Addr} {o : HO} : upd H a o a = some o := by unfold upd; rw [if_pos rfl]
theorem upd_ne {H : Hp} {a b : Addr} {o : HO} (h : b ≠ a) : upd H a o b = H b := by unfold upd; rw [if_neg h]
theorem ne_of {H : Hp} {a b : Addr} {o u : HO} (h : H a = some o) (h' : H b = some u) (d : o ≠ u) : a ≠ b := by
  intro e; subst e; rw [h] at h'; exact d (Option.some.inj h')
theorem ne_of_none {H : Hp} {a b : Addr} {o : HO} (h : H a = some o) (h' : H b = none) : a ≠ b := by
  intro e; subst e; rw [h] at h'; cases h'
section
variable (P : Program) (w : World)
def ObjOk (H : Hp) (h : Heap) (a : Addr) : HO → Prop
  | .lst xs => xs.length ≤ sizeLine ∧ ∃ (its : List Value) (n : Nat), Vals xs its ∧ h.get? a = some { cls := .type "list", data := .seq its.toArray n }
  | .tup xs => xs.length ≤ sizeLine ∧ ∃ its : List Value, Vals xs its ∧ IsTup h a its.toArray
  | .dK kvs => kvs.length ≤ sizeLine ∧ (a == sysModules) = false ∧ ∃ vs, KV kvs vs ∧ h.DictOf (mixKind P w) a vs
  | .dT kvs => kvs.length ≤ sizeLine ∧ (a == sysModules) = false ∧ ∃ xs : List (List Key × Addr × Value),
      Paired (fun (p : List Key × V) (q : List Key × Addr × Value) => p.1 = q.1 ∧ H q.2.1 = some (.tup (p.1.map kV)) ∧ RelV p.2 q.2.2) kvs xs ∧
      ∃ o es ep, h.get? a = some o ∧ o.ExactDict ∧ o.data = .dict es ep ∧ es.toList = xs.map (entryOfKey (tupleKind (mixKind P w))) ∧ (xs.map (·.1)).Nodup
  | .set S n => h.SetOf (intKind P w) a S n
  | .ins C dx fs => H dx = some (.own a) ∧ fs.length ≤ 1000 ∧ dx ≠ a ∧ h.get? a = some (PySem.W.instObj C dx) ∧
      ∃ mA, h.Ns1 dx mA ∧ (∀ f, RelO (fs.lookup f) (mA f)) ∧ PySem.Within mA (fs.map (·.1))
  | .own _ => ∃ o, h.get? a = some o
  | .xd fs => ∃ mA, h.Ns1 a mA ∧ ∀ f, RelO (fs.lookup f) (mA f)
  | .rng lo hi => ∃ t u v, h.get? a = some { cls := .type "range", data := .fields #[.int lo t, .int hi u, .int 1 v] }
  | .frz o u => h.get? a = some o ∧ ObjOk H h a u
  | .tbl ps => h.get? a = some { cls := .none, data := .fields ps }
  | .met f x => h.get? a = some (PySem.W.methodObj (.ref f) (.ref x))
  | .ext φ => φ h ∧ (∃ o, h.get? a = some o) ∧ ∀ h1 h2 : Heap, φ h1 → (∀ o, h1.get? a = some o → h2.get? a = some o) → φ h2
def HOk (H : Hp) (h : Heap) : Prop := ∀ a o, H a = some o → ObjOk P w H h a o
end
section
variable {P : Program} {w : World} {H H' : Hp} {h h' : Heap} {a : Addr} {o : HO}
theorem ObjOk.lt (x : ObjOk P w H h a o) : a < h.objs.size := by
  cases o with
  | lst xs => obtain ⟨_, _, _, _, e⟩ := x; exact Heap.lt_size e
  | tup xs => obtain ⟨_, _, _, p⟩ := x; exact p.lt
  | dK kvs => obtain ⟨_, _, _, _, o, _, _, e, _⟩ := x; exact Heap.lt_size e
  | dT kvs => obtain ⟨_, _, _, _, o, _, _, e, _⟩ := x; exact Heap.lt_size e
  | set S n => obtain ⟨o, _, _, _, e, _⟩ := x; exact Heap.lt_size e
  | ins C dx fs => obtain ⟨_, _, _, e, _⟩ := x; exact Heap.lt_size e
  | own y => obtain ⟨_, e⟩ := x; exact Heap.lt_size e
  | xd fs => obtain ⟨_, ⟨_, _, _, e, _⟩, _⟩ := x; exact Heap.lt_size e
  | rng lo hi => obtain ⟨_, _, _, e⟩ := x; exact Heap.lt_size e
  | frz ob u => obtain ⟨e, _⟩ := x; exact Heap.lt_size e
  | tbl ps => exact Heap.lt_size (show h.get? a = some _ from x)
  | met f y => exact Heap.lt_size (show h.get? a = some _ from x)
  | ext φ => obtain ⟨_, ⟨_, e⟩, _⟩ := x; exact Heap.lt_size e
theorem Paired.mapP {α β : Type} {F G : α → β → Prop} : ∀ {l₁ : List α} {l₂ : List β}, Paired F l₁ l₂ → (∀ a b, F a b → G a b) → Paired G l₁ l₂
  | _, _, .nil, _ => .nil
  | _, _, .cons r t, f => .cons (f _ _ r) (Paired.mapP t f)
theorem ObjOk.stay (x : ObjOk P w H h a o) (k : ∀ b u, (b = a ∨ H b = some (.own a)) → h.get? b = some u → h'.get? b = some u)
    (ho : ∀ b, H b = some (.own a) → H' b = some (.own a)) (ht : ∀ b xs, H b = some (.tup xs) → H' b = some (.tup xs)) : ObjOk P w H' h' a o := by
  induction o with
  | lst xs => obtain ⟨z, its, n, r, e⟩ := x; exact ⟨z, its, n, r, k _ _ (.inl rfl) e⟩
  | tup xs => obtain ⟨z, its, r, ob, e, c⟩ := x; exact ⟨z, its, r, ob, k _ _ (.inl rfl) e, c⟩
  | dK kvs => obtain ⟨z, y, vs, r, ob, es, ep, e, c⟩ := x; exact ⟨z, y, vs, r, ob, es, ep, k _ _ (.inl rfl) e, c⟩
  | dT kvs =>
    obtain ⟨z, y, xs, r, ob, es, ep, e, c⟩ := x
    exact ⟨z, y, xs, Paired.mapP r fun p q z => ⟨z.1, ht _ _ z.2.1, z.2.2⟩, ob, es, ep, k _ _ (.inl rfl) e, c⟩
  | set S n => obtain ⟨ob, es, ep, t, e, c⟩ := x; exact ⟨ob, es, ep, t, k _ _ (.inl rfl) e, c⟩
  | ins C dx fs =>
    obtain ⟨d, z, ne, e, mA, ⟨od, es, ep, e2, c⟩, r⟩ := x
    exact ⟨ho _ d, z, ne, k _ _ (.inl rfl) e, mA, ⟨od, es, ep, k _ _ (.inr d) e2, c⟩, r⟩
  | own y => obtain ⟨ob, e⟩ := x; exact ⟨ob, k _ _ (.inl rfl) e⟩
  | xd fs => obtain ⟨mA, ⟨od, es, ep, e, c⟩, r⟩ := x; exact ⟨mA, ⟨od, es, ep, k _ _ (.inl rfl) e, c⟩, r⟩
  | rng lo hi => obtain ⟨t, u, v, e⟩ := x; exact ⟨t, u, v, k _ _ (.inl rfl) e⟩
  | frz ob u ih => obtain ⟨e, q⟩ := x; exact ⟨k _ _ (.inl rfl) e, ih q⟩
  | tbl ps =>
    have e : h.get? a = some { cls := .none, data := .fields ps } := x
    show h'.get? a = some { cls := .none, data := .fields ps }
    exact k a _ (.inl rfl) e
  | met f y =>
    have e : h.get? a = some (PySem.W.methodObj (.ref f) (.ref y)) := x
    show h'.get? a = some (PySem.W.methodObj (.ref f) (.ref y))
    exact k a _ (.inl rfl) e
  | ext φ => obtain ⟨p, ⟨o, e⟩, st⟩ := x; exact ⟨st _ _ p fun o q => k _ _ (.inl rfl) q, ⟨o, k _ _ (.inl rfl) e⟩, st⟩
theorem HOk.lt (x : HOk P w H h) (e : H a = some o) : a < h.objs.size := (x a o e).lt
theorem HOk.fresh (x : HOk P w H h) (e : h.objs.size ≤ a) : H a = none := by
  cases q : H a with
  | none => rfl
  | some u => exact absurd (Nat.lt_of_lt_of_le (x.lt q) e) (Nat.lt_irrefl _)
theorem HOk.kept (x : HOk P w H h) (k : ∀ b u, h.get? b = some u → h'.get? b = some u) : HOk P w H h' := fun a o e =>
  (x a o e).stay (fun b u _ q => k b u q) (fun _ q => q) fun _ _ q => q
theorem HOk.laid (x : HOk P w H h) (k : ∀ b u, h.get? b = some u → h'.get? b = some u) (hp : h.objs.size ≤ a) (new : ObjOk P w (upd H a o) h' a o) : HOk P w (upd H a o) h' := fun b u e => by
  have hn := x.fresh hp
  by_cases hb : b = a
  · subst hb; rw [upd_same] at e; cases e; exact new
  · rw [upd_ne hb] at e
    exact (x b u e).stay (fun c v _ q => k c v q) (fun c q => by rw [upd_ne (ne_of_none q hn)]; exact q) fun c xs q => by rw [upd_ne (ne_of_none q hn)]; exact q
end
def Rd (H : Hp) (a : Addr) (u : HO) : Prop := H a = some u ∨ ∃ o, H a = some (.frz o u)
theorem Rd.ok {P : Program} {w : World} {H : Hp} {h : Heap} {a : Addr} {u : HO} (r : Rd H a u) (x : HOk P w H h) : ObjOk P w H h a u := by
  rcases r with r | ⟨o, r⟩
  · exact x a u r
  · obtain ⟨_, q⟩ := x a _ r
    exact q
def Mut : Option HO → Prop
  | some (.lst _) => True
  | some (.dK _) => True
  | some (.dT _) => True
  | some (.set _ _) => True
  | some (.ins _ _ _) => True
  | some (.ext _) => True
  | _ => False
section
variable {P : Program} {w : World} {H : Hp} {h h' : Heap} {x e : Addr} {o' : HO}
theorem HOk.write (ok : HOk P w H h) (mu : Mut (H x)) (he : e = x ∨ H e = some (.own x)) (k : ∀ b u, b ≠ e → h.get? b = some u → h'.get? b = some u) (heo : ∃ u, h'.get? e = some u)
    (new : ObjOk P w (upd H x o') h' x o') : HOk P w (upd H x o') h' := fun b u q => by
  have nown : ∀ c y, H c = some (.own y) → c ≠ x := fun c y r z => by subst z; rw [r] at mu; exact mu
  have ntup : ∀ c xs, H c = some (.tup xs) → c ≠ x := fun c xs r z => by subst z; rw [r] at mu; exact mu
  by_cases hb : b = x
  · subst hb; rw [upd_same] at q; cases q; exact new
  · rw [upd_ne hb] at q
    by_cases hbe : b = e
    · have q' : H b = some (.own x) := by
        rcases he with z | z
        · exact absurd (hbe.trans z) hb
        · rw [hbe]; exact z
      rw [q] at q'; cases q'
      obtain ⟨v, hv⟩ := heo
      exact ⟨v, by rw [hbe]; exact hv⟩
    · refine (ok b u q).stay (fun c v hc r => k c v ?_ r) (fun c r => by rw [upd_ne (nown c b r)]; exact r) fun c xs r => by rw [upd_ne (ntup c xs r)]; exact r
      rcases hc with rfl | hc
      · exact hbe
      · rintro rfl
        rcases he with z | z
        · exact nown c b hc z
        · rw [hc] at z; cases z; exact hb rfl
end
structure Un (fs ex : List Addr) (H H' : Hp) (h h' : Heap) : Prop where
  keep : ∀ b o, h.get? b = some o → H b = none → b ∉ fs → b ∉ ex → h'.get? b = some o
  slot : ∀ b o, h.get? b = some o → H b = none → b ∈ fs → b ∉ ex → ∃ sl, h'.get? b = some { o with slots := sl }
  free : ∀ b o, h.get? b = some o → H b = none → b ∉ ex → H' b = none
  there : ∀ b o, h.get? b = some o → b ∉ ex → ∃ o', h'.get? b = some o'
  tups : ∀ b xs, H b = some (.tup xs) → H' b = some (.tup xs)
  frzs : ∀ b o u, H b = some (.frz o u) → H' b = some (.frz o u)
  tbls : ∀ b ps, H b = some (.tbl ps) → ∃ more, H' b = some (.tbl (ps ++ more))
section
variable {fs fs' ex ex' : List Addr} {H H1 H2 : Hp} {h h1 h2 h' : Heap} {a x e : Addr} {o : HO}
theorem Un.any (u : Un fs ex H H1 h h1) {b : Addr} {ob : Obj} (q : h.get? b = some ob) (n : H b = none) (hx : b ∉ ex) : ∃ sl, h1.get? b = some { ob with slots := sl } := by
  by_cases hb : b ∈ fs
  · exact u.slot b ob q n hb hx
  · exact ⟨ob.slots, u.keep b ob q n hb hx⟩
theorem Un.kept (k : ∀ b u, h.get? b = some u → h'.get? b = some u) : Un fs ex H H h h' :=
  ⟨fun b ob q _ _ _ => k b ob q, fun b ob q _ _ _ => ⟨ob.slots, k b ob q⟩, fun _ _ _ n _ => n, fun b ob q _ => ⟨ob, k b ob q⟩, fun _ _ q => q, fun _ _ _ q => q, fun _ ps q => ⟨#[], by rw [q]; simp⟩⟩
theorem Un.refl : Un fs ex H H h h := Un.kept fun _ _ q => q
theorem Un.laid (k : ∀ b u, h.get? b = some u → h'.get? b = some u) (hp : h.objs.size ≤ a) (hn : H a = none) : Un fs ex H (upd H a o) h h' where
  keep := fun b u q _ _ _ => k b u q
  slot := fun b u q _ _ _ => ⟨u.slots, k b u q⟩
  free := fun b u q n _ => by rw [upd_ne (Nat.ne_of_lt (Nat.lt_of_lt_of_le (Heap.lt_size q) hp))]; exact n
  there := fun b u q _ => ⟨u, k b u q⟩
  tups := fun b xs q => by rw [upd_ne (ne_of_none q hn)]; exact q
  frzs := fun b u xs q => by rw [upd_ne (ne_of_none q hn)]; exact q
  tbls := fun b ps q => ⟨#[], by rw [upd_ne (ne_of_none q hn), q]; simp⟩
theorem Un.write (mu : Mut (H x)) (he : e = x ∨ H e = some (.own x)) (k : ∀ b u, b ≠ e → h.get? b = some u → h'.get? b = some u) (heo : ∃ u, h'.get? e = some u) : Un fs ex H (upd H x o) h h' := by
  have hx : ∀ b, H b = none → b ≠ x := fun b n z => by subst z; rw [n] at mu; exact mu
  have hb : ∀ b, H b = none → b ≠ e := fun b n z => by
    subst z
    rcases he with r | r
    · exact hx b n r
    · rw [n] at r; cases r
  have hm : ∀ b u, H b = some u → ¬ Mut (some u) → b ≠ x := fun b u q nm z => by subst z; rw [q] at mu; exact nm mu
  refine ⟨fun b u q n _ _ => k b u (hb b n) q, fun b u q n _ _ => ⟨u.slots, k b u (hb b n) q⟩, fun b u q n _ => by rw [upd_ne (hx b n)]; exact n, fun b u q _ => ?_,
    fun b xs q => by rw [upd_ne (hm b _ q fun z => z)]; exact q, fun b u xs q => by rw [upd_ne (hm b _ q fun z => z)]; exact q, fun b ps q => ⟨#[], by rw [upd_ne (hm b _ q fun z => z), q]; simp⟩⟩
  by_cases hbe : b = e
  · subst hbe; exact heo
  · exact ⟨u, k b u hbe q⟩
end
def trk (h : Heap) (H : Hp) : List Addr := (List.range h.objs.size).filter fun a => (H a).isSome
def hidT (h : Heap) (H : Hp) : Heap := PySem.W.hideAll h (trk h H)
theorem hidT_size (h : Heap) (H : Hp) : (hidT h H).objs.size = h.objs.size := PySem.W.hideAll_size _ _
theorem hidT_get {h : Heap} {H : Hp} {b : Addr} {o : Obj} (e : h.get? b = some o) (n : H b = none) : (hidT h H).get? b = some o :=
  PySem.W.hideAll_get _ e fun hm => by
    have q : (H b).isSome = true := (List.mem_filter.mp hm).2
    rw [n] at q; simp at q
theorem of_hidT {h : Heap} {H : Hp} {b : Addr} {o : Obj} (e : (hidT h H).get? b = some o) : h.get? b = some o ∧ H b = none := by
  have e' : h.get? b = some o := PySem.W.of_hideAll (trk h H) e
  refine ⟨e', ?_⟩
  cases q : H b with
  | none => rfl
  | some x =>
    have hm : b ∈ trk h H := List.mem_filter.mpr ⟨List.mem_range.mpr (Heap.lt_size e'), by simp [q]⟩
    have z : (hidT h H).get? b = none := PySem.W.hideAll_none (trk h H) hm
    rw [z] at e; cases e
end L2
namespace L2
open PySem PySem.Spec PyProof.Rows
structure Mod (K : PySem.W.Frag) (mg : Str → Option Value) (base : Heap) : Prop where
  kin : K.In base
  glob : base.Ns mainGlobals mg
  blt : ∃ mb, base.Ns builtinsNs mb ∧ ∀ x : Str, x ≠ "__name__" → mb x = bootBuiltins x
  nolimit : base.NoLimit
structure Cx where
  prog : Program
  w : World
  K : PySem.W.Frag
  mg : Str → Option Value
  base : Heap
  A : Around
  N : List Str
  s₀ : Shared
  H₀ : Hp
  env : Env
  outer : List Env
  stack : List Env
  ex : List Addr
  fn : Str → Bool
  calm : Bool
  pn : List (Addr × Obj)
  xe : Value → Shared → Prop
def frs (l : List Env) : List Addr := l.filterMap (·.frame)
abbrev Cx.fs (X : Cx) : List Addr := frs X.outer
def Vis (sc : Scope) (x : Str) : Prop := sc.names.lookup x = some .local ∨ sc.names.lookup x = some .cell ∨ sc.names.lookup x = some .free
def Loc (sc : Scope) (x : Str) : Prop := sc.names.lookup x = some .local ∨ sc.names.lookup x = some .cell
def Look (env : Env) (h : Heap) (m : Str → Option Value) (x : Str) (u : Value) : Prop :=
  (env.kindOf x = some .local ∧ m x = some u) ∨ ((env.kindOf x = some .cell ∨ env.kindOf x = some .free) ∧ ∃ c, env.cells.lookup x = some c ∧ h.IsCell c (some u))
structure Cx.Ok (X : Cx) : Prop where
  mod : Mod X.K X.mg X.base
  kind : X.env.scope.kind = .function
  glob : X.env.globals = mainGlobals
  blt : X.env.builtins = builtinsNs
  above : X.s₀.heap.objs.size ≤ X.env.locals
  inj : ∀ x y c, X.env.cells.lookup x = some c → X.env.cells.lookup y = some c → x = y
  has : ∀ x, (X.env.kindOf x = some .cell ∨ X.env.kindOf x = some .free) → ∃ c, X.env.cells.lookup x = some c
  cab : ∀ x c, X.fn x = true → X.env.cells.lookup x = some c → X.s₀.heap.objs.size ≤ c
  hd : X.calm = true → X.A.handled = none
  frames : X.A.frames = some X.stack
  stk : X.stack = X.outer ∨ (X.stack = X.env :: X.outer ∧ X.env.frame = some X.env.locals)
  exf : ∀ b ∈ X.ex, b ≠ X.env.locals ∧ ∀ x c, X.env.cells.lookup x = some c → c ≠ b
  bs : ∀ b o, X.base.get? b = some o → X.s₀.heap.get? b = some o ∧ X.H₀ b = none
  bsz : X.base.objs.size ≤ X.s₀.heap.objs.size
  noex : ∀ b o, X.base.get? b = some o → b ∉ X.ex
  exfs : ∀ b ∈ X.ex, b ∉ X.fs
  funs : X.s₀.heap.FunFrames X.base X.outer
  frf : ∀ b ∈ X.fs, X.H₀ b = none
structure Inv (X : Cx) (pins : List (Addr × Obj)) (σ : List (Option V)) (H : Hp) (s : Shared) : Prop where
  ok : X.Ok
  os : s.os = X.s₀.os
  bare : AllBare s.gens
  base : Un X.fs X.ex X.H₀ H X.s₀.heap s.heap
  loc : ∃ m, s.heap.Ns X.env.locals m ∧ ∀ (i : Nat) (x : Str) (v : V), X.N[i]? = some x → σ[i]? = some (some v) → Vis X.env.scope x → ∃ u, RelV v u ∧ Look X.env s.heap m x u
  cell : ∀ x c, X.env.cells.lookup x = some c → ∃ v, s.heap.IsCell c v
  free : H X.env.locals = none
  freeC : ∀ x c, X.env.cells.lookup x = some c → H c = none
  pin : ∀ p ∈ X.pn ++ pins, s.heap.get? p.1 = some p.2 ∧ H p.1 = none ∧ p.1 ≠ X.env.locals ∧ p.1 ∉ X.fs ∧ ∀ v, p.2.data ≠ .cell v
  hok : HOk X.prog X.w H s.heap
  len : σ.length = X.N.length
section
variable {X : Cx} {pins : List (Addr × Obj)} {σ : List (Option V)} {H H' : Hp} {s : Shared} {h' : Heap}
theorem Cx.Ok.nofr (ok : X.Ok) {b : Addr} {o : Obj} (e : X.base.get? b = some o) : b ∉ X.fs := fun hb => by
  have := (ok.funs.mem hb).1
  rw [e] at this; cases this
theorem Inv.bs (I : Inv X pins σ H s) : ∀ b o, X.base.get? b = some o → s.heap.get? b = some o ∧ H b = none := fun b o e =>
  ⟨I.base.keep b o (I.ok.bs b o e).1 (I.ok.bs b o e).2 (I.ok.nofr e) (I.ok.noex b o e), I.base.free b o (I.ok.bs b o e).1 (I.ok.bs b o e).2 (I.ok.noex b o e)⟩
theorem Inv.bk (I : Inv X pins σ H s) : ∀ b o, X.base.get? b = some o → s.heap.get? b = some o := fun b o e => (I.bs b o e).1
theorem Inv.mod (I : Inv X pins σ H s) : Mod X.K X.mg X.base := I.ok.mod
theorem Inv.kIn (I : Inv X pins σ H s) : X.K.In s.heap := I.ok.mod.kin.keeps I.bk
theorem Inv.lt (I : Inv X pins σ H s) : X.env.locals < s.heap.objs.size := let ⟨_, hn, _⟩ := I.loc; hn.lt
theorem Inv.sz (I : Inv X pins σ H s) : X.s₀.heap.objs.size ≤ s.heap.objs.size := Nat.le_trans I.ok.above (Nat.le_of_lt I.lt)
theorem Inv.nofs (I : Inv X pins σ H s) {a : Addr} (h : s.heap.objs.size ≤ a) : a ∉ X.fs := fun hb => by
  obtain ⟨_, o, ho, _⟩ := I.ok.funs.mem hb
  exact absurd (Nat.lt_of_lt_of_le (Heap.lt_size ho) (Nat.le_trans I.sz h)) (Nat.lt_irrefl _)
theorem Inv.cne (I : Inv X pins σ H s) : ∀ x c, X.env.cells.lookup x = some c → c ≠ X.env.locals := fun x c e z => by
  obtain ⟨v, o, ho, hd⟩ := I.cell x c e
  obtain ⟨m, ⟨o', es, ep, ho', hd', _⟩, _⟩ := I.loc
  rw [z, ho'] at ho; cases ho; rw [hd'] at hd; cases hd
theorem Inv.funs (I : Inv X pins σ H s) : s.heap.FunFrames X.base X.outer := by
  have all : ∀ (l : List Env), (∀ b ∈ frs l, b ∈ X.fs) → X.s₀.heap.FunFrames X.base l → s.heap.FunFrames X.base l := by
    intro l
    induction l with
    | nil => intro _ _; trivial
    | cons env r ih =>
      intro hs hl
      obtain ⟨hk, ⟨L, o, hf, hn, ho, hd⟩, hr⟩ := hl
      have hL : L ∈ X.fs := hs L (by unfold frs; rw [List.filterMap_cons, hf]; exact List.mem_cons_self)
      obtain ⟨sl, e⟩ := I.base.slot L o ho (I.ok.frf L hL) hL fun z => I.ok.exfs L z hL
      exact ⟨hk, ⟨L, _, hf, hn, e, hd⟩, ih (fun b hb => hs b (by unfold frs; rw [List.filterMap_cons, hf]; exact List.mem_cons_of_mem _ hb)) hr⟩
  exact all X.outer (fun _ hb => hb) I.ok.funs
theorem Inv.stack (I : Inv X pins σ H s) : s.heap.FunFrames X.base X.stack := by
  rcases I.ok.stk with e | ⟨e, hf⟩
  · rw [e]; exact I.funs
  · rw [e]
    obtain ⟨m, hn, _⟩ := I.loc
    refine .cons (by rw [I.ok.kind]; decide) hf hn ?_ I.funs
    exact Heap.get?_none_of_le (Nat.le_trans I.ok.bsz I.ok.above)
theorem Inv.stkSub (I : Inv X pins σ H s) : ∀ b ∈ frs X.stack, b ∈ X.env.locals :: X.fs := fun b hb => by
  rcases I.ok.stk with e | ⟨e, hf⟩
  · rw [e] at hb; exact List.mem_cons_of_mem _ hb
  · rw [e] at hb
    unfold frs at hb
    rw [List.filterMap_cons, hf] at hb
    exact hb
theorem Inv.stkFree (I : Inv X pins σ H s) : ∀ b ∈ frs X.stack, H b = none := fun b hb => by
  rcases List.mem_cons.mp (I.stkSub b hb) with e | hb
  · rw [e]; exact I.free
  · obtain ⟨_, o, ho, _⟩ := I.ok.funs.mem hb
    exact I.base.free b o ho (I.ok.frf b hb) fun z => I.ok.exfs b z hb
theorem Inv.step {g' : Array GenState} {t' : Nat} {d' : Drawn} {ch : List Addr} (I : Inv X pins σ H s)
    (hch : ∀ b ∈ ch, (b ∈ X.ex ∨ X.s₀.heap.objs.size ≤ b) ∧ b ≠ X.env.locals ∧ (∀ x c, X.env.cells.lookup x = some c → c ≠ b) ∧ ∀ p ∈ X.pn ++ pins, p.1 ≠ b)
    (keep : ∀ b o, b ≠ X.env.locals → b ∉ X.fs → b ∉ ch → s.heap.get? b = some o → H b = none → h'.get? b = some o)
    (slot : ∀ b o, b ≠ X.env.locals → b ∈ X.fs → b ∉ ch → s.heap.get? b = some o → H b = none → ∃ sl, h'.get? b = some { o with slots := sl }) (free : ∀ b o, b ∉ ch → s.heap.get? b = some o → H b = none → H' b = none)
    (there : ∀ b o, b ∉ ch → s.heap.get? b = some o → ∃ o', h'.get? b = some o')
    (tups : ∀ b xs, H b = some (.tup xs) → H' b = some (.tup xs)) (frzs : ∀ b o u, H b = some (.frz o u) → H' b = some (.frz o u)) (tbls : ∀ b ps, H b = some (.tbl ps) → ∃ more, H' b = some (.tbl (ps ++ more)))
    (ns : ∀ m, s.heap.Ns X.env.locals m → h'.Ns X.env.locals m) (hok : HOk X.prog X.w H' h') (hg : AllBare g') :
    Inv X pins σ H' { s with heap := h', gens := g', drawn := d', toks := t' } := by
  have neL : ∀ b o, X.s₀.heap.get? b = some o → b ≠ X.env.locals := fun b o e => Nat.ne_of_lt (Nat.lt_of_lt_of_le (Heap.lt_size e) I.ok.above)
  have neC : ∀ b o, X.s₀.heap.get? b = some o → b ∉ X.ex → b ∉ ch := fun b o e hx hb => by
    rcases (hch b hb).1 with z | z
    · exact hx z
    · exact absurd (Nat.lt_of_lt_of_le (Heap.lt_size e) z) (Nat.lt_irrefl _)
  have cellK : ∀ x c, X.env.cells.lookup x = some c → ∀ v, s.heap.IsCell c v → h'.IsCell c v := fun x c e v ⟨o, ho, hd⟩ => by
    have nch : c ∉ ch := fun z => (hch c z).2.2.1 x c e rfl
    by_cases hc : c ∈ X.fs
    · obtain ⟨sl, q⟩ := slot c o (I.cne x c e) hc nch ho (I.freeC x c e)
      exact ⟨_, q, hd⟩
    · exact ⟨o, keep c o (I.cne x c e) hc nch ho (I.freeC x c e), hd⟩
  refine ⟨I.ok, I.os, hg, ⟨fun b o e n hb hx => ?_, fun b o e n hb hx => ?_, fun b o e n hx => ?_, fun b o e hx => ?_, fun b xs e => tups b xs (I.base.tups b xs e), fun b o xs e => frzs b o xs (I.base.frzs b o xs e), fun b ps e => ?_⟩, ?_, fun x c e => ?_, ?_, fun x c e => ?_, fun p hp => ?_, hok, I.len⟩
  · exact keep b o (neL b o e) hb (neC b o e hx) (I.base.keep b o e n hb hx) (I.base.free b o e n hx)
  · obtain ⟨sl, e1⟩ := I.base.slot b o e n hb hx
    obtain ⟨sl', e2⟩ := slot b _ (neL b o e) hb (neC b o e hx) e1 (I.base.free b o e n hx)
    exact ⟨sl', e2⟩
  · obtain ⟨o', e1⟩ := I.base.there b o e hx
    exact free b o' (neC b o e hx) e1 (I.base.free b o e n hx)
  · obtain ⟨o', e1⟩ := I.base.there b o e hx
    exact there b o' (neC b o e hx) e1
  · obtain ⟨m1, e1⟩ := I.base.tbls b ps e
    obtain ⟨m2, e2⟩ := tbls b _ e1
    exact ⟨m1 ++ m2, by rw [e2, Array.append_assoc]⟩
  · obtain ⟨m, hn, hl⟩ := I.loc
    refine ⟨m, ns m hn, fun i x v e1 e2 e3 => ?_⟩
    obtain ⟨u, r, l⟩ := hl i x v e1 e2 e3
    refine ⟨u, r, ?_⟩
    rcases l with l | ⟨k, c, e, z⟩
    · exact .inl l
    · exact .inr ⟨k, c, e, cellK x c e _ z⟩
  · obtain ⟨v, z⟩ := I.cell x c e
    exact ⟨v, cellK x c e v z⟩
  · obtain ⟨m, ⟨o, _, _, ho, _⟩, _⟩ := I.loc
    exact free _ o (fun z => (hch _ z).2.1 rfl) ho I.free
  · obtain ⟨v, o, ho, hd⟩ := I.cell x c e
    exact free c o (fun z => (hch c z).2.2.1 x c e rfl) ho (I.freeC x c e)
  · obtain ⟨e, n, ne, nf, d⟩ := I.pin p hp
    have nch : p.1 ∉ ch := fun z => (hch p.1 z).2.2.2 p hp rfl
    exact ⟨keep p.1 p.2 ne nf nch e n, free p.1 p.2 nch e n, ne, nf, d⟩
theorem Inv.un {t' : Nat} (I : Inv X pins σ H s) (u : Un X.fs [] H H' s.heap h') (hok : HOk X.prog X.w H' h') : Inv X pins σ H' { s with heap := h', toks := t' } := by
  obtain ⟨m, ⟨o, es, ep, ho, r⟩, _⟩ := id I.loc
  obtain ⟨sl, hL⟩ := u.any ho I.free (by simp)
  exact I.step (g' := s.gens) (d' := s.drawn) (ch := []) (fun _ z => nomatch z) (fun b o _ hb _ e n => u.keep b o e n hb (by simp)) (fun b o _ hb _ e n => u.slot b o e n hb (by simp)) (fun b o _ e n => u.free b o e n (by simp)) (fun b o _ e => u.there b o e (by simp)) u.tups u.frzs u.tbls (fun m' hm => by
    obtain ⟨o', es', ep', ho', r'⟩ := hm
    rw [ho] at ho'; cases ho'
    exact ⟨_, es', ep', hL, r'⟩) hok I.bare
theorem Inv.call {g' : Array GenState} {t' : Nat} {d' : Drawn} {ch : List Addr} (I : Inv X pins σ H s) (u : Un (frs X.stack) ch H H' s.heap h') (hok : HOk X.prog X.w H' h') (hg : AllBare g')
    (hch : ∀ b ∈ ch, (b ∈ X.ex ∨ X.s₀.heap.objs.size ≤ b) ∧ b ≠ X.env.locals ∧ (∀ x c, X.env.cells.lookup x = some c → c ≠ b) ∧ ∀ p ∈ X.pn ++ pins, p.1 ≠ b) :
    Inv X pins σ H' { s with heap := h', gens := g', drawn := d', toks := t' } := by
  obtain ⟨m, ⟨o, es, ep, ho, r⟩, _⟩ := id I.loc
  obtain ⟨sl, hL⟩ := u.any ho I.free fun z => (hch _ z).2.1 rfl
  exact I.step (ch := ch) hch (fun b o hL hb hc e n => u.keep b o e n (fun z => (List.mem_cons.mp (I.stkSub b z)).elim hL hb) hc) (fun b o _ _ hc e n => u.any e n hc) (fun b o hc e n => u.free b o e n hc) (fun b o hc e => u.there b o e hc) u.tups u.frzs u.tbls (fun m' hm => by
    obtain ⟨o', es', ep', ho', r'⟩ := hm
    rw [ho] at ho'; cases ho'
    exact ⟨_, es', ep', hL, r'⟩) hok hg
theorem Inv.turned {t' : Nat} {it : Addr} (I : Inv X pins σ H s) (k : ∀ b o, b ≠ it → s.heap.get? b = some o → h'.get? b = some o) (hn : H it = none) (hL : it ≠ X.env.locals)
    (h1 : it ∈ X.ex ∨ X.s₀.heap.objs.size ≤ it) (h2 : ∀ x c, X.env.cells.lookup x = some c → c ≠ it) (h3 : ∀ p ∈ X.pn ++ pins, p.1 ≠ it) : Inv X pins σ H { s with heap := h', toks := t' } := by
  have nit : ∀ b u, H b = some u → b ≠ it := fun b u e z => by rw [z, hn] at e; cases e
  refine I.step (g' := s.gens) (d' := s.drawn) (ch := [it]) (fun b hb => ?_) (fun b o _ _ hc e _ => k b o (fun z => hc (by simp [z])) e) (fun b o _ _ hc e _ => ⟨o.slots, k b o (fun z => hc (by simp [z])) e⟩) (fun _ _ _ _ n => n)
    (fun b o hc e => ⟨o, k b o (fun z => hc (by simp [z])) e⟩) (fun _ _ e => e) (fun _ _ _ e => e) (fun b ps e => ⟨#[], by rw [e]; simp⟩) (fun m hm => ?_) (fun b u e => ?_) I.bare
  · have e : b = it := by simpa using hb
    subst e
    exact ⟨h1, hL, h2, h3⟩
  · obtain ⟨o, es, ep, ho, r⟩ := hm
    exact ⟨o, es, ep, k _ o (Ne.symm hL) ho, r⟩
  · refine (I.hok b u e).stay (fun c v hc q => k c v ?_ q) (fun _ q => q) fun _ _ q => q
    rcases hc with z | z
    · rw [z]; exact nit b u e
    · exact nit c _ z
theorem Inv.tok (I : Inv X pins σ H s) (t : Nat) : Inv X pins σ H { s with toks := t } := I.un (h' := s.heap) (t' := t) Un.refl I.hok
theorem Inv.kept {t' : Nat} (I : Inv X pins σ H s) (k : ∀ b u, s.heap.get? b = some u → h'.get? b = some u) : Inv X pins σ H { s with heap := h', toks := t' } := I.un (Un.kept k) (I.hok.kept k)
theorem Inv.laid {a : Addr} {o : HO} {t' : Nat} (I : Inv X pins σ H s) (k : ∀ b u, s.heap.get? b = some u → h'.get? b = some u) (hp : s.heap.objs.size ≤ a) (new : ObjOk X.prog X.w (upd H a o) h' a o) :
    Inv X pins σ (upd H a o) { s with heap := h', toks := t' } := I.un (Un.laid k hp (I.hok.fresh hp)) (I.hok.laid k hp new)
theorem Inv.write {x e : Addr} {o : HO} {t' : Nat} (I : Inv X pins σ H s) (mu : Mut (H x)) (he : e = x ∨ H e = some (.own x)) (k : ∀ b u, b ≠ e → s.heap.get? b = some u → h'.get? b = some u) (heo : ∃ u, h'.get? e = some u)
    (new : ObjOk X.prog X.w (upd H x o) h' x o) : Inv X pins σ (upd H x o) { s with heap := h', toks := t' } := I.un (Un.write mu he k heo) (I.hok.write mu he k heo new)
theorem Inv.pins_of {pins' : List (Addr × Obj)} (I : Inv X pins σ H s) (h : ∀ p ∈ pins', s.heap.get? p.1 = some p.2 ∧ H p.1 = none ∧ p.1 ≠ X.env.locals ∧ p.1 ∉ X.fs ∧ ∀ v, p.2.data ≠ .cell v) : Inv X pins' σ H s :=
  ⟨I.ok, I.os, I.bare, I.base, I.loc, I.cell, I.free, I.freeC, fun p hp => (List.mem_append.mp hp).elim (fun z => I.pin p (List.mem_append_left _ z)) (h p), I.hok, I.len⟩
theorem nodup_ix {N : List Str} (hN : N.Nodup) {i j : Nat} {x : Str} (a : N[i]? = some x) (b : N[j]? = some x) : i = j := by
  obtain ⟨h1, e1⟩ := List.getElem?_eq_some_iff.mp a
  obtain ⟨h2, e2⟩ := List.getElem?_eq_some_iff.mp b
  exact (List.getElem_inj hN).mp (e1.trans e2.symm)
theorem store_ok2 {M : Model} {A : Around} {E : Value → Shared → Prop} {i : Nat} {x : Str} {v : V} {u : Value} {Q : Unit → Shared → Prop} (I : Inv X pins σ H s) (hN : X.N.Nodup) (hi : X.N[i]? = some x) (hx : Loc X.env.scope x) (r : RelV v u)
    (h : ∀ s', Inv X pins (σ.set i (some v)) H s' → (∃ a, Heap.SameBut a s.heap s'.heap ∧ (a = X.env.locals ∨ X.env.cells.lookup x = some a)) → Q () s') (hf : X.fn x = true ∨ X.env.scope.names.lookup x = some .local := by first | exact .inl rfl | exact .inr rfl | assumption) : wpAny M A (storeName X.env x u) Q E s := by
  obtain ⟨m, hn, hl⟩ := id I.loc
  have hcls : (X.env.scope.kind == .class || (X.env.scope.kind == .module && X.env.locals != X.env.globals)) = false := by rw [I.ok.kind]; rfl
  have hiσ : i < σ.length := by rw [I.len]; exact (List.getElem?_eq_some_iff.mp hi).1
  have cne := I.cne
  have tracked : ∀ {a : Addr} {h' : Heap}, (∃ o, s.heap.get? a = some o ∧ H a = none) → Heap.SameBut a s.heap h' → HOk X.prog X.w H h' := fun {a h'} ha hs b ob e => by
    obtain ⟨_, _, hfree⟩ := ha
    refine (I.hok b ob e).stay (fun c w' hc q => (hs.2 c ?_).trans q) (fun _ q => q) fun _ _ q => q
    rintro rfl
    rcases hc with rfl | hc
    · rw [hfree] at e; cases e
    · rw [hfree] at hc; cases hc
  rcases hx with hk | hk
  · refine wpAny_storeName_local hk hn (fun h' hn' hs => ?_) hcls
    obtain ⟨oL, _, _, hoL, _⟩ := id hn
    refine h _ ⟨I.ok, I.os, I.bare, ⟨fun b o e n hb hx => ?_, fun b o e n hb hx => ?_, I.base.free, fun b o e hx => ?_, I.base.tups, I.base.frzs, I.base.tbls⟩, ⟨_, hn', fun j y v' e1 e2 e3 => ?_⟩, fun y c e => ?_, I.free, I.freeC, fun p hp => ?_, tracked ⟨oL, hoL, I.free⟩ hs, by simpa using I.len⟩ ⟨_, hs, .inl rfl⟩
    · exact (hs.2 b (Nat.ne_of_lt (Nat.lt_of_lt_of_le (Heap.lt_size e) I.ok.above))).trans (I.base.keep b o e n hb hx)
    · obtain ⟨sl, e1⟩ := I.base.slot b o e n hb hx
      exact ⟨sl, (hs.2 b (Nat.ne_of_lt (Nat.lt_of_lt_of_le (Heap.lt_size e) I.ok.above))).trans e1⟩
    · obtain ⟨o', e1⟩ := I.base.there b o e hx
      exact ⟨o', (hs.2 b (Nat.ne_of_lt (Nat.lt_of_lt_of_le (Heap.lt_size e) I.ok.above))).trans e1⟩
    · by_cases hj : j = i
      · subst hj
        rw [hi] at e1; cases e1
        rw [List.getElem?_set_self hiσ] at e2
        cases e2
        exact ⟨u, r, .inl ⟨hk, by simp⟩⟩
      · rw [List.getElem?_set_ne (Ne.symm hj)] at e2
        obtain ⟨u', r', q⟩ := hl j y v' e1 e2 e3
        refine ⟨u', r', ?_⟩
        rcases q with ⟨k, e⟩ | ⟨k, c, e, z⟩
        · refine .inl ⟨k, ?_⟩
          have : y ≠ x := fun e => hj (nodup_ix hN e1 (e ▸ hi))
          simp [this, e]
        · exact .inr ⟨k, c, e, z.sameBut hs (cne y c e)⟩
    · obtain ⟨w', z⟩ := I.cell y c e
      exact ⟨w', z.sameBut hs (cne y c e)⟩
    · obtain ⟨e, n, ne, nf, d⟩ := I.pin p hp
      exact ⟨(hs.2 p.1 ne).trans e, n, ne, nf, d⟩
  · have hfn : X.fn x = true := by
      rcases hf with z | z
      · exact z
      · rw [z] at hk; cases hk
    obtain ⟨c, hc⟩ := I.ok.has x (.inl hk)
    obtain ⟨w', z⟩ := I.cell x c hc
    refine wpAny_storeName_cell I.ok.kind hk hc z (fun h' hc' hs => ?_)
    obtain ⟨oc, hoc, hocd⟩ := id z
    refine h { s with heap := h' } ⟨I.ok, I.os, I.bare, ⟨fun b o e n hb hx => ?_, fun b o e n hb hx => ?_, I.base.free, fun b o e hx => ?_, I.base.tups, I.base.frzs, I.base.tbls⟩, ⟨m, hn.sameBut hs (Ne.symm (cne x c hc)), fun j y v' e1 e2 e3 => ?_⟩, fun y c' e => ?_, I.free, I.freeC, fun p hp => ?_, tracked ⟨oc, hoc, I.freeC x c hc⟩ hs, by simpa using I.len⟩ ⟨c, hs, .inr hc⟩
    · exact (hs.2 b (Nat.ne_of_lt (Nat.lt_of_lt_of_le (Heap.lt_size e) (I.ok.cab x c hfn hc)))).trans (I.base.keep b o e n hb hx)
    · obtain ⟨sl, e1⟩ := I.base.slot b o e n hb hx
      exact ⟨sl, (hs.2 b (Nat.ne_of_lt (Nat.lt_of_lt_of_le (Heap.lt_size e) (I.ok.cab x c hfn hc)))).trans e1⟩
    · obtain ⟨o', e1⟩ := I.base.there b o e hx
      exact ⟨o', (hs.2 b (Nat.ne_of_lt (Nat.lt_of_lt_of_le (Heap.lt_size e) (I.ok.cab x c hfn hc)))).trans e1⟩
    · by_cases hj : j = i
      · subst hj
        rw [hi] at e1; cases e1
        rw [List.getElem?_set_self hiσ] at e2
        cases e2
        exact ⟨u, r, .inr ⟨.inl hk, c, hc, hc'⟩⟩
      · rw [List.getElem?_set_ne (Ne.symm hj)] at e2
        obtain ⟨u', r', q⟩ := hl j y v' e1 e2 e3
        refine ⟨u', r', ?_⟩
        rcases q with q | ⟨k, c', e, z'⟩
        · exact .inl q
        · refine .inr ⟨k, c', e, z'.sameBut hs ?_⟩
          rintro rfl
          exact hj (nodup_ix hN e1 (I.ok.inj _ _ _ e hc ▸ hi))
    · by_cases hcc : c' = c
      · subst hcc; exact ⟨_, hc'⟩
      · obtain ⟨w2, z2⟩ := I.cell y c' e
        exact ⟨w2, z2.sameBut hs hcc⟩
    · obtain ⟨e, n, ne, nf, d⟩ := I.pin p hp
      refine ⟨(hs.2 p.1 ?_).trans e, n, ne, nf, d⟩
      intro q
      rw [q, hoc] at e
      have q' : oc = p.2 := Option.some.inj e
      exact d w' (by rw [← q']; exact hocd)
theorem store_ok {M : Model} {A : Around} {E : Value → Shared → Prop} {i : Nat} {x : Str} {v : V} {u : Value} {Q : Unit → Shared → Prop} (I : Inv X pins σ H s) (hN : X.N.Nodup) (hi : X.N[i]? = some x) (hx : Loc X.env.scope x) (r : RelV v u)
    (h : ∀ s', Inv X pins (σ.set i (some v)) H s' → Q () s') (hf : X.fn x = true ∨ X.env.scope.names.lookup x = some .local := by first | exact .inl rfl | exact .inr rfl | assumption) : wpAny M A (storeName X.env x u) Q E s :=
  store_ok2 I hN hi hx r (fun s' I' _ => h s' I') hf
theorem Inv.call' {s' : Shared} {ch : List Addr} (I : Inv X pins σ H s) (ho : s'.os = s.os) (u : Un (frs X.stack) ch H H' s.heap s'.heap) (hok : HOk X.prog X.w H' s'.heap) (hg : AllBare s'.gens)
    (hch : ∀ b ∈ ch, (b ∈ X.ex ∨ X.s₀.heap.objs.size ≤ b) ∧ b ≠ X.env.locals ∧ (∀ x c, X.env.cells.lookup x = some c → c ≠ b) ∧ ∀ p ∈ X.pn ++ pins, p.1 ≠ b) : Inv X pins σ H' s' := by
  obtain ⟨h', g', d', t', o'⟩ := s'
  have e : o' = s.os := ho
  subst e
  exact I.call (g' := g') (t' := t') (d' := d') u hok hg hch
end
abbrev XK := Value → Option Addr → Hp → Prop
abbrev St := List (Option V)
abbrev VK := V → Hp → Prop
abbrev TE := St → Hp → VK → Prop
abbrev TT := St → Hp → (Bool → Hp → Prop) → Prop
abbrev TA := St → Hp → (List V → Hp → Prop) → Prop
structure Ends where
  nx : St → Hp → Prop
  rt : VK
  bk : St → Hp → Prop := fun _ _ => False
  ct : St → Hp → Prop := fun _ _ => False
abbrev TS := Ends → St → Hp → Prop
def EP (X : Cx) (pins : List (Addr × Obj)) (σ : St) (Q : VK) (u : Value) (s' : Shared) : Prop := ∃ v H', Inv X pins σ H' s' ∧ RelV v u ∧ Q v H'
def TP (X : Cx) (pins : List (Addr × Obj)) (σ : St) (Q : Bool → Hp → Prop) (b : Bool) (s' : Shared) : Prop := ∃ H', Inv X pins σ H' s' ∧ Q b H'
def AP (X : Cx) (pins : List (Addr × Obj)) (σ : St) (Q : List V → Hp → Prop) (us : List Value) (s' : Shared) : Prop := ∃ vs H', Inv X pins σ H' s' ∧ Vals vs us ∧ Q vs H'
def SP (X : Cx) (pins : List (Addr × Obj)) (D : Ends) (f : Flow) (s' : Shared) : Prop :=
  match f with
  | .next => ∃ σ' H', Inv X pins σ' H' s' ∧ D.nx σ' H'
  | .brk => ∃ σ' H', Inv X pins σ' H' s' ∧ D.bk σ' H'
  | .cont => ∃ σ' H', Inv X pins σ' H' s' ∧ D.ct σ' H'
  | .ret u => ∃ v σ' H', Inv X pins σ' H' s' ∧ RelV v u ∧ D.rt v H'
def PE (X : Cx) (e : Expr) (t : TE) : Prop :=
  ∀ (pins : List (Addr × Obj)) (s : Shared) (σ : St) (H : Hp) (Q : VK), Inv X pins σ H s → t σ H Q → wpAny (model X.prog X.w) X.A (eval e X.env) (EP X pins σ Q) X.xe s
def PT (X : Cx) (e : Expr) (t : TT) : Prop :=
  ∀ (pins : List (Addr × Obj)) (s : Shared) (σ : St) (H : Hp) (Q : Bool → Hp → Prop), Inv X pins σ H s → t σ H Q → wpAny (model X.prog X.w) X.A (isTrue e X.env (eval e X.env)) (TP X pins σ Q) X.xe s
def PW (X : Cx) (e : Expr) (t : TT) : Prop :=
  ∀ (whole : Sem Value) (pins : List (Addr × Obj)) (s : Shared) (σ : St) (H : Hp) (Q : Bool → Hp → Prop), Inv X pins σ H s → t σ H Q → wpAny (model X.prog X.w) X.A (isTrue e X.env whole) (TP X pins σ Q) X.xe s
theorem PW.pt {X : Cx} {e : Expr} {t : TT} (h : PW X e t) : PT X e t := h _
def PA (X : Cx) (es : List Expr) (t : TA) : Prop :=
  ∀ (pos : Pos) (pins : List (Addr × Obj)) (s : Shared) (σ : St) (H : Hp) (Q : List V → Hp → Prop), Inv X pins σ H s → t σ H Q → wpAny (model X.prog X.w) X.A (spliced (backTo pos (starEach es X.env))) (AP X pins σ Q) X.xe s
def PS (X : Cx) (st : Stmt) (t : TS) : Prop :=
  ∀ (pins : List (Addr × Obj)) (s : Shared) (σ : St) (H : Hp) (D : Ends), Inv X pins σ H s → t D σ H → wpAny (model X.prog X.w) X.A (exec st X.env) (SP X pins D) X.xe s
def PSs (X : Cx) (st : List Stmt) (t : TS) : Prop :=
  ∀ (pins : List (Addr × Obj)) (s : Shared) (σ : St) (H : Hp) (D : Ends), Inv X pins σ H s → t D σ H → wpAny (model X.prog X.w) X.A (execs st X.env) (SP X pins D) X.xe s
theorem thn {α : Type} {t : Sem α} {Q Q' : α → Shared → Prop} {M : Model} {A : Around} {E : Value → Shared → Prop} {s : Shared} (h : wpAny M A t Q E s) (hQ : ∀ a s, Q a s → Q' a s) : wpAny M A t Q' E s := wpAny_mono h hQ fun _ _ x => x
end L2
namespace L2
open PySem PySem.Spec PyProof.Rows
section
variable {X : Cx}
def tVar (i : Nat) : TE := fun σ H Q => ∃ v, σ[i]? = some (some v) ∧ Q v H
def tC (v : V) : TE := fun _ H Q => Q v H
theorem pe_var {i : Nat} {x : Str} {pos : Pos} (hN : X.N[i]? = some x) (hv : Vis X.env.scope x) (hd : (x == ("__debug__" : Str)) = false := by decide) (hcd : (x == ("__classdict__" : Str)) = false := by decide) : PE X (.Name x pos) (tVar i) := by
  intro pins s σ H Q I h
  obtain ⟨v, e, h⟩ := h
  obtain ⟨m, hn, hl⟩ := I.loc
  obtain ⟨u, r, l⟩ := hl i x v hN e hv
  have fin : EP X pins σ Q u s := ⟨v, H, I, r, h⟩
  rcases l with ⟨hk, hm⟩ | ⟨hk, c, hc, hcell⟩
  · exact wpAny_Name (wpAny_loadName_local I.ok.kind hk hn hm fin) hd
  · rcases hk with hk | hk
    · exact wpAny_Name (wpAny_loadName_cell I.ok.kind hk hc hcell fin) hd
    · exact wpAny_Name (wpAny_loadName_free I.ok.kind hk hc hcell fin hcd) hd
theorem pe_int {i j pos} : PE X (.Constant (.int i) j pos) (tC (.int i)) := fun _ _ _ H _ I h => wpAny_Constant_int ⟨.int i, H, I.tok _, ⟨_, rfl⟩, h⟩
theorem pe_bl {b j pos} : PE X (.Constant (.bool b) j pos) (tC (.bl b)) := fun _ _ _ H _ I h => Constant_bool ⟨.bl b, H, I, rfl, h⟩
theorem pe_non {j pos} : PE X (.Constant .none j pos) (tC .non) := fun _ _ _ H _ I h => Constant_none ⟨.non, H, I, rfl, h⟩
theorem pe_str {x j pos} : PE X (.Constant (.str x) j pos) (tC (.str x)) := fun _ _ _ H _ I h => Calls.Constant_str ⟨.str x, H, I.tok _, ⟨_, rfl⟩, h⟩
def Gl (X : Cx) (x : Str) : Prop := X.env.kindOf x = some .globalImplicit
theorem ld_glob {E : Value → Shared → Prop} {pins : List (Addr × Obj)} {s : Shared} {σ : St} {H : Hp} {x : Str} {u : Value} {pos : Pos} {Q : Value → Shared → Prop} (I : Inv X pins σ H s) (hg : Gl X x) (hm : X.mg x = some u) (h : Q u s)
    (hd : (x == ("__debug__" : Str)) = false := by decide) : wpAny (model X.prog X.w) X.A (eval (.Name x pos) X.env) Q E s :=
  Calls.Name_function_global I.ok.kind hg (Calls.loadGlobal_global (by rw [I.ok.glob]; exact I.mod.glob.keeps I.bk) hm h) hd
theorem ld_blt {E : Value → Shared → Prop} {pins : List (Addr × Obj)} {s : Shared} {σ : St} {H : Hp} {x : Str} {u : Value} {pos : Pos} {Q : Value → Shared → Prop} (I : Inv X pins σ H s) (hg : Gl X x) (hm : X.mg x = none) (hv : bootBuiltins x = some u) (h : Q u s)
    (hn : x ≠ "__name__" := by decide) (hd : (x == ("__debug__" : Str)) = false := by decide) : wpAny (model X.prog X.w) X.A (eval (.Name x pos) X.env) Q E s := by
  obtain ⟨mb, h1, h2⟩ := I.mod.blt
  exact Calls.Name_function_global I.ok.kind hg (Calls.loadGlobal_builtin (by rw [I.ok.glob]; exact I.mod.glob.keeps I.bk) hm (by rw [I.ok.blt]; exact h1.keeps I.bk) ((h2 x hn).trans hv) h) hd
theorem pe_glob {x : Str} {v : V} {u : Value} {pos : Pos} (hg : Gl X x) (hm : X.mg x = some u) (r : RelV v u) (hd : (x == ("__debug__" : Str)) = false := by decide) : PE X (.Name x pos) (tC v) :=
  fun _ _ _ H _ I h => ld_glob I hg hm ⟨v, H, I, r, h⟩ hd
theorem pe_bltn {x : Str} {v : V} {u : Value} {pos : Pos} (hg : Gl X x) (hm : X.mg x = none) (hv : bootBuiltins x = some u) (r : RelV v u) (hn : x ≠ "__name__" := by decide) (hd : (x == ("__debug__" : Str)) = false := by decide) : PE X (.Name x pos) (tC v) :=
  fun _ _ _ H _ I h => ld_blt I hg hm hv ⟨v, H, I, r, h⟩ hn hd
variable {a b : Expr} {ta tb : TE} {pos : Pos}
def tB (t : TE) : TT := fun σ H Q => t σ H fun x H1 => ∃ c, x = .bl c ∧ Q c H1
theorem pt_val {e : Expr} {t : TE} (h : PE X e t) (he : ∀ whole, isTrue e X.env whole = (do let v ← whole; standAt e.pos; holding [v] (truthy v)) := by intro _; rfl) : PT X e (tB t) := by
  intro pins s σ H Q I hw
  refine isTrue_plain (thn (h pins s σ H _ I hw) fun v s1 ⟨x, H1, I1, r1, q1⟩ => ?_) (he _)
  obtain ⟨d, rfl, q⟩ := q1
  cases r1
  exact wpAny_truthy_bool ⟨H1, I1, q⟩
variable {tA tB' : TT} {rest : List Expr}
def tAnd (t u : TT) : TT := fun σ H Q => t σ H fun c H1 => if c = true then u σ H1 Q else Q false H1
def tOr (t u : TT) : TT := fun σ H Q => t σ H fun c H1 => if c = true then Q true H1 else u σ H1 Q
def tNot (t : TT) : TT := fun σ H Q => t σ H fun c H1 => Q (!c) H1
theorem pw_and1 (ha : PT X a tA) : PW X (.BoolOp .And [a] pos) tA := by
  intro wh pins s σ H Q I h
  refine isTrue_and (thn (ha pins s σ H Q I h) fun c s1 e => ?_)
  cases c with
  | true => exact isTrue_and_nil e
  | false => exact e
theorem pw_or1 (ha : PT X a tA) : PW X (.BoolOp .Or [a] pos) tA := by
  intro wh pins s σ H Q I h
  refine isTrue_or (thn (ha pins s σ H Q I h) fun c s1 e => ?_)
  cases c with
  | false => exact isTrue_or_nil e
  | true => exact e
theorem pw_and (ha : PT X a tA) (hb : PW X (.BoolOp .And (b :: rest) pos) tB') : PW X (.BoolOp .And (a :: b :: rest) pos) (tAnd tA tB') := by
  intro wh pins s σ H Q I h
  refine isTrue_and (thn (ha pins s σ H _ I h) fun c s1 ⟨H1, I1, q1⟩ => ?_)
  cases c with
  | true => exact hb wh pins s1 σ H1 Q I1 q1
  | false => exact ⟨H1, I1, q1⟩
theorem pw_or (ha : PT X a tA) (hb : PW X (.BoolOp .Or (b :: rest) pos) tB') : PW X (.BoolOp .Or (a :: b :: rest) pos) (tOr tA tB') := by
  intro wh pins s σ H Q I h
  refine isTrue_or (thn (ha pins s σ H _ I h) fun c s1 ⟨H1, I1, q1⟩ => ?_)
  cases c with
  | true => exact ⟨H1, I1, q1⟩
  | false => exact hb wh pins s1 σ H1 Q I1 q1
theorem pt_not (ha : PT X a tA) : PT X (.UnaryOp .Not a pos) (tNot tA) := by
  intro pins s σ H Q I h
  exact isTrue_not (ha pins s σ H (fun c H1 => Q (!c) H1) I h)
def tAndV (ta tb : TE) : TE := fun σ H Q => ta σ H fun x H1 => ∃ c, x = .bl c ∧ if c = true then tb σ H1 Q else Q (.bl false) H1
def tNotV (ta : TE) : TE := fun σ H Q => ta σ H fun x H1 => ∃ c, x = .bl c ∧ Q (.bl (!c)) H1
theorem pe_one {op} {t : TE} (h : PE X a t) : PE X (.BoolOp op [a] pos) t := fun pins s σ H Q I hw => BoolOp_one (h pins s σ H Q I hw)
theorem pe_and (ha : PE X a ta) (hb : PE X (.BoolOp .And (b :: rest) pos) tb) : PE X (.BoolOp .And (a :: b :: rest) pos) (tAndV ta tb) := by
  intro pins s σ H Q I h
  refine BoolOp_and (thn (ha pins s σ H _ I h) fun v s1 ⟨x, H1, I1, r1, q1⟩ => ?_)
  obtain ⟨c, rfl, q1⟩ := q1
  cases r1
  refine wpAny_truthy_bool ?_
  cases c with
  | true => exact hb pins s1 σ H1 Q I1 q1
  | false => exact ⟨.bl false, H1, I1, rfl, q1⟩
theorem pe_not (ha : PE X a ta) : PE X (.UnaryOp .Not a pos) (tNotV ta) := by
  intro pins s σ H Q I h
  refine UnaryOp_ (thn (ha pins s σ H _ I h) fun v s1 ⟨x, H1, I1, r1, q1⟩ => ?_)
  obtain ⟨c, rfl, q1⟩ := q1
  cases r1
  exact not_of (wpAny_truthy_bool ⟨.bl (!c), H1, I1, rfl, q1⟩)
end
end L2
namespace L2
open PySem PySem.Spec PyProof.Rows
def SqL (K : PySem.W.Frag) (H : Hp) (a : Addr) (xs : List V) : Prop :=
  Rd H a (.lst xs) ∨
    ∃ (o : Obj) (its : Array Value) (n : Nat), K.lookup a = some o ∧ o.cls = .type "list" ∧ o.dict = none ∧ o.data = .seq its n ∧ its.size ≤ sizeLine ∧ Vals xs its.toList
def SqT (K : PySem.W.Frag) (H : Hp) (a : Addr) (xs : List V) : Prop :=
  Rd H a (.tup xs) ∨
    ∃ (o : Obj) (its : Array Value) (n : Nat), K.lookup a = some o ∧ o.cls = .type "tuple" ∧ o.data = .seq its n ∧ its.size ≤ sizeLine ∧ Vals xs its.toList
def absV : Value → Option V
  | .none => some .non
  | .bool b => some (.bl b)
  | .int i _ => some (.int i)
  | .str x _ => some (.str x)
  | .bytes b _ => some (.byt b)
  | .float b _ => some (.flt b)
  | .ref a => some (.ref a)
  | .type n => some (.ty n)
  | _ => none
theorem RelV.abs {x : V} {u : Value} (r : RelV x u) : absV u = some x := by
  cases x with
  | non => cases r; rfl
  | bl _ => cases r; rfl
  | int _ => obtain ⟨t, rfl⟩ := r; rfl
  | str _ => obtain ⟨t, rfl⟩ := r; rfl
  | byt _ => obtain ⟨t, rfl⟩ := r; rfl
  | flt _ => obtain ⟨t, rfl⟩ := r; rfl
  | ref _ => cases r; rfl
  | ty _ => cases r; rfl
theorem RelV.inj {x y : V} {u : Value} (r : RelV x u) (q : RelV y u) : x = y := Option.some.inj (r.abs.symm.trans q.abs)
theorem Vals.inj : ∀ {xs ys : List V} {us : List Value}, Vals xs us → Vals ys us → xs = ys
  | _, _, _, .nil, .nil => rfl
  | _, _, _, .cons r t, .cons r' t' => by rw [r.inj r', Vals.inj t t']
section
variable {X : Cx} {pins : List (Addr × Obj)} {σ : St} {H : Hp} {s : Shared} {a : Addr} {xs ys : List V}
theorem SqL.of {K : PySem.W.Frag} (h : H a = some (.lst xs)) : SqL K H a xs := .inl (.inl h)
theorem SqT.of {K : PySem.W.Frag} (h : H a = some (.tup xs)) : SqT K H a xs := .inl (.inl h)
theorem Inv.list (I : Inv X pins σ H s) (h : SqL X.K H a xs) : ∃ its : List Value, Vals xs its ∧ PlainL s.heap a its.toArray ∧ xs.length ≤ sizeLine := by
  rcases h with h | ⟨o, its, n, hk, hc, hd, hs, hz, r⟩
  · obtain ⟨z, its, n, r, e⟩ := h.ok I.hok
    exact ⟨its, r, ⟨_, n, e, rfl, rfl, rfl⟩, z⟩
  · refine ⟨its.toList, r, ⟨o, n, I.kIn a o hk, hc, hd, by simpa using hs⟩, ?_⟩
    have e := r.length
    simp only [Array.length_toList] at e
    omega
theorem Inv.tuple (I : Inv X pins σ H s) (h : SqT X.K H a xs) : ∃ its : List Value, Vals xs its ∧ IsTup s.heap a its.toArray ∧ xs.length ≤ sizeLine := by
  rcases h with h | ⟨o, its, n, hk, hc, hs, hz, r⟩
  · obtain ⟨z, its, r, p⟩ := h.ok I.hok
    exact ⟨its, r, p, z⟩
  · refine ⟨its.toList, r, ⟨o, I.kIn a o hk, hc, n, by simpa using hs⟩, ?_⟩
    have e := r.length
    simp only [Array.length_toList] at e
    omega
theorem Inv.list_inj (I : Inv X pins σ H s) (h : SqL X.K H a xs) (h' : SqL X.K H a ys) : xs = ys := by
  obtain ⟨its, r, ⟨o, n, e, _, _, d⟩, _⟩ := I.list h
  obtain ⟨its', r', ⟨o', n', e', _, _, d'⟩, _⟩ := I.list h'
  rw [e] at e'; cases e'
  rw [d] at d'
  injection d' with d1 _
  have : its = its' := by simpa using congrArg Array.toList d1
  subst this
  exact r.inj r'
end
abbrev Cx.wish (X : Cx) (E : Value → Shared → Prop) : Cx := { X with xe := E }
abbrev Cx.nox (X : Cx) : Cx := X.wish fun _ _ => False
theorem Cx.Ok.wish {X : Cx} (ok : X.Ok) (E : Value → Shared → Prop) : (X.wish E).Ok :=
  ⟨ok.mod, ok.kind, ok.glob, ok.blt, ok.above, ok.inj, ok.has, ok.cab, ok.hd, ok.frames, ok.stk, ok.exf, ok.bs, ok.bsz, ok.noex, ok.exfs, ok.funs, ok.frf⟩
theorem Cx.Ok.unwish {X : Cx} {E : Value → Shared → Prop} (ok : (X.wish E).Ok) : X.Ok :=
  ⟨ok.mod, ok.kind, ok.glob, ok.blt, ok.above, ok.inj, ok.has, ok.cab, ok.hd, ok.frames, ok.stk, ok.exf, ok.bs, ok.bsz, ok.noex, ok.exfs, ok.funs, ok.frf⟩
section
variable {X : Cx} {pins : List (Addr × Obj)} {σ : St} {H : Hp} {s : Shared} {E : Value → Shared → Prop}
theorem Inv.wish (I : Inv X pins σ H s) (E : Value → Shared → Prop) : Inv (X.wish E) pins σ H s := ⟨I.ok.wish E, I.os, I.bare, I.base, I.loc, I.cell, I.free, I.freeC, I.pin, I.hok, I.len⟩
theorem Inv.unwish (I : Inv (X.wish E) pins σ H s) : Inv X pins σ H s := ⟨I.ok.unwish, I.os, I.bare, I.base, I.loc, I.cell, I.free, I.freeC, I.pin, I.hok, I.len⟩
theorem SP.unwish {D : Ends} {f : Flow} {s' : Shared} (h : SP (X.wish E) pins D f s') : SP X pins D f s' := by
  cases f with
  | next => obtain ⟨σ', H', I, q⟩ := h; exact ⟨σ', H', I.unwish, q⟩
  | brk => obtain ⟨σ', H', I, q⟩ := h; exact ⟨σ', H', I.unwish, q⟩
  | cont => obtain ⟨σ', H', I, q⟩ := h; exact ⟨σ', H', I.unwish, q⟩
  | ret u => obtain ⟨v, σ', H', I, r, q⟩ := h; exact ⟨v, σ', H', I.unwish, r, q⟩
theorem PSs.nox {st : List Stmt} {t : TS} (h : PSs X.nox st t) : PSs X st t := fun pins s σ H D I hw =>
  wpAny_mono (h pins s σ H D (I.wish _) hw) (fun _ _ q => q.unwish) fun _ _ z => False.elim z
end
section
variable {X : Cx} {st : Stmt} {rest : List Stmt} {t u : TS} {e : Expr} {te : TE} {pos : Pos}
def tNext : TS := fun D σ H => D.nx σ H
def tSeq (t u : TS) : TS := fun D σ H => t { D with nx := u D } σ H
theorem pss_nil : PSs X [] tNext := fun _ _ σ H _ I h => wpAny_execs_nil ⟨σ, H, I, h⟩
theorem pss_cons (h1 : PS X st t) (h2 : PSs X rest u) : PSs X (st :: rest) (tSeq t u) := by
  intro pins s σ H D I h
  refine wpAny_execs_cons (thn (h1 pins s σ H { D with nx := u D } I h) fun f s1 q => ?_)
  cases f with
  | next =>
    obtain ⟨σ', H', I', q⟩ := q
    exact h2 pins s1 σ' H' D I' q
  | ret v => exact q
  | brk => exact q
  | cont => exact q
theorem pss_one (h1 : PS X st t) : PSs X [st] t := by
  intro pins s σ H D I h
  refine wpAny_execs_cons (thn (h1 pins s σ H D I h) fun f s1 q => ?_)
  cases f with
  | next => exact wpAny_execs_nil q
  | ret v => exact q
  | brk => exact q
  | cont => exact q
theorem Inv.quiet {pins : List (Addr × Obj)} {σ : St} {H : Hp} {s : Shared} (I : Inv X pins σ H s) : interactive X.env = false := by simp [interactive, I.ok.kind]
def tDrop (te : TE) : TS := fun D σ H => te σ H fun _ H1 => D.nx σ H1
theorem ps_expr (he : PE X e te) (hs : swapsWith e none pos.line X.env = pure false := by rfl) : PS X (.Expr e pos) (tDrop te) := by
  intro pins s σ H D I h
  exact wpAny_Expr_any (thn (he pins s σ H _ I h) fun v s1 ⟨x, H1, I1, r1, q1⟩ => ⟨σ, H1, I1, q1⟩) I.quiet hs
def tRet (te : TE) : TS := fun D σ H => te σ H D.rt
theorem ps_ret (he : PE X e te) : PS X (.Return (some e) pos) (tRet te) := by
  intro pins s σ H D I h
  exact wpAny_Return_some (thn (he pins s σ H _ I h) fun v s1 ⟨x, H1, I1, r1, q1⟩ => ⟨x, σ, H1, I1, r1, q1⟩)
def tIfS (c : TT) (t u : TS) : TS := fun D σ H => c σ H fun b H1 => if b = true then t D σ H1 else u D σ H1
theorem ps_if {c : Expr} {a b : List Stmt} {tc : TT} (hc : PT X c tc) (ha : PSs X a t) (hb : PSs X b u) : PS X (.If c a b pos) (tIfS tc t u) := by
  intro pins s σ H D I h
  refine wpAny_If (thn (hc pins s σ H _ I h) fun d s1 ⟨H1, I1, q1⟩ => ?_)
  cases d with
  | true => exact ha pins s1 σ H1 D I1 q1
  | false => exact hb pins s1 σ H1 D I1 q1
end
abbrev TG := V → St → Hp → (St → Hp → Prop) → Prop
abbrev TGs := List V → St → Hp → (St → Hp → Prop) → Prop
def PG (X : Cx) (target : Expr) (t : TG) : Prop :=
  ∀ (pins : List (Addr × Obj)) (s : Shared) (σ : St) (H : Hp) (v : V) (u : Value) (Q : St → Hp → Prop), Inv X pins σ H s → RelV v u → t v σ H Q →
    wpAny (model X.prog X.w) X.A (assign target X.env u) (fun _ s' => ∃ σ' H', Inv X pins σ' H' s' ∧ Q σ' H') X.xe s
def PGs (X : Cx) (ts : List Expr) (t : TGs) : Prop :=
  ∀ (pins : List (Addr × Obj)) (s : Shared) (σ : St) (H : Hp) (vs : List V) (us : List Value) (Q : St → Hp → Prop), Inv X pins σ H s → Vals vs us → t vs σ H Q →
    wpAny (model X.prog X.w) X.A (assignInOrder ((assignEach ts X.env).map (·.2)) us) (fun _ s' => ∃ σ' H', Inv X pins σ' H' s' ∧ Q σ' H') X.xe s
abbrev TSet := V → V → V → Hp → (Hp → Prop) → Prop
def PSet (X : Cx) (t : TSet) : Prop :=
  ∀ (pins : List (Addr × Obj)) (s : Shared) (σ : St) (H : Hp) (o i v : V) (ov iv u : Value) (Q : Hp → Prop), Inv X pins σ H s → RelV o ov → RelV i iv → RelV v u → t o i v H Q →
    wpAny (model X.prog X.w) X.A (setItem ov iv u) (fun _ s' => ∃ H', Inv X pins σ H' s' ∧ Q H') X.xe s
abbrev TIp := V → V → Hp → VK → Prop
def PIp (X : Cx) (op : Operator) (t : TIp) : Prop :=
  ∀ (pins : List (Addr × Obj)) (s : Shared) (σ : St) (H : Hp) (x y : V) (v u : Value) (Q : VK), Inv X pins σ H s → RelV x v → RelV y u → t x y H Q →
    wpAny (model X.prog X.w) X.A (inplaceOp op v u) (EP X pins σ Q) X.xe s
section
variable {X : Cx} {pos : Pos}
def gName (i : Nat) : TG := fun v σ H Q => Q (σ.set i (some v)) H
theorem pg_name {i : Nat} {x : Str} (hN : X.N.Nodup) (hi : X.N[i]? = some x) (hx : Loc X.env.scope x) (hf : X.fn x = true ∨ X.env.scope.names.lookup x = some .local := by first | exact .inl rfl | exact .inr rfl | assumption) : PG X (.Name x pos) (gName i) := by
  intro pins s σ H v u Q I r h
  exact wpAny_assign_Name (store_ok I hN hi hx r (fun s' I' => ⟨_, H, I', h⟩) hf)
def gNil : TGs := fun vs σ H Q => vs = [] ∧ Q σ H
def gCons (t : TG) (u : TGs) : TGs := fun vs σ H Q => ∃ v r, vs = v :: r ∧ t v σ H fun σ' H' => u r σ' H' Q
theorem pgs_nil : PGs X [] gNil := by
  intro pins s σ H vs us Q I r h
  obtain ⟨e, h⟩ := h
  subst e
  cases r
  exact assignInOrder_nil ⟨σ, H, I, h⟩
theorem pgs_cons {e : Expr} {es : List Expr} {t : TG} {u : TGs} (h1 : PG X e t) (h2 : PGs X es u)
    (hs : (assignEach (e :: es) X.env).map (·.2) = assign e X.env :: (assignEach es X.env).map (·.2) := by rfl) : PGs X (e :: es) (gCons t u) := by
  intro pins s σ H vs us Q I r h
  obtain ⟨v, vr, e1, h⟩ := h
  subst e1
  cases r with
  | cons r rr =>
    rw [hs]
    refine assignInOrder_cons (thn (h1 pins s σ H _ _ _ I r h) fun _ s1 ⟨σ1, H1, I1, q1⟩ => ?_)
    exact h2 pins s1 σ1 H1 _ _ Q I1 rr q1
def gTup (K : PySem.W.Frag) (n : Nat) (t : TGs) : TG := fun v σ H Q => ∃ a xs, v = .ref a ∧ SqT K H a xs ∧ xs.length = n ∧ t xs σ H Q
theorem pg_tup {es : List Expr} {k : Nat} {t : TGs} {n : Nat} (hc : X.calm = true) (h : PGs X es t)
    (hn : (assignEach es X.env).length = n := by rfl) (hst : (assignEach es X.env).findIdx? (·.1) = none := by rfl) : PG X (.Tuple es k pos) (gTup X.K n t) := by
  intro pins s σ H v u Q I r hw
  obtain ⟨a, xs, e1, hq, hl, hw⟩ := hw
  subst e1
  cases r
  obtain ⟨its, rv, ht, hz⟩ := I.tuple hq
  refine assign_Tuple_tuple (I.ok.hd hc) ht (by simp [hn, ← hl, rv.length]) hst fun h' hx => ?_
  have I1 : Inv X pins σ H { s with heap := h' } := I.kept (t' := s.toks) fun b o e => hx b o (Nat.ne_of_lt (Heap.lt_size e)) e
  exact h pins _ σ H xs _ Q I1 (by simpa using rv) hw
def gSub (to ti : TE) (t : TSet) : TG := fun v σ H Q => to σ H fun o H1 => ti σ H1 fun i H2 => t o i v H2 fun H3 => Q σ H3
theorem pg_sub {o i : Expr} {to ti : TE} {t : TSet} (ho : PE X o to) (hi : PE X i ti) (hs : PSet X t)
    (ha : ∀ v, assign (.Subscript o i pos) X.env v = (do
      let ov ← holding [v] (eval o X.env)
      let iv ← holding [v, ov] (eval i X.env)
      standAt pos
      holding [v, ov, iv] (setItem ov iv v)
      release [v, ov, iv] []) := by intro _; rfl) : PG X (.Subscript o i pos) (gSub to ti t) := by
  intro pins s σ H v u Q I r h
  rw [ha]
  refine wpAny_bind (wpAny_holding (thn (ho pins s σ H _ I h) fun ov s1 ⟨x, H1, I1, r1, q1⟩ => ?_))
  refine wpAny_bind (wpAny_holding (thn (hi pins s1 σ H1 _ I1 q1) fun iv s2 ⟨y, H2, I2, r2, q2⟩ => ?_))
  refine wpAny_bind (wpAny_standAt (wpAny_bind (wpAny_holding (thn (hs pins s2 σ H2 x y v ov iv u _ I2 r1 r2 r q2) fun _ s3 ⟨H3, I3, q3⟩ => ?_))))
  exact wpAny_release ⟨σ, H3, I3, q3⟩
def tAsg (te : TE) (g : TG) : TS := fun D σ H => te σ H fun x H1 => g x σ H1 D.nx
theorem ps_asg {tg e : Expr} {te : TE} {g : TG} (he : PE X e te) (hg : PG X tg g) (hs : swapsWithSole [tg] e pos.line X.env = pure false := by rfl) (hw : swappedStores [tg] e X.env = pure none := by rfl)
    (h1 : (assignEach [tg] X.env).map (·.2) = [assign tg X.env] := by rfl) : PS X (.Assign [tg] e pos) (tAsg te g) := by
  intro pins s σ H D I h
  refine wpAny_Assign_stores (thn (he pins s σ H _ I h) fun v s1 ⟨x, H1, I1, r1, q1⟩ => ?_) hs hw
  rw [h1]
  exact thn (hg pins s1 σ H1 x v _ I1 r1 q1) fun _ s2 q => q
theorem ps_set {i : Nat} {x : Str} {e : Expr} {te : TE} {pos' : Pos} (hN : X.N.Nodup) (hi : X.N[i]? = some x) (hx : Loc X.env.scope x) (he : PE X e te) (hs : swapsWith e (some (.Name x pos')) pos.line X.env = pure false := by rfl) (hf : X.fn x = true ∨ X.env.scope.names.lookup x = some .local := by first | exact .inl rfl | exact .inr rfl | assumption) :
    PS X (.Assign [.Name x pos'] e pos) (tAsg te (gName i)) := by
  intro pins s σ H D I h
  refine wpAny_Assign_Name (thn (he pins s σ H _ I h) fun v s1 ⟨y, H1, I1, r1, q1⟩ => ?_) hs
  exact store_ok I1 hN hi hx r1 (fun s2 I2 => ⟨_, H1, I2, q1⟩) hf
def tAugS (to ti te : TE) (tget : V → V → Hp → VK → Prop) (tip : TIp) (tset : TSet) : TS := fun D σ H => to σ H fun o H1 => ti σ H1 fun i H2 => tget o i H2 fun x H3 => te σ H3 fun y H4 => tip x y H4 fun z H5 => tset o i z H5 fun H6 => D.nx σ H6
def PGet (X : Cx) (t : V → V → Hp → VK → Prop) : Prop :=
  ∀ (pins : List (Addr × Obj)) (s : Shared) (σ : St) (H : Hp) (o i : V) (ov iv : Value) (Q : VK), Inv X pins σ H s → RelV o ov → RelV i iv → t o i H Q →
    wpAny (model X.prog X.w) X.A (getItem ov iv) (EP X pins σ Q) X.xe s
theorem ps_augS {o i e : Expr} {to ti te : TE} {tget : V → V → Hp → VK → Prop} {tip : TIp} {tset : TSet} {op : Operator} {tpos : Pos} (ho : PE X o to) (hi : PE X i ti) (hg : PGet X tget) (he : PE X e te) (hp : PIp X op tip) (hs : PSet X tset)
    (ha : ∀ ov iv new, augStore i ov iv new = (do holding [new, ov, iv] (setItem ov iv new); release [new, ov, iv] []; pure .next) := by intros; rfl) : PS X (.AugAssign (.Subscript o i tpos) op e pos) (tAugS to ti te tget tip tset) := by
  intro pins s σ H D I h
  refine wpAny_AugAssign_SubscriptAny (thn (ho pins s σ H _ I h) fun ov s1 ⟨x1, H1, I1, r1, q1⟩ => ?_) ha
  refine thn (hi pins s1 σ H1 _ I1 q1) fun iv s2 ⟨x2, H2, I2, r2, q2⟩ => ?_
  refine thn (hg pins s2 σ H2 x1 x2 ov iv _ I2 r1 r2 q2) fun old s3 ⟨x3, H3, I3, r3, q3⟩ => ?_
  refine thn (he pins s3 σ H3 _ I3 q3) fun v s4 ⟨x4, H4, I4, r4, q4⟩ => ?_
  refine thn (hp pins s4 σ H4 x3 x4 old v _ I4 r3 r4 q4) fun new s5 ⟨x5, H5, I5, r5, q5⟩ => ?_
  exact thn (hs pins s5 σ H5 x1 x2 x5 ov iv new _ I5 r1 r2 r5 q5) fun _ s6 ⟨H6, I6, q6⟩ => ⟨σ, H6, I6, q6⟩
def ipI (f : Int → Int → Int) : TIp := fun x y H Q => ∃ i j, x = .int i ∧ y = .int j ∧ Q (.int (f i j)) H
theorem ip_add : PIp X .Add (ipI fun i j => i + j) := by
  intro pins s σ H x y v u Q I r1 r2 h
  obtain ⟨i, j, e1, e2, q⟩ := h
  subst e1; subst e2
  obtain ⟨t, rfl⟩ := r1
  obtain ⟨t', rfl⟩ := r2
  exact iadd_int ⟨.int _, H, I.tok _, ⟨_, rfl⟩, q⟩
end
section
variable {X : Cx} {pos : Pos}
end
structure It where
  go : Nat → Hp → Prop
  yld : Nat → Hp → V → Hp → Prop
  stop : Nat → Hp → Prop
def FpOk (X : Cx) (pins : List (Addr × Obj)) (H : Hp) (b : Addr) : Prop :=
  H b = none ∧ b ≠ X.env.locals ∧ b ∉ X.fs ∧ (b ∈ X.ex ∨ X.s₀.heap.objs.size ≤ b) ∧ (∀ x c, X.env.cells.lookup x = some c → c ≠ b) ∧ ∀ p ∈ X.pn ++ pins, p.1 ≠ b
theorem Inv.fpOk {X : Cx} {pins : List (Addr × Obj)} {σ : St} {H H' : Hp} {s : Shared} {b : Addr} (I : Inv X pins σ H s) (hb : s.heap.objs.size ≤ b) (hn : H' b = none) : FpOk X pins H' b := by
  refine ⟨hn, Nat.ne_of_gt (Nat.lt_of_lt_of_le I.lt hb), I.nofs hb, .inr (Nat.le_trans I.sz hb), fun x c e z => ?_, fun p hp z => ?_⟩
  · obtain ⟨v, q⟩ := I.cell x c e
    exact absurd (Nat.lt_of_lt_of_le q.lt (by rw [z]; exact hb)) (Nat.lt_irrefl _)
  · exact absurd (Nat.lt_of_lt_of_le (Heap.lt_size (I.pin p hp).1) (by rw [z]; exact hb)) (Nat.lt_irrefl _)
structure Turn (P : Program) (w : World) (K : PySem.W.Frag) (tg : Expr) (J : It) (fp : List Addr) (it : Addr) (tn : Nat → Heap → Prop) : Prop where
  mem : it ∈ fp
  obj : ∀ i h, tn i h → ∀ b ∈ fp, ∃ o, h.get? b = some o ∧ ∀ v, o.data ≠ .cell v
  keep : ∀ i h h', tn i h → (∀ b ∈ fp, ∀ o, h.get? b = some o → h'.get? b = some o) → tn i h'
  item : ∀ (X : Cx), X.prog = P → X.w = w → X.K = K → X.calm = true → ∀ (i : Nat) (pins : List (Addr × Obj)) (s : Shared) (σ : St) (H : Hp) (E : Value → Shared → Prop), Inv X pins σ H s → (∀ b ∈ fp, FpOk X pins H b) → tn i s.heap → J.go i H →
    wpAny (model P w) X.A (pyNext (.ref it)) (fun r s1 => ∃ u, r = some u ∧
      wpAny (model P w) X.A (letOwnedTupleGo tg (.ref it) u) (fun _ s2 => ∃ x H', Inv X pins σ H' s2 ∧ RelV x u ∧ J.yld i H x H' ∧ tn (i + 1) s2.heap ∧ ∀ b ∈ fp, H' b = none) E s1) E s
  done : ∀ (X : Cx), X.prog = P → X.w = w → X.K = K → X.calm = true → ∀ (i : Nat) (pins : List (Addr × Obj)) (s : Shared) (σ : St) (H : Hp) (E : Value → Shared → Prop), Inv X pins σ H s → (∀ b ∈ fp, FpOk X pins H b) → tn i s.heap → J.stop i H →
    wpAny (model P w) X.A (pyNext (.ref it)) (fun r s1 => r = none ∧ Inv X pins σ H s1) E s
  self : ∀ (A : Around) (i : Nat) (s : Shared) (Q : Value → Shared → Prop) (E : Value → Shared → Prop), tn i s.heap → Q (.ref it) s → wpAny (model P w) A (pyIter (.ref it)) Q E s
abbrev TI := St → Hp → (It → Hp → Prop) → Prop
def PIE (X : Cx) (pins : List (Addr × Obj)) (σ : St) (tg : Expr) (R : It → Hp → Prop) (itv : Value) (s2 : Shared) : Prop :=
  ∃ (it : Addr) (fp : List Addr) (tn : Nat → Heap → Prop) (J : It) (H' : Hp), itv = .ref it ∧ Inv X pins σ H' s2 ∧ Turn X.prog X.w X.K tg J fp it tn ∧ tn 0 s2.heap ∧ (∀ b ∈ fp, FpOk X pins H' b) ∧ R J H'
def PI (X : Cx) (tg iter : Expr) (wi : TI) : Prop :=
  ∀ (pins : List (Addr × Obj)) (s : Shared) (σ : St) (H : Hp) (R : It → Hp → Prop), Inv X pins σ H s → wi σ H R →
    wpAny (model X.prog X.w) X.A (eval iter X.env) (fun v s1 => wpAny (model X.prog X.w) X.A (pyIter v) (PIE X pins σ tg R) X.xe s1) X.xe s
theorem go_of {M : Model} {A : Around} {E : Value → Shared → Prop} {s : Shared} {tg : Expr} {it : Addr} {u : Value} {o : Obj} {n : String} {vs : Array Value} {Q : Unit → Shared → Prop} (ho : s.heap.get? it = some o) (hc : o.cls = .type n) (hd : o.data = .fields vs)
    (hn : ["enumerate", "zip", "dict_itemiterator", "dict_reverseitemiterator", "odict_iterator", "itertools.zip_longest", "itertools.pairwise"].contains n = false) (hQ : Q () s) : wpAny M A (letOwnedTupleGo tg (.ref it) u) Q E s := by
  unfold letOwnedTupleGo
  cases tg <;> first
    | exact wpAny_pure hQ
    | (cases u <;> first
        | exact wpAny_pure hQ
        | (refine wpAny_bind (wpAny_load ho ?_)
           rw [hc, hd]
           show wpAny M A (if (["enumerate", "zip", "dict_itemiterator", "dict_reverseitemiterator", "odict_iterator", "itertools.zip_longest", "itertools.pairwise"].contains n && vs[0]? == some (rawInt _)) = true then _ else _) Q E s
           rw [if_neg (by intro h; rw [hn, Bool.false_and] at h; cases h)]
           exact wpAny_pure hQ))
def Itl (K : PySem.W.Frag) (a : Addr) : It :=
  ⟨fun i H => ∃ xs x, SqL K H a xs ∧ xs[i]? = some x, fun i H x H' => H' = H ∧ ∀ xs, SqL K H a xs → xs[i]? = some x, fun i H => ∃ xs, SqL K H a xs ∧ xs.length ≤ i⟩
def Itr (lo : Int) (n : Nat) : It := ⟨fun i _ => i < n, fun i H x H' => H' = H ∧ x = .int (lo + i), fun i _ => n ≤ i⟩
theorem turn_list {P : Program} {w : World} {K : PySem.W.Frag} {tg : Expr} (a it : Addr) : Turn P w K tg (Itl K a) [it] it (fun i h => h.IsListIter it a i) where
  mem := by simp
  obj := fun i h st b hb => by
    have e : b = it := by simpa using hb
    subst e
    obtain ⟨o, e, c, d⟩ := st
    exact ⟨o, e, fun v z => by rw [d] at z; cases z⟩
  keep := fun i h h' st k => st.at fun o e => k it (by simp) o e
  item := by
    intro X hP hw hK hc i pins s σ H E I hf st hg
    subst hP hw hK
    obtain ⟨xs, x, hq, hx⟩ := hg
    obtain ⟨its, rv, p, hz⟩ := I.list hq
    obtain ⟨u, hu, ru⟩ := rv.get hx
    obtain ⟨f0, f1, f2, f3, f4, f5⟩ := hf it (by simp)
    refine wpAny_pyNext_list_item st p.isList (x := u) (by simpa using hu) fun h' st' sb => ?_
    have I1 : Inv X pins σ H { s with heap := h' } := I.turned (t' := s.toks) (fun b o hb e => (sb.2 b hb).trans e) f0 f1 f3 f4 f5
    obtain ⟨o, e, c, d⟩ := id st'
    exact ⟨u, rfl, go_of (s := { s with heap := h' }) e c d (by decide) ⟨x, H, I1, ru, ⟨rfl, fun ys hy => by rw [I.list_inj hy hq]; exact hx⟩, st', fun b hb => (hf b hb).1⟩⟩
  done := by
    intro X hP hw hK hc i pins s σ H E I hf st hg
    subst hP hw hK
    obtain ⟨xs, hq, hx⟩ := hg
    obtain ⟨its, rv, p, hz⟩ := I.list hq
    obtain ⟨f0, f1, f2, f3, f4, f5⟩ := hf it (by simp)
    have hl := rv.length
    exact wpAny_pyNext_list_end (I.ok.hd hc) st p.isList (by simp; omega) fun h' eb => ⟨rfl, I.turned (t' := s.toks) (fun b o hb e => eb b o hb e) f0 f1 f3 f4 f5⟩
  self := fun _ _ _ _ _ st h => wpAny_pyIter_listiter st h
theorem turn_range {P : Program} {w : World} {K : PySem.W.Frag} {tg : Expr} (it : Addr) (lo : Int) (n : Nat) : Turn P w K tg (Itr lo n) [it] it (fun i h => IsRangeIter h it (lo + (i : Nat) * 1) ((n : Int) - (i : Nat)) 1) where
  mem := by simp
  obj := fun i h st b hb => by
    have e : b = it := by simpa using hb
    subst e
    exact ⟨_, st, fun v z => by
      have z' : Data.fields _ = Data.cell v := z
      cases z'⟩
  keep := fun i h h' st k => k it (by simp) _ st
  item := by
    intro X hP hw hK hc i pins s σ H E I hf st hg
    subst hP hw hK
    obtain ⟨f0, f1, f2, f3, f4, f5⟩ := hf it (by simp)
    have W := Walks.range (prog := X.prog) (w := X.w) (I.ok.hd hc) it lo 1 n
    refine W.item i s _ _ hg st fun v h' tk hv st' kk => ?_
    obtain ⟨t, rfl⟩ := hv
    have I1 : Inv X pins σ H { s with heap := h', toks := tk } := I.turned (fun b o hb e => kk b o (by simpa using hb) e) f0 f1 f3 f4 f5
    refine ⟨_, rfl, go_of (s := { s with heap := h', toks := tk }) (n := "range_iterator") st' rfl rfl (by decide) ⟨.int (lo + i), H, I1, ⟨t, ?_⟩, ⟨rfl, rfl⟩, st', fun b hb => (hf b hb).1⟩⟩
    rw [Int.mul_one]
  done := by
    intro X hP hw hK hc i pins s σ H E I hf st hg
    subst hP hw hK
    obtain ⟨f0, f1, f2, f3, f4, f5⟩ := hf it (by simp)
    exact wpAny_pyNext_range_end (I.ok.hd hc) st (by have : n ≤ i := hg; omega) fun h' eb => ⟨rfl, I.turned (t' := s.toks) (fun b o hb e => eb b o hb e) f0 f1 f3 f4 f5⟩
  self := fun _ _ _ _ _ st h => wpAny_pyIter_rangeiter st h
end L2
namespace L2
open PySem PySem.Spec PyProof.Rows
section
variable {X : Cx} {tg : Expr}
def iList (K : PySem.W.Frag) (tl : TE) : TI := fun σ H R => tl σ H fun x H1 => ∃ a, x = .ref a ∧ (∃ xs, SqL K H1 a xs) ∧ R (Itl K a) H1
theorem pi_list {l : Expr} {tl : TE} (hl : PE X l tl) : PI X tg l (iList X.K tl) := by
  intro pins s σ H R I h
  refine thn (hl pins s σ H _ I h) fun v s1 ⟨x, H1, I1, r1, q1⟩ => ?_
  obtain ⟨a, e, ⟨xs, hq⟩, q⟩ := q1
  subst e
  cases r1
  obtain ⟨its, rv, p, hz⟩ := I1.list hq
  refine wpAny_pyIter_list p.isList ?_
  refine ⟨s1.heap.objs.size, [s1.heap.objs.size], _, _, H1, rfl, I1.kept (t' := s1.toks) fun b o e => Heap.get?_push_of_some _ e, turn_list a _, ⟨_, Heap.get?_push_size _ rfl, rfl, rfl⟩, fun b hb => ?_, q⟩
  have e : b = s1.heap.objs.size := by simpa using hb
  subst e
  exact I1.fpOk (Nat.le_refl _) (I1.hok.fresh (Nat.le_refl _))
theorem range_it {pins : List (Addr × Obj)} {σ : St} {H : Hp} {s : Shared} {R : It → Hp → Prop} {E : Value → Shared → Prop} {lo hi : Int} {t u v : Tok} {tk : Nat} (I : Inv X pins σ H s) (h1 : -(2 ^ 62) ≤ lo) (h2 : lo < 2 ^ 62) (h3 : -(2 ^ 62) ≤ hi) (h4 : hi < 2 ^ 62)
    (q : R (Itr lo (hi - lo).toNat) H) : wpAny (model X.prog X.w) X.A (pyIter (.ref s.heap.objs.size)) (PIE X pins σ tg R) E { s with heap := s.heap.push { cls := .type "range", data := .fields #[.int lo t, .int hi u, .int 1 v] }, toks := tk } := by
  refine wpAny_pyIter_range (IsRange.new ..) (small_one h1 h2 h3 h4) ?_
  have I1 : Inv X pins σ H { s with heap := s.heap.push { cls := .type "range", data := .fields #[.int lo t, .int hi u, .int 1 v] }, toks := tk } := I.kept fun b o e => Heap.get?_push_of_some _ e
  refine ⟨(s.heap.push { cls := .type "range", data := .fields #[.int lo t, .int hi u, .int 1 v] }).objs.size, [(s.heap.push { cls := .type "range", data := .fields #[.int lo t, .int hi u, .int 1 v] }).objs.size], _, _, H, rfl,
    I1.kept (t' := tk) fun b o e => Heap.get?_push_of_some _ e, turn_range _ lo (hi - lo).toNat, ?_, fun b hb => ?_, q⟩
  · have e1 : lo + ((0 : Nat) : Int) * 1 = lo := by simp
    have e2 : (((hi - lo).toNat : Nat) : Int) - ((0 : Nat) : Int) = Builtin.Range.rangeSize lo hi 1 := by rw [rangeSize_one]; split <;> omega
    show IsRangeIter _ _ (lo + ((0 : Nat) : Int) * 1) ((((hi - lo).toNat : Nat) : Int) - ((0 : Nat) : Int)) 1
    rw [e1, e2]
    exact Heap.get?_push_size _ rfl
  · have e : b = (s.heap.push { cls := .type "range", data := .fields #[.int lo t, .int hi u, .int 1 v] }).objs.size := by simpa using hb
    subst e
    exact I1.fpOk (Nat.le_refl _) (I1.hok.fresh (Nat.le_refl _))
def iRng1 (ta : TA) : TI := fun σ H R => ta σ H fun vs H1 => ∃ j : Int, vs = [.int j] ∧ -(2 ^ 62) ≤ j ∧ j < 2 ^ 62 ∧ R (Itr 0 j.toNat) H1
theorem pi_range1 {a : Expr} {ta : TA} {p pos : Pos} (hg : Gl X "range") (hm : X.mg "range" = none) (ha : PA X [a] ta) (hs : starEach [a] X.env = [(false, eval a X.env)] := by rfl) : PI X tg (.Call (.Name "range" p) [a] [] pos) (iRng1 ta) := by
  intro pins s σ H R I h
  refine Call_ (ld_blt I hg hm boot_range (PyProof.Rows.callWith_type1 (thn (ha pos pins s σ H _ I h) fun us s1 ⟨vs, H1, I1, r1, q1⟩ => ?_) hs rfl))
  obtain ⟨j, e, q1, q2, q⟩ := q1
  subst e
  cases r1 with
  | cons r rr =>
    cases rr
    obtain ⟨t, rfl⟩ := r
    exact call_range_1 (range_it I1 (by omega) (by omega) q1 q2 (by simpa using q))
def tFor (wi : TI) (g : TG) (tb : TS) : TS := fun D σ H => wi σ H fun J H1 => ∃ W : Nat → Nat → St → Hp → Prop, (∃ m, W 0 m σ H1) ∧ ∀ i m σ H, W i m σ H →
  (J.stop i H ∧ D.nx σ H) ∨ (J.go i H ∧ ∃ N : St → Hp → Prop, (∀ σ' H', N σ' H' → ∃ m', m' < m ∧ W (i + 1) m' σ' H') ∧ ∀ x H', J.yld i H x H' → g x σ H' fun σ2 H2 => tb { D with nx := N, ct := N, bk := D.nx } σ2 H2)
def pinsAt (fp : List Addr) (h : Heap) : List (Addr × Obj) := fp.filterMap fun b => (h.get? b).map fun o => (b, o)
theorem mem_pinsAt {fp : List Addr} {h : Heap} {b : Addr} {o : Obj} (hb : b ∈ fp) (e : h.get? b = some o) : (b, o) ∈ pinsAt fp h := List.mem_filterMap.mpr ⟨b, hb, by rw [e]; rfl⟩
theorem of_pinsAt {fp : List Addr} {h : Heap} {p : Addr × Obj} (hp : p ∈ pinsAt fp h) : p.1 ∈ fp ∧ h.get? p.1 = some p.2 := by
  obtain ⟨b, hb, e⟩ := List.mem_filterMap.mp hp
  cases q : h.get? b with
  | none => rw [q] at e; cases e
  | some o =>
    rw [q] at e
    have e' : (b, o) = p := Option.some.inj e
    subst e'
    exact ⟨hb, q⟩
theorem Inv.pinned {pins : List (Addr × Obj)} {σ : St} {H : Hp} {s : Shared} {fp : List Addr} (I : Inv X pins σ H s) (hf : ∀ b ∈ fp, FpOk X pins H b) (ho : ∀ b ∈ fp, ∃ o, s.heap.get? b = some o ∧ ∀ v, o.data ≠ .cell v) : Inv X (pins ++ pinsAt fp s.heap) σ H s :=
  I.pins_of fun p hp => (List.mem_append.mp hp).elim (fun z => I.pin p (List.mem_append_right _ z)) fun z => by
    obtain ⟨hb, e⟩ := of_pinsAt z
    obtain ⟨f0, f1, f2, _⟩ := hf p.1 hb
    obtain ⟨o, e', d⟩ := ho p.1 hb
    rw [e] at e'; cases e'
    exact ⟨e, f0, f1, f2, d⟩
theorem Inv.unpinned {pins pl : List (Addr × Obj)} {σ : St} {H : Hp} {s : Shared} (I : Inv X (pins ++ pl) σ H s) : Inv X pins σ H s := I.pins_of fun p hp => I.pin p (List.mem_append_right _ (List.mem_append_left _ hp))
theorem ps_for {iter : Expr} {body : List Stmt} {wi : TI} {g : TG} {tb : TS} {pos : Pos} (hp : PassesOwn (model X.prog X.w) X.A X.env X.xe) (hc : X.calm = true) (hi : PI X tg iter wi) (hg : PG X tg g) (hb : PSs X body tb)
    (hs : ∀ x, foldedSetIterable iter X.env x = pure x := by intro _; rfl) : PS X (.For tg iter body [] pos) (tFor wi g tb) := by
  intro pins s σ H D I h
  refine wpAny_For (thn (hi pins s σ H _ I h) fun v s1 h1 => thn h1 fun itv s2 h2 => ?_) hs
  obtain ⟨it, fp, tn, J, H2, e, I2, T, st2, f2, W, ⟨m0, w0⟩, turn⟩ := h2
  subst e
  have stat : ∀ {H' : Hp}, (∀ b ∈ fp, H' b = none) → ∀ b ∈ fp, FpOk X pins H' b := fun hn b hb => ⟨hn b hb, (f2 b hb).2⟩
  refine codeAny_forLoop_any (fun n s' => ∃ i σ' H', Inv X pins σ' H' s' ∧ tn i s'.heap ∧ (∀ b ∈ fp, H' b = none) ∧ W i n σ' H') ?_ m0 ⟨0, σ, H2, I2, st2, fun b hb => (f2 b hb).1, w0⟩
  rintro n s3 ⟨i, σ3, H3, I3, st3, fr3, w3⟩
  rcases turn i n σ3 H3 w3 with ⟨stop, qn⟩ | ⟨go, N, hN, step⟩
  · refine wpAny_passesOwn hp (thn (T.done X rfl rfl rfl hc i pins s3 σ3 H3 X.xe I3 (stat fr3) st3 stop) fun r s4 ⟨hr, I4⟩ => ?_)
    subst hr
    exact wpAny_execs_nil ⟨σ3, H3, I4, qn⟩
  · refine wpAny_passesOwn hp (thn (T.item X rfl rfl rfl hc i pins s3 σ3 H3 X.xe I3 (stat fr3) st3 go) fun r s4 ⟨u, hr, h4⟩ => ?_)
    subst hr
    refine wpAny_passesOwn hp (thn h4 fun _ s5 ⟨x, H5, I5, r5, y5, st5, fr5⟩ => ?_)
    have I5' := I5.pinned (stat fr5) (T.obj _ _ st5)
    refine wpAny_passesOwn hp (thn (hg _ s5 σ3 H5 x u _ I5' r5 (step x H5 y5)) fun _ s6 ⟨σ6, H6, I6, q6⟩ => ?_)
    refine wpAny_passesOwn hp (thn (hb _ s6 σ6 H6 _ I6 q6) fun f s7 q7 => ?_)
    have again : ∀ {σ7 : St} {H7 : Hp}, Inv X (pins ++ pinsAt fp s5.heap) σ7 H7 s7 → N σ7 H7 → ∃ m, m < n ∧ ∃ i σ' H', Inv X pins σ' H' s7 ∧ tn i s7.heap ∧ (∀ b ∈ fp, H' b = none) ∧ W i m σ' H' := fun {σ7 H7} I7 n7 => by
      obtain ⟨m', hm, w7⟩ := hN σ7 H7 n7
      refine ⟨m', hm, i + 1, σ7, H7, I7.unpinned, T.keep _ _ _ st5 fun b hb o e => (I7.pin (b, o) (List.mem_append_right _ (List.mem_append_right _ (mem_pinsAt hb e)))).1, fun b hb => ?_, w7⟩
      obtain ⟨o, e, d⟩ := T.obj _ _ st5 b hb
      exact (I7.pin (b, o) (List.mem_append_right _ (List.mem_append_right _ (mem_pinsAt hb e)))).2.1
    cases f with
    | next => obtain ⟨σ7, H7, I7, n7⟩ := q7; exact again I7 n7
    | cont => obtain ⟨σ7, H7, I7, n7⟩ := q7; exact again I7 n7
    | brk => obtain ⟨σ7, H7, I7, q7⟩ := q7; exact ⟨σ7, H7, I7.unpinned, q7⟩
    | ret v => obtain ⟨x7, σ7, H7, I7, r7, q7⟩ := q7; exact ⟨x7, σ7, H7, I7.unpinned, r7, q7⟩
end
theorem for_list {K : PySem.W.Frag} {a : Addr} {xs : List V} {g : TG} {tb : TS} {D : Ends} {σ : St} {H : Hp} (Pv : Nat → St → Hp → Prop) (h0 : Pv 0 σ H) (hl : ∀ i σ H, i ≤ xs.length → Pv i σ H → SqL K H a xs)
    (hs : ∀ i x σ H, xs[i]? = some x → Pv i σ H → g x σ H fun σ2 H2 => tb { D with nx := Pv (i + 1), ct := Pv (i + 1), bk := D.nx } σ2 H2) (hd : ∀ σ H, Pv xs.length σ H → D.nx σ H) :
    ∃ W : Nat → Nat → St → Hp → Prop, (∃ m, W 0 m σ H) ∧ ∀ i m σ H, W i m σ H →
      ((Itl K a).stop i H ∧ D.nx σ H) ∨ ((Itl K a).go i H ∧ ∃ N : St → Hp → Prop, (∀ σ' H', N σ' H' → ∃ m', m' < m ∧ W (i + 1) m' σ' H') ∧ ∀ x H', (Itl K a).yld i H x H' → g x σ H' fun σ2 H2 => tb { D with nx := N, ct := N, bk := D.nx } σ2 H2) := by
  refine ⟨fun i m σ H => m = xs.length - i ∧ i ≤ xs.length ∧ Pv i σ H, ⟨xs.length, by simp, Nat.zero_le _, h0⟩, ?_⟩
  rintro i m σ H ⟨rfl, hi, p⟩
  have q := hl i σ H hi p
  by_cases hlt : i < xs.length
  · refine .inr ⟨⟨xs, xs[i], q, by simp [hlt]⟩, Pv (i + 1), fun σ' H' p' => ⟨xs.length - (i + 1), by omega, rfl, hlt, p'⟩, fun x H' y => ?_⟩
    obtain ⟨e, y⟩ := y
    subst e
    exact hs i x σ _ (y xs q) p
  · have e : i = xs.length := by omega
    subst e
    exact .inl ⟨⟨xs, q, Nat.le_refl _⟩, hd σ H p⟩
theorem for_range {lo : Int} {n : Nat} {g : TG} {tb : TS} {D : Ends} {σ : St} {H : Hp} (Pv : Nat → St → Hp → Prop) (h0 : Pv 0 σ H)
    (hs : ∀ i σ H, i < n → Pv i σ H → g (.int (lo + i)) σ H fun σ2 H2 => tb { D with nx := Pv (i + 1), ct := Pv (i + 1), bk := D.nx } σ2 H2) (hd : ∀ σ H, Pv n σ H → D.nx σ H) :
    ∃ W : Nat → Nat → St → Hp → Prop, (∃ m, W 0 m σ H) ∧ ∀ i m σ H, W i m σ H →
      ((Itr lo n).stop i H ∧ D.nx σ H) ∨ ((Itr lo n).go i H ∧ ∃ N : St → Hp → Prop, (∀ σ' H', N σ' H' → ∃ m', m' < m ∧ W (i + 1) m' σ' H') ∧ ∀ x H', (Itr lo n).yld i H x H' → g x σ H' fun σ2 H2 => tb { D with nx := N, ct := N, bk := D.nx } σ2 H2) := by
  refine ⟨fun i m σ H => m = n - i ∧ i ≤ n ∧ Pv i σ H, ⟨n, by simp, Nat.zero_le _, h0⟩, ?_⟩
  rintro i m σ H ⟨rfl, hi, p⟩
  by_cases hlt : i < n
  · refine .inr ⟨hlt, Pv (i + 1), fun σ' H' p' => ⟨n - (i + 1), by omega, rfl, hlt, p'⟩, fun x H' y => ?_⟩
    obtain ⟨e, y⟩ := y
    subst e y
    exact hs i σ _ hlt p
  · have e : i = n := by omega
    subst e
    exact .inl ⟨Nat.le_refl _, hd σ H p⟩
end L2
namespace L2
open PySem PySem.Spec PyProof.Rows
abbrev R2 := V → V → Hp → VK → Prop
def OpR (X : Cx) (f : Value → Value → Sem Value) (r : R2) : Prop :=
  ∀ (pins : List (Addr × Obj)) (s : Shared) (σ : St) (H : Hp) (x y : V) (v u : Value) (Q : VK), Inv X pins σ H s → RelV x v → RelV y u → r x y H Q →
    wpAny (model X.prog X.w) X.A (f v u) (EP X pins σ Q) X.xe s
def UnR (X : Cx) (f : Value → Sem Value) (r : V → Hp → VK → Prop) : Prop :=
  ∀ (pins : List (Addr × Obj)) (s : Shared) (σ : St) (H : Hp) (x : V) (v : Value) (Q : VK), Inv X pins σ H s → RelV x v → r x H Q →
    wpAny (model X.prog X.w) X.A (f v) (EP X pins σ Q) X.xe s
def CallR (X : Cx) (f : Value) (r : List V → Hp → VK → Prop) : Prop :=
  ∀ (pins : List (Addr × Obj)) (s : Shared) (σ : St) (H : Hp) (xs : List V) (us : List Value) (Q : VK), Inv X pins σ H s → Vals xs us → r xs H Q →
    wpAny (model X.prog X.w) X.A (call f us) (EP X pins σ Q) X.xe s
def tOp (r : R2) (ta tb : TE) : TE := fun σ H Q => ta σ H fun x H1 => tb σ H1 fun y H2 => r x y H2 Q
def tUn (r : V → Hp → VK → Prop) (ta : TE) : TE := fun σ H Q => ta σ H fun x H1 => r x H1 Q
def rI (C : Int → Int → Prop) (g : Int → Int → V) : R2 := fun x y H Q => ∃ i j, x = .int i ∧ y = .int j ∧ C i j ∧ Q (g i j) H
def rI0 (g : Int → Int → V) : R2 := fun x y H Q => ∃ i j, x = .int i ∧ y = .int j ∧ Q (g i j) H
def rU (g : Int → V) : V → Hp → VK → Prop := fun x H Q => ∃ i, x = .int i ∧ Q (g i) H
section
variable {X : Cx} {a b c : Expr} {ta tb tc : TE} {pos : Pos}
theorem binT (ha : PE X a ta) (hb : PE X b tb) {pins : List (Addr × Obj)} {s : Shared} {σ : St} {H : Hp} {R : V → V → Hp → Prop} (I : Inv X pins σ H s)
    (h : ta σ H fun x H1 => tb σ H1 fun y H2 => R x y H2) {Q : Value → Shared → Prop} {f : Value → Value → Sem Value}
    (hf : ∀ v u s2 x y H2, Inv X pins σ H2 s2 → RelV x v → RelV y u → R x y H2 → wpAny (model X.prog X.w) X.A (f v u) Q X.xe s2) :
    wpAny (model X.prog X.w) X.A (eval a X.env) (fun v s₁ => wpAny (model X.prog X.w) X.A (eval b X.env) (fun u s₂ => wpAny (model X.prog X.w) X.A (f v u) Q X.xe s₂) X.xe s₁) X.xe s := by
  refine thn (ha pins s σ H _ I h) fun v s1 ⟨x, H1, I1, r1, q1⟩ => ?_
  refine thn (hb pins s1 σ H1 _ I1 q1) fun u s2 ⟨y, H2, I2, r2, q2⟩ => ?_
  exact hf v u s2 x y H2 I2 r1 r2 q2
theorem pe_op {op : Operator} {r : R2} (ho : OpR X (binaryOp op) r) (ha : PE X a ta) (hb : PE X b tb) : PE X (.BinOp a op b pos) (tOp r ta tb) := by
  intro pins s σ H Q I h
  exact wpAny_BinOp (binT ha hb I h fun v u s2 x y H2 I2 rx ry q => ho pins s2 σ H2 x y v u Q I2 rx ry q)
theorem pe_un {op : UnaryOp} {r : V → Hp → VK → Prop} (ho : UnR X (unaryOp op) r) (ha : PE X a ta) : PE X (.UnaryOp op a pos) (tUn r ta) := by
  intro pins s σ H Q I h
  exact UnaryOp_ (thn (ha pins s σ H _ I h) fun v s1 ⟨x, H1, I1, r1, q1⟩ => ho pins s1 σ H1 x v Q I1 r1 q1)
theorem opI {f : Value → Value → Sem Value} {C : Int → Int → Prop} {g : Int → Int → Int}
    (rule : ∀ (i j : Int) (t u : Tok) (s : Shared) (Q : Value → Shared → Prop) (E : Value → Shared → Prop), C i j → Q (.int (g i j) s.toks) { s with toks := s.toks + 1 } → wpAny (model X.prog X.w) X.A (f (.int i t) (.int j u)) Q E s) :
    OpR X f (rI C fun i j => .int (g i j)) := by
  intro pins s σ H x y v u Q I rx ry h
  obtain ⟨i, j, rfl, rfl, hc, q⟩ := h
  obtain ⟨t, rfl⟩ := rx
  obtain ⟨t', rfl⟩ := ry
  exact rule i j t t' s _ _ hc ⟨.int (g i j), H, I.tok _, ⟨_, rfl⟩, q⟩
theorem opI0 {f : Value → Value → Sem Value} {g : Int → Int → Int}
    (rule : ∀ (i j : Int) (t u : Tok) (s : Shared) (Q : Value → Shared → Prop) (E : Value → Shared → Prop), Q (.int (g i j) s.toks) { s with toks := s.toks + 1 } → wpAny (model X.prog X.w) X.A (f (.int i t) (.int j u)) Q E s) :
    OpR X f (rI0 fun i j => .int (g i j)) := by
  intro pins s σ H x y v u Q I rx ry h
  obtain ⟨i, j, rfl, rfl, q⟩ := h
  obtain ⟨t, rfl⟩ := rx
  obtain ⟨t', rfl⟩ := ry
  exact rule i j t t' s _ _ ⟨.int (g i j), H, I.tok _, ⟨_, rfl⟩, q⟩
theorem opB0 {f : Value → Value → Sem Value} {g : Int → Int → Bool}
    (rule : ∀ (i j : Int) (t u : Tok) (s : Shared) (Q : Value → Shared → Prop) (E : Value → Shared → Prop), Q (.bool (g i j)) s → wpAny (model X.prog X.w) X.A (f (.int i t) (.int j u)) Q E s) :
    OpR X f (rI0 fun i j => .bl (g i j)) := by
  intro pins s σ H x y v u Q I rx ry h
  obtain ⟨i, j, rfl, rfl, q⟩ := h
  obtain ⟨t, rfl⟩ := rx
  obtain ⟨t', rfl⟩ := ry
  exact rule i j t t' s _ _ ⟨.bl (g i j), H, I, rfl, q⟩
def CDiv (i j : Int) : Prop := 0 < j ∧ j < 1073741824
def CPow (i j : Int) : Prop := 0 ≤ j ∧ j ≤ 1000000 ∧ i.natAbs < 2 ^ 64
def CMul (i j : Int) : Prop := (-(2 ^ 64) < i ∧ i < 2 ^ 64) ∨ (-(2 ^ 64) < j ∧ j < 2 ^ 64)
theorem CMul.ok {i j : Int} (h : CMul i j) : IntMulOk i j := by
  rcases h with ⟨h1, h2⟩ | ⟨h1, h2⟩
  · exact .of_left (intBits_le_64 h1 h2)
  · exact .of_right (intBits_le_64 h1 h2)
theorem op_add : OpR X (binaryOp .Add) (rI0 fun i j => .int (i + j)) := opI0 fun _ _ _ _ _ _ _ q => add_int q
theorem op_sub : OpR X (binaryOp .Sub) (rI0 fun i j => .int (i - j)) := opI0 fun _ _ _ _ _ _ _ q => sub_int q
theorem op_mul : OpR X (binaryOp .Mult) (rI CMul fun i j => .int (i * j)) := opI fun _ _ _ _ _ _ _ hc q => mul_int q hc.ok
theorem op_fdiv : OpR X (binaryOp .FloorDiv) (rI CDiv fun i j => .int (i / j)) := opI fun i j _ _ _ _ _ hc q => by
  have h1 : (0 : Int) < j := hc.1
  have h2 : j < 1073741824 := hc.2
  exact floordiv_int (by omega) (by rw [Int.fdiv_eq_ediv_of_nonneg i (by omega)]; exact q) (.inl (PyProof.noPylong_small (by omega)))
theorem op_mod : OpR X (binaryOp .Mod) (rI (fun _ j => 0 < j) fun i j => .int (i % j)) := opI fun i j _ _ _ _ _ hc q => by
  have h1 : (0 : Int) < j := hc
  exact mod_int' (by omega) (by rw [Int.fmod_eq_emod_of_nonneg i (by omega)]; exact q)
theorem op_pow : OpR X (binaryOp .Pow) (rI CPow fun i j => .int (i ^ j.toNat)) := opI fun _ _ _ _ _ _ _ hc q => pow_int_small hc.1 hc.2.1 hc.2.2 q
theorem unI {f : Value → Sem Value} {g : Int → Int}
    (rule : ∀ (i : Int) (t : Tok) (s : Shared) (Q : Value → Shared → Prop) (E : Value → Shared → Prop), Q (.int (g i) s.toks) { s with toks := s.toks + 1 } → wpAny (model X.prog X.w) X.A (f (.int i t)) Q E s) :
    UnR X f (rU fun i => .int (g i)) := by
  intro pins s σ H x v Q I rx h
  obtain ⟨i, rfl, q⟩ := h
  obtain ⟨t, rfl⟩ := rx
  exact rule i t s _ _ ⟨.int (g i), H, I.tok _, ⟨_, rfl⟩, q⟩
theorem un_neg : UnR X (unaryOp .USub) (rU fun i => .int (-i)) := unI fun _ _ _ _ _ q => neg_int q
end
def scal : V → V → Bool
  | .non, .non => true | .non, .int _ => true | .int _, .non => true | .non, .bl _ => true | .bl _, .non => true | .non, .str _ => true | .str _, .non => true
  | .int _, .int _ => true | .bl _, .bl _ => true | .str _, .str _ => true | .byt _, .byt _ => true
  | .int _, .str _ => true | .str _, .int _ => true | .bl _, .str _ => true | .str _, .bl _ => true
  | _, _ => false
def rEq : R2 := fun x y H Q => scal x y = true ∧ Q (.bl (decide (x = y))) H
def rNe : R2 := fun x y H Q => scal x y = true ∧ Q (.bl (!decide (x = y))) H
theorem dec_int {i j : Int} : decide (V.int i = V.int j) = (i == j) := by
  rw [Bool.eq_iff_iff]
  simp
theorem dec_bl {i j : Bool} : decide (V.bl i = V.bl j) = (i == j) := by
  rw [Bool.eq_iff_iff]
  simp
theorem dec_str {i j : Str} : decide (V.str i = V.str j) = (i == j) := by
  rw [Bool.eq_iff_iff]
  simp
theorem dec_byt {i j : Array UInt8} : decide (V.byt i = V.byt j) = (i.toList == j.toList) := by
  rw [Bool.eq_iff_iff]
  cases i
  cases j
  simp
section
variable {X : Cx} {a b c : Expr} {ta tb tc : TE} {pos : Pos}
theorem fin_bl {pins : List (Addr × Obj)} {σ : St} {H : Hp} {s : Shared} {Q : VK} {k k' : Bool} (I : Inv X pins σ H s) (q : Q (.bl k) H) (e : k = k') : EP X pins σ Q (.bool k') s := by
  subst e
  exact ⟨.bl k, H, I, rfl, q⟩
theorem op_eq : OpR X (compareOp .Eq) rEq := by
  intro pins s σ H x y v u Q I rx ry h
  obtain ⟨hs, q⟩ := h
  cases x with
  | non =>
    cases rx
    cases y with
    | non => cases ry; exact PySem.EqNone.eq_none_none (fin_bl I q (by simp))
    | bl j => cases ry; exact PySem.EqNone.eq_none_bool (fin_bl I q (by simp))
    | int j => obtain ⟨t', rfl⟩ := ry; exact PySem.EqNone.eq_none_int (fin_bl I q (by simp))
    | str j => obtain ⟨t', rfl⟩ := ry; exact PySem.EqNone.eq_none_str (fin_bl I q (by simp))
    | _ => exact absurd (show false = true from hs) Bool.false_ne_true
  | bl i =>
    cases rx
    cases y with
    | non => cases ry; exact PySem.EqNone.eq_bool_none (fin_bl I q (by simp))
    | bl j => cases ry; exact eq_bool (fin_bl I q dec_bl)
    | str j => obtain ⟨t', rfl⟩ := ry; exact PySem.EqMixed.eq_bool_str (fin_bl I q (by simp))
    | _ => exact absurd (show false = true from hs) Bool.false_ne_true
  | int i =>
    obtain ⟨t, rfl⟩ := rx
    cases y with
    | non => cases ry; exact PySem.EqNone.eq_int_none (fin_bl I q (by simp))
    | int j => obtain ⟨t', rfl⟩ := ry; exact eq_int (fin_bl I q dec_int)
    | str j => obtain ⟨t', rfl⟩ := ry; exact PySem.EqMixed.eq_int_str (fin_bl I q (by simp))
    | _ => exact absurd (show false = true from hs) Bool.false_ne_true
  | str i =>
    obtain ⟨t, rfl⟩ := rx
    cases y with
    | non => cases ry; exact PySem.EqNone.eq_str_none (fin_bl I q (by simp))
    | bl j => cases ry; exact PySem.EqMixed.eq_str_bool (fin_bl I q (by simp))
    | int j => obtain ⟨t', rfl⟩ := ry; exact PySem.EqMixed.eq_str_int (fin_bl I q (by simp))
    | str j => obtain ⟨t', rfl⟩ := ry; exact eq_str (fin_bl I q dec_str)
    | _ => exact absurd (show false = true from hs) Bool.false_ne_true
  | byt i =>
    obtain ⟨t, rfl⟩ := rx
    cases y with
    | byt j => obtain ⟨t', rfl⟩ := ry; exact PySem.W.eq_bytes (fin_bl I q dec_byt)
    | _ => exact absurd (show false = true from hs) Bool.false_ne_true
  | _ => cases y <;> exact absurd (show false = true from hs) Bool.false_ne_true
theorem op_ne : OpR X (compareOp .NotEq) rNe := by
  intro pins s σ H x y v u Q I rx ry h
  obtain ⟨hs, q⟩ := h
  cases x with
  | non =>
    cases rx
    cases y with
    | non => cases ry; exact PySem.EqNone.ne_none_none (fin_bl I q (by simp))
    | bl j => cases ry; exact PySem.EqNone.ne_none_bool (fin_bl I q (by simp))
    | int j => obtain ⟨t', rfl⟩ := ry; exact PySem.EqNone.ne_none_int (fin_bl I q (by simp))
    | str j => obtain ⟨t', rfl⟩ := ry; exact PySem.EqNone.ne_none_str (fin_bl I q (by simp))
    | _ => exact absurd (show false = true from hs) Bool.false_ne_true
  | bl i =>
    cases rx
    cases y with
    | non => cases ry; exact PySem.EqNone.ne_bool_none (fin_bl I q (by simp))
    | bl j => cases ry; exact ne_bool (fin_bl I q (congrArg not dec_bl))
    | str j => obtain ⟨t', rfl⟩ := ry; exact PySem.EqMixed.ne_bool_str (fin_bl I q (by simp))
    | _ => exact absurd (show false = true from hs) Bool.false_ne_true
  | int i =>
    obtain ⟨t, rfl⟩ := rx
    cases y with
    | non => cases ry; exact PySem.EqNone.ne_int_none (fin_bl I q (by simp))
    | int j => obtain ⟨t', rfl⟩ := ry; exact ne_int (fin_bl I q (congrArg not dec_int))
    | str j => obtain ⟨t', rfl⟩ := ry; exact PySem.EqMixed.ne_int_str (fin_bl I q (by simp))
    | _ => exact absurd (show false = true from hs) Bool.false_ne_true
  | str i =>
    obtain ⟨t, rfl⟩ := rx
    cases y with
    | non => cases ry; exact PySem.EqNone.ne_str_none (fin_bl I q (by simp))
    | bl j => cases ry; exact PySem.EqMixed.ne_str_bool (fin_bl I q (by simp))
    | int j => obtain ⟨t', rfl⟩ := ry; exact PySem.EqMixed.ne_str_int (fin_bl I q (by simp))
    | str j => obtain ⟨t', rfl⟩ := ry; exact ne_str (fin_bl I q (congrArg not dec_str))
    | _ => exact absurd (show false = true from hs) Bool.false_ne_true
  | byt i =>
    obtain ⟨t, rfl⟩ := rx
    cases y with
    | byt j => obtain ⟨t', rfl⟩ := ry; exact PySem.W.ne_bytes (fin_bl I q (congrArg not dec_byt))
    | _ => exact absurd (show false = true from hs) Bool.false_ne_true
  | _ => cases y <;> exact absurd (show false = true from hs) Bool.false_ne_true
theorem op_lt : OpR X (compareOp .Lt) (rI0 fun i j => .bl (decide (i < j))) := opB0 fun _ _ _ _ _ _ _ q => lt_int q
theorem op_le : OpR X (compareOp .LtE) (rI0 fun i j => .bl (decide (i ≤ j))) := opB0 fun _ _ _ _ _ _ _ q => le_int q
theorem op_gt : OpR X (compareOp .Gt) (rI0 fun i j => .bl (decide (j < i))) := opB0 fun _ _ _ _ _ _ _ q => gt_int q
theorem op_ge : OpR X (compareOp .GtE) (rI0 fun i j => .bl (decide (j ≤ i))) := opB0 fun _ _ _ _ _ _ _ q => ge_int q
theorem op_in_str : OpR X (compareOp .In) (fun x y H Q => ∃ i j, x = .str i ∧ y = .str j ∧ Q (.bl (!(Builtin.Str.occurrences j i 0 j.length 1).isEmpty)) H) := by
  intro pins s σ H x y v u Q I rx ry h
  obtain ⟨i, j, rfl, rfl, q⟩ := h
  obtain ⟨t, rfl⟩ := rx
  obtain ⟨t', rfl⟩ := ry
  exact in_str (fin_bl I q rfl)
theorem op_isN : OpR X (compareOp .Is) (fun x y H Q => y = .non ∧ Q (.bl (decide (x = .non))) H) := by
  intro pins s σ H x y v u Q I rx ry h
  obtain ⟨rfl, q⟩ := h
  cases ry
  refine is_none_gen (fin_bl I q ?_)
  cases x <;> first
    | (cases rx; rfl)
    | (obtain ⟨t, rfl⟩ := rx; rfl)
theorem op_notN : OpR X (compareOp .IsNot) (fun x y H Q => y = .non ∧ Q (.bl (!decide (x = .non))) H) := by
  intro pins s σ H x y v u Q I rx ry h
  obtain ⟨rfl, q⟩ := h
  cases ry
  refine isnot_none_gen (fin_bl I q ?_)
  cases x <;> first
    | (cases rx; rfl)
    | (obtain ⟨t, rfl⟩ := rx; rfl)
theorem OpR.or {f : Value → Value → Sem Value} {r r' : R2} (h : OpR X f r) (h' : OpR X f r') : OpR X f (fun x y H Q => r x y H Q ∨ r' x y H Q) := by
  intro pins s σ H x y v u Q I rx ry q
  rcases q with q | q
  · exact h pins s σ H x y v u Q I rx ry q
  · exact h' pins s σ H x y v u Q I rx ry q
theorem nomark (b : Expr) {op : CmpOp} (h : op ≠ .In := by decide) (h2 : op ≠ .NotIn := by decide) : behindInMarks op b = false := by
  have e1 : (op == CmpOp.In) = false := by cases op <;> first | rfl | exact absurd rfl h
  have e2 : (op == CmpOp.NotIn) = false := by cases op <;> first | rfl | exact absurd rfl h2
  cases b <;> simp [behindInMarks, e1, e2]
theorem pe_cmpR {op : CmpOp} {r : R2} (ho : OpR X (compareOp op) r) (ha : PE X a ta) (hb : PE X b tb) (hm : behindInMarks op b = false) : PE X (.Compare a [op] [b] pos) (tOp r ta tb) := by
  intro pins s σ H Q I h
  exact wpAny_Compare1 (binT ha hb I h fun v u s2 x y H2 I2 rx ry q => ho pins s2 σ H2 x y v u Q I2 rx ry q) hm
def tTest (t : TE) : TT := fun σ H Q => t σ H fun x H' => ∃ k, x = .bl k ∧ Q k H'
theorem pt_cmpR {op : CmpOp} {r : R2} (ho : OpR X (compareOp op) r) (ha : PE X a ta) (hb : PE X b tb) (hm : behindInMarks op b = false) : PT X (.Compare a [op] [b] pos) (tTest (tOp r ta tb)) := by
  intro pins s σ H Q I h
  refine wpAny_isTrue_Compare1 (thn (ha pins s σ H _ I h) fun v s1 ⟨x, H1, I1, r1, q1⟩ => thn (hb pins s1 σ H1 _ I1 q1) fun u s2 ⟨y, H2, I2, r2, q2⟩ =>
    thn (ho pins s2 σ H2 x y v u _ I2 r1 r2 q2) fun c s3 ⟨z, H3, I3, r3, k, e, q3⟩ => ?_) hm
  subst e
  cases r3
  exact wpAny_truthy_bool ⟨H3, I3, q3⟩
def tChain (r r' : R2) (ta tb tc : TE) : TE := fun σ H Q => ta σ H fun x H1 => tb σ H1 fun y H2 => r x y H2 fun z H3 => ∃ k, z = .bl k ∧
  (if k = true then tc σ H3 fun w' H4 => r' y w' H4 Q else Q (.bl false) H3)
theorem pe_chain {op op' : CmpOp} {r r' : R2} (ho : OpR X (compareOp op) r) (ho' : OpR X (compareOp op') r') (ha : PE X a ta) (hb : PE X b tb) (hc : PE X c tc)
    (hm : lastMarks [op, op'] [b, c] = false := by with_unfolding_all rfl) : PE X (.Compare a [op, op'] [b, c] pos) (tChain r r' ta tb tc) := by
  intro pins s σ H Q I h
  refine Compare_chain (thn (ha pins s σ H _ I h) fun v s1 ⟨x, H1, I1, r1, q1⟩ => chain_link (thn (hb pins s1 σ H1 _ I1 q1) fun u s2 ⟨y, H2, I2, r2, q2⟩ =>
    thn (ho pins s2 σ H2 x y v u _ I2 r1 r2 q2) fun d s3 ⟨z, H3, I3, r3, k, e, q3⟩ => ?_)) hm
  subst e
  cases r3
  refine wpAny_truthy_bool ?_
  cases k with
  | false => exact ite_ff ⟨.bl false, H3, I3, rfl, q3⟩
  | true => exact ite_tt (chain_last (thn (hc pins s3 σ H3 _ I3 q3) fun w' s4 ⟨z', H4, I4, r4, q4⟩ => ho' pins s4 σ H4 y z' u w' Q I4 r2 r4 q4))
theorem line63 : (sizeLine : Nat) < 2 ^ 63 := by rw [sizeLine_eq]; decide
theorem op_add_str : OpR X (binaryOp .Add) (fun x y H Q => ∃ i j, x = .str i ∧ y = .str j ∧ i.length + j.length ≤ sizeLine ∧ Q (.str (i ++ j)) H) := by
  intro pins s σ H x y v u Q I rx ry h
  obtain ⟨i, j, rfl, rfl, hz, q⟩ := h
  obtain ⟨t, rfl⟩ := rx
  obtain ⟨t', rfl⟩ := ry
  exact add_str (fun t' tk => ⟨.str (i ++ j), H, I.tok _, ⟨_, rfl⟩, q⟩) hz
theorem vals1 {x : V} {us : List Value} (r : Vals [x] us) : ∃ u, us = [u] ∧ RelV x u := by
  cases r with
  | cons r1 r2 => cases r2; exact ⟨_, rfl, r1⟩
theorem vals2 {x y : V} {us : List Value} (r : Vals [x, y] us) : ∃ u w', us = [u, w'] ∧ RelV x u ∧ RelV y w' := by
  cases r with
  | cons r1 r2 =>
    cases r2 with
    | cons r3 r4 => cases r4; exact ⟨_, _, rfl, r1, r3⟩
end
end L2
namespace L2
open PySem PySem.Spec PyProof.Rows
structure ObjM (h : Heap) (x dx C : Addr) (mA : Str → Option Value) : Prop where
  obj : h.get? x = some (PySem.W.instObj C dx)
  ns : h.Ns1 dx mA
  ne : dx ≠ x
theorem lookIn_ns {h : Heap} {dx : Addr} {mA : Str → Option Value} (n : h.Ns1 dx mA) : ∃ od, h.get? dx = some od ∧ ∀ name, PySem.W.lookIn name od = some (mA name) := by
  obtain ⟨o, es, ep, ho, hd, hk, _, hm⟩ := n
  refine ⟨o, ho, fun name => ?_⟩
  have e := hm name
  unfold nsFind findBy at e
  rw [← Array.find?_toList] at e
  unfold PySem.W.lookIn
  rw [hd]
  dsimp only
  split
  · rename_i y q
    rw [q] at e
    exact congrArg some e
  · rename_i q
    rw [q] at e
    have a : es.toList.any (·.refKey) = false := by
      rw [List.any_eq_false]
      intro y hy
      obtain ⟨z, t, hkey⟩ := hk y (Array.mem_toList_iff.mp hy)
      simp [DictEntry.refKey, hkey]
    have a' : ¬ es.toList.any (·.refKey) = true := by rw [a]; exact Bool.false_ne_true
    rw [if_neg a']
    exact congrArg some e
theorem ObjM.look {h : Heap} {x dx C : Addr} {mA : Str → Option Value} (I : ObjM h x dx C mA) : ∃ od, PySem.W.InstAt h x (PySem.W.instObj C dx) C (some od) ∧ ∀ name, PySem.W.lookIn name od = some (mA name) :=
  let ⟨od, ho, hl⟩ := lookIn_ns I.ns
  ⟨od, ⟨I.obj, rfl, rfl, ho⟩, hl⟩
section
variable {prog : Program} {w : World} {A : Around} {E : Value → Shared → Prop} {s : Shared} {K : PySem.W.Frag} {x dx C f : Addr} {mA : Str → Option Value} {name : Str} {v : Value}
theorem get_map {expr : Bool} {Q : Value → Shared → Prop} (X : K.In s.heap) (I : ObjM s.heap x dx C mA) (hg : PySem.W.plainGet K C name = true) (hh : PySem.W.hasDictIn K C = true)
    (ha : PySem.W.findIn K (.ref C) name = some none) (hv : mA name = some v) (hv' : PySem.W.handedIn v = true) (h : Q v { s with toks := s.toks + 1 }) :
    wpAny (model prog w) A (getAttr (.ref x) name expr) Q E s := by
  obtain ⟨od, J, hl⟩ := I.look
  exact PySem.W.get_value X J (PySem.W.plainGet_of hg).1 (PySem.W.findObj_own hh ha rfl (by rw [hl, hv])) hv' h
theorem get_meth {pl : Sem Bool} {Q : Value × List Value → Shared → Prop} (X : K.In s.heap) (I : ObjM s.heap x dx C mA) (hg : PySem.W.plainGet K C name = true)
    (hf : PySem.W.findIn K (.ref C) name = some (some (.ref f))) (ht : PySem.W.isFn K (.ref f) = true) (hv : mA name = none) (h : Q (.ref f, [.ref x]) s) :
    wpAny (model prog w) A (getMethod (.ref x) name pl) Q E s := by
  obtain ⟨od, J, hl⟩ := I.look
  exact PySem.W.method_fn X J (PySem.W.plainGet_of hg).1 (PySem.W.plainGet_of hg).2 hf (beq_iff_eq.mp ht) (by show (PySem.W.lookIn name od).map (·.isSome) = some false; rw [hl, hv]; rfl) h
theorem set_map {ns : List Str} {Q : Unit → Shared → Prop} (X : K.In s.heap) (I : ObjM s.heap x dx C mA)
    (hs : PySem.W.findIn K (.ref C) "__setattr__" = some (some (.builtin "object.__setattr__"))) (hp : PySem.W.plainOver K C = true) (ht : PySem.W.takerIn K C name = some none) (hh : PySem.W.hasDictIn K C = true)
    (hw : PySem.Within mA ns) (hsz : ns.length ≤ sizeLine)
    (h : ∀ h', ObjM h' x dx C (fun y => if y = name then some v else mA y) → Heap.SameBut dx s.heap h' → Q () { s with heap := h', toks := s.toks + 2 }) :
    wpAny (model prog w) A (setAttr (.ref x) name v) Q E s := by
  obtain ⟨od, J, hl⟩ := I.look
  refine PySem.W.set_plain X J hs (PySem.W.osa_open (s := { s with toks := s.toks + 1 }) (r := none) X J hp ht fun b => ?_)
  obtain ⟨cd, hc, hd'⟩ := PySem.W.any_some hh
  have hx : s.heap.get? x = some ⟨.ref C, some dx, .plain, #[]⟩ := I.obj
  refine wpAny_bind (wpAny_pure (wpAny_bind (wpAny_bind (wpAny_loadPart hx (wpAny_bind (PySem.W.Looks.here (s := { s with toks := s.toks + 1 }) (PySem.W.looks_clsIn X hc) ?_))))))
  rw [hd']
  refine wpAny_pure (a := some dx) (wpAny_bind (wpAny_pure (wpAny_bind ?_)))
  refine wpAny_nsSet1 (s := { s with toks := s.toks + 1 }) I.ns fun h' hn2 hs2 => ?_
  obtain ⟨oD, esD, epD, hoD, hdD, hcD⟩ := hn2.count (PySem.Within.cons name v hw)
  refine wpAny_bind (wpAny_lookBehind hoD (by rw [hdD]; exact pastItsLine_dict (Nat.le_trans hcD (by rw [List.length_cons]; omega))) ?_)
  exact wpAny_pure (h _ ⟨(hs2.2 _ (Ne.symm I.ne)).trans I.obj, hn2, I.ne⟩ hs2)
theorem make_map {R : Result → Shared → Prop} {vs : List Value} {kw : List (Str × Value)} (X : K.In s.heap) (hm : PySem.W.makesIn K C = true)
    (hi : PySem.W.findIn K (.ref C) "__init__" = some (some (.ref f))) (hf : PySem.W.typeIn K (.ref f) = some (.type "function"))
    (h : codeAny (model prog w) (A.under (.builtin "type.__call__" ⟨.ref C :: vs, kw⟩)) (.call (.ref f) ⟨.ref (s.heap.objs.size + 1) :: vs, kw⟩) (PySem.W.InitBack (s.heap.objs.size + 1) R)
      { s with heap := (s.heap.push PySem.W.emptyDict).push (PySem.W.instObj C s.heap.objs.size) }) :
    codeAny (model prog w) A (.call (.ref C) ⟨vs, kw⟩) R s := by
  obtain ⟨hh, g, d, t, os⟩ := s
  exact PySem.W.make_core (PySem.W.makes_of X hm) (PySem.W.looks_findIn X hi) (fun self => PySem.W.bind_fn X self hf) (.inl rfl) h
end
def putF (f : Str) (v : V) : List (Str × V) → List (Str × V)
  | [] => [(f, v)]
  | (g, x) :: r => if g = f then (g, v) :: r else (g, x) :: putF f v r
theorem lookup_putF (f g : Str) (v : V) : ∀ fs : List (Str × V), (putF f v fs).lookup g = if g = f then some v else fs.lookup g
  | [] => by
    show List.lookup g [(f, v)] = _
    by_cases h : g = f
    · have hb : (g == f) = true := beq_iff_eq.mpr h
      simp only [List.lookup, hb, if_pos h]
    · have hb : (g == f) = false := beq_eq_false_iff_ne.mpr h
      simp only [List.lookup, hb, if_neg h]
  | (k, x) :: r => by
    have ih := lookup_putF f g v r
    rw [show putF f v ((k, x) :: r) = (if k = f then (k, v) :: r else (k, x) :: putF f v r) from rfl]
    by_cases hk : k = f
    · rw [if_pos hk]
      by_cases h : g = k
      · have hb : (g == k) = true := beq_iff_eq.mpr h
        simp only [List.lookup, hb, if_pos (h.trans hk)]
      · have hb : (g == k) = false := beq_eq_false_iff_ne.mpr h
        simp only [List.lookup, hb, if_neg (fun e : g = f => h (e.trans hk.symm))]
    · rw [if_neg hk]
      by_cases h : g = k
      · have hb : (g == k) = true := beq_iff_eq.mpr h
        simp only [List.lookup, hb, if_neg (fun e : g = f => hk (h.symm.trans e))]
      · have hb : (g == k) = false := beq_eq_false_iff_ne.mpr h
        simp only [List.lookup, hb]
        exact ih
theorem keys_putF (f : Str) (v : V) : ∀ fs : List (Str × V), f ∈ (putF f v fs).map (·.1) ∧ ∀ g, g ∈ fs.map (·.1) → g ∈ (putF f v fs).map (·.1)
  | [] => ⟨by simp [putF], fun g h => by simp at h⟩
  | (k, x) :: r => by
    obtain ⟨i1, i2⟩ := keys_putF f v r
    rw [show putF f v ((k, x) :: r) = (if k = f then (k, v) :: r else (k, x) :: putF f v r) from rfl]
    by_cases hk : k = f
    · rw [if_pos hk]
      subst hk
      exact ⟨by simp, fun g h => by simpa using h⟩
    · rw [if_neg hk]
      refine ⟨?_, fun g h => ?_⟩
      · rw [List.map_cons]
        exact List.mem_cons_of_mem _ i1
      · rw [List.map_cons] at h ⊢
        rcases List.mem_cons.mp h with e | e
        · exact List.mem_cons.mpr (.inl e)
        · exact List.mem_cons_of_mem _ (i2 g e)
theorem length_putF (f : Str) (v : V) : ∀ fs : List (Str × V), (putF f v fs).length ≤ fs.length + 1
  | [] => by simp [putF]
  | (k, x) :: r => by
    have ih := length_putF f v r
    rw [show putF f v ((k, x) :: r) = (if k = f then (k, v) :: r else (k, x) :: putF f v r) from rfl]
    by_cases hk : k = f
    · rw [if_pos hk, List.length_cons, List.length_cons]; omega
    · rw [if_neg hk, List.length_cons, List.length_cons]; omega
theorem RelO.some_of {v : V} {o : Option Value} (r : RelO (some v) o) : ∃ u, o = some u ∧ RelV v u := by
  cases o with
  | none => exact (show False from r).elim
  | some u => exact ⟨u, rfl, r⟩
theorem RelO.none_of {o : Option Value} (r : RelO none o) : o = none := by
  cases o with
  | none => rfl
  | some u => exact (show False from r).elim
theorem handed_of {v : V} {u : Value} (r : RelV v u) : PySem.W.handedIn u = true := by
  cases v with
  | non => cases (show u = Value.none from r); rfl
  | bl b => cases (show u = Value.bool b from r); rfl
  | int i => obtain ⟨t, e⟩ := (show ∃ t, u = Value.int i t from r); cases e; rfl
  | str x => obtain ⟨t, e⟩ := (show ∃ t, u = Value.str x t from r); cases e; rfl
  | byt b => obtain ⟨t, e⟩ := (show ∃ t, u = Value.bytes b t from r); cases e; rfl
  | flt b => obtain ⟨t, e⟩ := (show ∃ t, u = Value.float b t from r); cases e; rfl
  | ref a => cases (show u = Value.ref a from r); rfl
  | ty n => cases (show u = Value.type n from r); rfl
section
variable {P : Program} {w : World} {H H' : Hp} {h h' : Heap} {a C dx : Addr} {fs fs' : List (Str × V)}
theorem ins_get (hok : HOk P w H h) (e : H a = some (.ins C dx fs)) : ∃ mA, ObjM h a dx C mA ∧ (∀ f, RelO (fs.lookup f) (mA f)) ∧ PySem.Within mA (fs.map (·.1)) ∧ fs.length ≤ 1000 ∧ H dx = some (.own a) := by
  obtain ⟨d, z, ne, ob, mA, n, r, q⟩ := (show ObjOk P w H h a (.ins C dx fs) from hok a _ e)
  exact ⟨mA, ⟨ob, n, ne⟩, r, q, z, d⟩
end
structure Cls (K : PySem.W.Frag) (C : Addr) : Prop where
  pg : PySem.W.plainGet K C Str.empty = true
  hd : PySem.W.hasDictIn K C = true
  po : PySem.W.plainOver K C = true
  sa : PySem.W.findIn K (.ref C) "__setattr__" = some (some (.builtin "object.__setattr__"))
theorem Cls.get {K : PySem.W.Frag} {C : Addr} (c : Cls K C) (f : Str) : PySem.W.plainGet K C f = true := c.pg
def NoAttr (K : PySem.W.Frag) (C : Addr) (f : Str) : Prop := PySem.W.findIn K (.ref C) f = some none
theorem NoAttr.taker {K : PySem.W.Frag} {C : Addr} {f : Str} (n : NoAttr K C f) : PySem.W.takerIn K C f = some none := by
  unfold PySem.W.takerIn
  rw [show PySem.W.findIn K (.ref C) f = some none from n]
  rfl
structure Con (K : PySem.W.Frag) (C : Addr) (f : Str) (v : V) (u : Value) : Prop where
  at_ : PySem.W.findIn K (.ref C) f = some (some u)
  rel : RelV v u
  get : PySem.W.specialIn K u "__get__" = some none
  cp : PySem.W.copiedNames.contains f = false
structure Meth (K : PySem.W.Frag) (C : Addr) (m : Str) (f : Addr) : Prop where
  at_ : PySem.W.findIn K (.ref C) m = some (some (.ref f))
  fn : PySem.W.isFn K (.ref f) = true
  kp : PySem.W.keepIn K (.ref f) = true
section
variable {X : Cx} {pins : List (Addr × Obj)} {σ : St} {H : Hp} {s : Shared} {a C dx : Addr} {fs : List (Str × V)} {f : Str} {v : V} {A : Around} {E : Value → Shared → Prop}
theorem getattr_ok {b : Bool} {Q : Value → Shared → Prop} (I : Inv X pins σ H s) (e : H a = some (.ins C dx fs)) (c : Cls X.K C) (n : NoAttr X.K C f) (l : fs.lookup f = some v)
    (h : ∀ u s', Inv X pins σ H s' → RelV v u → Q u s') : wpAny (model X.prog X.w) A (getAttr (.ref a) f b) Q E s := by
  obtain ⟨mA, O, r, _, _, _⟩ := ins_get I.hok e
  obtain ⟨u, hu, ru⟩ := RelO.some_of (v := v) (o := mA f) (by rw [← l]; exact r f)
  exact get_map I.kIn O (c.get f) c.hd n hu (handed_of ru) (h u _ (I.tok _) ru)
theorem getmeth_ok {m : Str} {g : Addr} {pl : Sem Bool} {Q : Value × List Value → Shared → Prop} (I : Inv X pins σ H s) (e : H a = some (.ins C dx fs)) (c : Cls X.K C) (k : Meth X.K C m g) (l : fs.lookup m = none)
    (h : Q (.ref g, [.ref a]) s) : wpAny (model X.prog X.w) A (getMethod (.ref a) m pl) Q E s := by
  obtain ⟨mA, O, r, _, _, _⟩ := ins_get I.hok e
  have hn : mA m = none := RelO.none_of (by rw [← l]; exact r m)
  exact get_meth I.kIn O (c.get m) k.at_ k.fn hn h
theorem setattr_ok {y : V} {u : Value} {Q : Unit → Shared → Prop} (I : Inv X pins σ H s) (e : H a = some (.ins C dx fs)) (c : Cls X.K C) (n : NoAttr X.K C f) (hl : fs.length < 1000) (ry : RelV y u)
    (h : ∀ s', Inv X pins σ (upd H a (.ins C dx (putF f y fs))) s' → Q () s') : wpAny (model X.prog X.w) A (setAttr (.ref a) f u) Q E s := by
  obtain ⟨mA, O, r, wi, _, ho⟩ := ins_get I.hok e
  have hz : (fs.map (·.1)).length ≤ sizeLine := by rw [List.length_map, sizeLine_eq]; omega
  refine set_map I.kIn O c.sa c.po n.taker c.hd wi hz fun h' O' sb => h _ ?_
  have hd : ∃ o, h'.get? dx = some o := let ⟨o, _, _, e', _⟩ := O'.ns; ⟨o, e'⟩
  refine I.write (x := a) (e := dx) (by rw [e]; exact True.intro) (.inr ho) (fun b q hb z => (sb.2 b hb).trans z) hd ?_
  refine ⟨by rw [upd_ne O.ne]; exact ho, ?_, O.ne, O'.obj, _, O'.ns, fun g => ?_, fun g hg => ?_⟩
  · have := length_putF f y fs; omega
  · show RelO ((putF f y fs).lookup g) (if g = f then some u else mA g)
    rw [lookup_putF]
    by_cases q : g = f
    · rw [if_pos q, if_pos q]; exact ry
    · rw [if_neg q, if_neg q]; exact r g
  · by_cases q : g = f
    · rw [q]; exact (keys_putF f y fs).1
    · refine (keys_putF f y fs).2 g (wi g fun z => hg ?_)
      show (if g = f then some u else mA g) = none
      rw [if_neg q]; exact z
theorem Inv.made (I : Inv X pins σ H s) : Inv X pins σ (upd (upd H s.heap.objs.size (.own (s.heap.objs.size + 1))) (s.heap.objs.size + 1) (.ins C s.heap.objs.size []))
    { s with heap := (s.heap.push PySem.W.emptyDict).push (PySem.W.instObj C s.heap.objs.size) } := by
  have e1 : (s.heap.push PySem.W.emptyDict).get? s.heap.objs.size = some PySem.W.emptyDict := Heap.get?_push_size s.heap rfl
  have e2 : ((s.heap.push PySem.W.emptyDict).push (PySem.W.instObj C s.heap.objs.size)).get? (s.heap.objs.size + 1) = some (PySem.W.instObj C s.heap.objs.size) := by
    have := Heap.get?_push_size (s.heap.push PySem.W.emptyDict) (o := PySem.W.instObj C s.heap.objs.size) rfl
    rwa [Heap.size_push] at this
  have e3 : (s.heap.push PySem.W.emptyDict).Ns s.heap.objs.size (fun _ => none) := ⟨PySem.W.emptyDict, #[], _, e1, rfl, (fun e he => absurd he (by simp)), fun _ => rfl⟩
  have I1 := I.laid (a := s.heap.objs.size) (o := .own (s.heap.objs.size + 1)) (h' := s.heap.push PySem.W.emptyDict) (t' := s.toks) (fun b u q => Heap.get?_push_of_some _ q) (Nat.le_refl _) ⟨_, e1⟩
  refine I1.laid (a := s.heap.objs.size + 1) (o := .ins C s.heap.objs.size []) (t' := s.toks) (fun b u q => Heap.get?_push_of_some _ q) (Nat.le_of_eq (Heap.size_push _ _)) ?_
  have ne : s.heap.objs.size ≠ s.heap.objs.size + 1 := Nat.ne_of_lt (Nat.lt_succ_self _)
  refine ⟨by rw [upd_ne ne, upd_same], Nat.zero_le _, ne, e2, fun _ => none, (Heap.Ns1.of_empty e3).at fun o q => Heap.get?_push_of_some _ q, fun _ => True.intro, fun y hy => absurd rfl hy⟩
theorem attr_of {prog : Program} {w : World} {env : Env} {e : Expr} {f : Str} {pos : Pos} {s : Shared} {Q : Value → Shared → Prop} (hb : attributeBase e f env (eval e env) = eval e env)
    (h : wpAny (model prog w) A (eval e env) (fun o s₁ => wpAny (model prog w) A (getAttr o f true) Q E s₁) E s) : wpAny (model prog w) A (eval (.Attribute e f pos) env) Q E s :=
  Attribute_any_ h (by rw [arm_eval_Attribute, hb])
end
def tFld (K : PySem.W.Frag) (ta : TE) (f : Str) : TE := fun σ H Q => ta σ H fun x H1 => ∃ a C dx fs v, x = .ref a ∧ H1 a = some (.ins C dx fs) ∧ Cls K C ∧ NoAttr K C f ∧ fs.lookup f = some v ∧ Q v H1
def sFld (K : PySem.W.Frag) (ta tv : TE) (f : Str) : TS := fun D σ H => tv σ H fun y H1 => ta σ H1 fun x H2 => ∃ a C dx fs, x = .ref a ∧ H2 a = some (.ins C dx fs) ∧ Cls K C ∧ NoAttr K C f ∧ fs.length < 1000 ∧
  D.nx σ (upd H2 a (.ins C dx (putF f y fs)))
section
variable {X : Cx} {o e value : Expr} {f : Str} {pos pos' tpos : Pos} {ta tv : TE}
theorem pe_fld (he : PE X e ta) (hb : attributeBase e f X.env (eval e X.env) = eval e X.env) : PE X (.Attribute e f pos) (tFld X.K ta f) := by
  intro pins s σ H Q I h
  refine attr_of hb (thn (he pins s σ H _ I h) fun u s1 ⟨x, H1, I1, rx, a, C, dx, fs, v, ex, ea, c, n, l, q⟩ => ?_)
  subst ex
  obtain rfl : u = Value.ref a := rx
  exact getattr_ok I1 ea c n l fun u' s2 I2 ru => ⟨v, H1, I2, ru, q⟩
theorem ps_fld (ha : PE X o ta) (hv : PE X value tv) (hs : swapsWith value (some (.Attribute o f pos')) pos.line X.env = pure false) : PS X (.Assign [.Attribute o f pos'] value pos) (sFld X.K ta tv f) := by
  intro pins s σ H D I h
  refine plainObj_wpAny_Assign_Attribute (thn (hv pins s σ H _ I h) fun u s1 ⟨y, H1, I1, ry, q⟩ => thn (ha pins s1 σ H1 _ I1 q) fun ov s2 ⟨x, H2, I2, rx, a, C, dx, fs, ex, ea, c, n, l, q2⟩ => ?_) hs
  subst ex
  obtain rfl : ov = Value.ref a := rx
  exact setattr_ok I2 ea c n l ry fun s3 I3 => ⟨σ, _, I3, q2⟩
end
section
variable {X : Cx} {pins : List (Addr × Obj)} {σ : St} {H : Hp} {s : Shared} {A : Around} {E : Value → Shared → Prop} {Q : Value → Shared → Prop} {c : Value} {b : Bool}
inductive TyOf (K : PySem.W.Frag) (H : Hp) : V → Value → Prop where
  | non : TyOf K H .non (.type "NoneType")
  | bl (x : Bool) : TyOf K H (.bl x) (.type "bool")
  | int (i : Int) : TyOf K H (.int i) (.type "int")
  | str (x : Str) : TyOf K H (.str x) (.type "str")
  | flt (x : UInt64) : TyOf K H (.flt x) (.type "float")
  | lst {a : Addr} {xs : List V} (e : H a = some (.lst xs)) : TyOf K H (.ref a) (.type "list")
  | frz {a : Addr} {o : Obj} {xs : List V} (e : H a = some (.frz o (.lst xs))) : TyOf K H (.ref a) (.type "list")
  | tup {a : Addr} {xs : List V} (e : H a = some (.tup xs)) : TyOf K H (.ref a) (.type "tuple")
  | dK {a : Addr} {kvs : List (Key × V)} (e : H a = some (.dK kvs)) : TyOf K H (.ref a) (.type "dict")
  | dT {a : Addr} {kvs : List (List Key × V)} (e : H a = some (.dT kvs)) : TyOf K H (.ref a) (.type "dict")
  | ins {a C dx : Addr} {fs : List (Str × V)} (e : H a = some (.ins C dx fs)) (cl : Cls K C) (ha : PySem.W.findIn K (.ref C) "__class__" = some (some (.builtin "object.__class__")))
      (hn : PySem.W.specialIn K (.builtin "object.__class__") "__get__" = some (some (.builtin "getset_descriptor.__get__"))) (htk : PySem.W.takesIn K (.builtin "object.__class__") = some true)
      (hm : PySem.W.mroIn K C (.type "object") = some true) : TyOf K H (.ref a) (.ref C)
theorem isinst_ok {x : V} {u t : Value} (I : Inv X pins σ H s) (rx : RelV x u) (ty : TyOf X.K H x t) (e : PySem.W.kitOne X.K t c = some b) (h : ∀ tk, Q (.bool b) { s with toks := tk }) :
    wpAny (model X.prog X.w) A (call (.builtin "isinstance") [u, c]) Q E s := by
  cases ty with
  | non => cases (show u = Value.none from rx); exact PySem.W.kia_one PySem.W.kitx_none I.kIn True.intro e (fun z => nomatch z) h
  | bl y => cases (show u = Value.bool y from rx); exact PySem.W.kia_one PySem.W.kitx_bool I.kIn True.intro e (fun z => nomatch z) h
  | int i => obtain ⟨t, q⟩ := (show ∃ t, u = Value.int i t from rx); cases q; exact PySem.W.kia_one PySem.W.kitx_int I.kIn True.intro e (fun z => nomatch z) h
  | str y => obtain ⟨t, q⟩ := (show ∃ t, u = Value.str y t from rx); cases q; exact PySem.W.kia_one PySem.W.kitx_str I.kIn True.intro e (fun z => nomatch z) h
  | flt y => obtain ⟨t, q⟩ := (show ∃ t, u = Value.float y t from rx); cases q; exact PySem.W.kia_one PySem.W.kitx_float I.kIn True.intro e (fun z => nomatch z) h
  | @lst a xs ea =>
    cases (show u = Value.ref a from rx)
    obtain ⟨_, _, n, _, h1⟩ := (show ObjOk X.prog X.w H s.heap a (.lst xs) from I.hok a _ ea)
    exact PySem.W.kia_one PySem.W.kitx_list I.kIn ⟨_, h1, rfl⟩ e (fun z => nomatch z) h
  | @frz a ob xs ea =>
    cases (show u = Value.ref a from rx)
    obtain ⟨_, _, _, n, _, h1⟩ := (show ObjOk X.prog X.w H s.heap a (.frz ob (.lst xs)) from I.hok a _ ea)
    exact PySem.W.kia_one PySem.W.kitx_list I.kIn ⟨_, h1, rfl⟩ e (fun z => nomatch z) h
  | @tup a xs ea =>
    cases (show u = Value.ref a from rx)
    obtain ⟨_, _, _, p⟩ := (show ObjOk X.prog X.w H s.heap a (.tup xs) from I.hok a _ ea)
    obtain ⟨o, h1, h2, _⟩ := p
    exact PySem.W.kia_one PySem.W.kitx_tuple I.kIn ⟨o, h1, h2⟩ e (fun z => nomatch z) h
  | @dK a kvs ea =>
    cases (show u = Value.ref a from rx)
    obtain ⟨_, _, vs, _, p⟩ := (show ObjOk X.prog X.w H s.heap a (.dK kvs) from I.hok a _ ea)
    obtain ⟨o, es, ep, h1, h2, _⟩ := p
    exact PySem.W.kia_one PySem.W.kitx_dict I.kIn ⟨o, h1, h2.1⟩ e (fun z => nomatch z) h
  | @dT a kvs ea =>
    cases (show u = Value.ref a from rx)
    obtain ⟨_, _, xs, _, o, es, ep, h1, h2, _⟩ := (show ObjOk X.prog X.w H s.heap a (.dT kvs) from I.hok a _ ea)
    exact PySem.W.kia_one PySem.W.kitx_dict I.kIn ⟨o, h1, h2.1⟩ e (fun z => nomatch z) h
  | @ins a C dx fs ea cl ha hn htk hm =>
    cases (show u = Value.ref a from rx)
    obtain ⟨mA, O, _⟩ := ins_get I.hok ea
    obtain ⟨od, J, _⟩ := O.look
    exact PySem.W.kia_one (PySem.W.kitx_own (cl.get _) cl.hd ha hn htk hm) I.kIn J e (fun z => nomatch z) h
end
end L2
namespace L2
open PySem PySem.Spec PyProof.Rows
structure Room (k : Nat) (A : Around) : Prop where
  hd : A.handled = none
  dp : A.depth + 3 * k + 5 < recursionLimit
  un : A.units + 16 * k + 200 < cLine
theorem Room.mono {j k : Nat} {A : Around} (r : Room k A) (h : j ≤ k) : Room j A := ⟨r.hd, by have := r.dp; omega, by have := r.un; omega⟩
theorem Room.deeper {k : Nat} {A : Around} (r : Room (k + 1) A) (env : Env) : Room k (A.deeper env) :=
  ⟨r.hd, by have := r.dp; show A.depth + 1 + 3 * k + 5 < _; omega, by have := r.un; show A.units + 3 + 16 * k + 200 < _; omega⟩
theorem make_depth {A : Around} {C : Addr} {us : List Value} {kw : List (Str × Value)} : (A.under (.builtin "type.__call__" ⟨.ref C :: us, kw⟩)).depth = A.depth + 1 := by
  first | rfl | simp [Around.under, Code.weight, Code.isCreation, Code.isGuard, Code.isCaller, Code.frames, Code.isFrame, guardIds]
theorem make_units {A : Around} {C : Addr} {us : List Value} {kw : List (Str × Value)} : (A.under (.builtin "type.__call__" ⟨.ref C :: us, kw⟩)).units = A.units + 1 := by
  first | rfl | simp [Around.under, Code.cUnits, Code.frames, Code.isFrame]
theorem Room.make {k : Nat} {A : Around} (r : Room (k + 1) A) (C : Addr) (us : List Value) (kw : List (Str × Value)) : Room k (A.under (.builtin "type.__call__" ⟨.ref C :: us, kw⟩)) :=
  ⟨r.hd, by have := r.dp; rw [make_depth]; omega, by have := r.un; rw [make_units]; omega⟩
theorem Room.depth {k : Nat} {A : Around} (r : Room k A) : A.depth < recursionLimit := by have := r.dp; omega
theorem Room.units {k : Nat} {A : Around} (r : Room k A) : A.units + 64 < cLine := by have := r.un; omega
def tNil : TA := fun _ H Q => Q [] H
def tCons (ta : TE) (tr : TA) : TA := fun σ H Q => ta σ H fun x H1 => tr σ H1 fun xs H2 => Q (x :: xs) H2
section
variable {X : Cx} {e : Expr} {es : List Expr} {te : TE} {t : TA} {pos : Pos}
theorem pa_nil : PA X [] tNil := fun _ _ _ _ H Q I h => Calls.spliced_nil ⟨[], H, I, .nil, h⟩
theorem pa_cons (ha : PE X e te) (hr : PA X es t) (hs : starEach (e :: es) X.env = (false, eval e X.env) :: starEach es X.env := by rfl) : PA X (e :: es) (tCons te t) := by
  intro pos pins s σ H Q I h
  rw [hs]
  show wpAny _ _ (spliced ((false, eval e X.env) :: backTo pos (starEach es X.env))) _ _ s
  refine Calls.spliced_cons (thn (ha pins s σ H _ I h) fun u s1 ⟨x, H1, I1, r1, q1⟩ => ?_)
  exact thn (hr pos pins s1 σ H1 _ I1 q1) fun us s2 ⟨xs, H2, I2, r2, q2⟩ => ⟨x :: xs, H2, I2, .cons r1 r2, q2⟩
def tTup (t : TA) : TE := fun σ H Q => t σ H fun xs H1 => xs.length ≤ sizeLine ∧ ∀ p, H1 p = none → Q (.ref p) (upd H1 p (.tup xs))
def tLst (t : TA) : TE := fun σ H Q => t σ H fun xs H1 => xs.length ≤ sizeLine ∧ ∀ p, H1 p = none → Q (.ref p) (upd H1 p (.lst xs))
theorem pe_tup {x1} (h : PA X es t) : PE X (.Tuple es x1 pos) (tTup t) := by
  intro pins s σ H Q I hq
  refine wpAny_Tuple_spliced (thn (h pos pins s σ H _ I hq) fun us s1 ⟨xs, H1, I1, r, z, q⟩ => ⟨by rw [← r.length]; exact z, ?_⟩)
  have hf : H1 s1.heap.objs.size = none := I1.hok.fresh (Nat.le_refl _)
  refine ⟨.ref s1.heap.objs.size, upd H1 s1.heap.objs.size (.tup xs), I1.laid (t' := s1.toks) (fun b u e => Heap.get?_push_of_some _ e) (Nat.le_refl _) ?_, rfl, q _ hf⟩
  exact ⟨z, us, r, ⟨_, Heap.get?_push_size _ rfl, rfl, _, rfl⟩⟩
theorem pe_lst (h : PA X es t) : PE X (.List es pos) (tLst t) := by
  intro pins s σ H Q I hq
  refine wpAny_List_spliced (thn (h pos pins s σ H _ I hq) fun us s1 ⟨xs, H1, I1, r, z, q⟩ => ⟨by rw [← r.length]; exact z, ?_⟩)
  have hf : H1 s1.heap.objs.size = none := I1.hok.fresh (Nat.le_refl _)
  refine ⟨.ref s1.heap.objs.size, upd H1 s1.heap.objs.size (.lst xs), I1.laid (t' := s1.toks) (fun b u e => Heap.get?_push_of_some _ e) (Nat.le_refl _) ?_, rfl, q _ hf⟩
  exact ⟨z, us, 0, r, Heap.get?_push_size _ rfl⟩
end
abbrev Sp := List V → Hp → VK → XK → Prop
abbrev CXT := List Env → Hp → Shared → XK → Value → Shared → Prop
structure Env0 (P : Program) (w : World) (K : PySem.W.Frag) (mg : Str → Option Value) (base : Heap) (A : Around) (outer : List Env) (s : Shared) (H : Hp) : Prop where
  frames : A.frames = some outer
  mod : Mod K mg base
  bs : ∀ b o, base.get? b = some o → s.heap.get? b = some o ∧ H b = none
  bsz : base.objs.size ≤ s.heap.objs.size
  funs : s.heap.FunFrames base outer
  frf : ∀ b ∈ frs outer, H b = none
  hok : HOk P w H s.heap
  bare : AllBare s.gens
def CE (outer : List Env) (P : Program) (w : World) (H : Hp) (s : Shared) (Q : VK) (u : Value) (s' : Shared) : Prop :=
  ∃ v H', s'.os = s.os ∧ AllBare s'.gens ∧ Un (frs outer) [] H H' s.heap s'.heap ∧ HOk P w H' s'.heap ∧ RelV v u ∧ Q v H'
def CR (CX : CXT) (outer : List Env) (P : Program) (w : World) (H : Hp) (s : Shared) (Q : VK) (E : XK) (r : Result) (s' : Shared) : Prop :=
  match r with
  | .ok (.ret u) => CE outer P w H s Q u s'
  | .ok _ => False
  | .error e => CX outer H s E e s'
structure FnOk (P : Program) (w : World) (K : PySem.W.Frag) (mg : Str → Option Value) (base : Heap) (CX : CXT) (k : Nat) (f : Addr) (fd : FuncData) (ps : List Str) (sp : Sp) : Prop where
  len : ∀ vs H Q E, sp vs H Q E → vs.length = ps.length
  run : ∀ (A : Around) (outer : List Env) (s : Shared) (H : Hp) (args : Args) (us : List Value) (vs : List V) (Q : VK) (E : XK), Room k A → Env0 P w K mg base A outer s H → BindsTo s fd args (ps.zip us) → Vals vs us → sp vs H Q E →
    codeAny (model P w) A (.call (.ref f) args) (CR CX outer P w H s Q E) s
theorem Env0.make {P : Program} {w : World} {K : PySem.W.Frag} {mg : Str → Option Value} {base : Heap} {A : Around} {outer : List Env} {s : Shared} {H : Hp} (e : Env0 P w K mg base A outer s H) (C : Addr) (us : List Value) (kw : List (Str × Value)) :
    Env0 P w K mg base (A.under (.builtin "type.__call__" ⟨.ref C :: us, kw⟩)) outer s H := ⟨by first | exact e.frames | (simpa [Around.under, Code.envs, Code.isFrame, pushEnvs] using e.frames), e.mod, e.bs, e.bsz, e.funs, e.frf, e.hok, e.bare⟩
section
variable {X : Cx} {pins : List (Addr × Obj)} {σ : St} {H : Hp} {s s' : Shared}
theorem Inv.env0 (I : Inv X pins σ H s) : Env0 X.prog X.w X.K X.mg X.base X.A X.stack s H :=
  ⟨I.ok.frames, I.ok.mod, I.bs, Nat.le_trans I.ok.bsz I.sz, I.stack, I.stkFree, I.hok, I.bare⟩
theorem Inv.after {Q : VK} {u : Value} (I : Inv X pins σ H s) (h : CE X.stack X.prog X.w H s Q u s') : EP X pins σ Q u s' := by
  obtain ⟨v, H', os, bare, un, hok, r, q⟩ := h
  obtain ⟨hh, g, d, t, os'⟩ := s'
  obtain rfl : os' = s.os := os
  exact ⟨v, H', I.call (h' := hh) (g' := g) (d' := d) (t' := t) (ch := []) un hok bare (fun b z => absurd z (by simp)), r, q⟩
end
def tCall (sp : Sp) (dvs : List V) (E : XK) (t : TA) : TE := fun σ H Q => t σ H fun vs H1 => sp (vs ++ dvs) H1 Q E
def tMeth (C : Addr) (m : Str) (sp : Sp) (dvs : List V) (E : XK) (ta : TE) (t : TA) : TE := fun σ H Q => ta σ H fun x H1 => ∃ a dx fs, x = .ref a ∧ H1 a = some (.ins C dx fs) ∧ fs.lookup m = none ∧
  t σ H1 fun vs H2 => sp (x :: (vs ++ dvs)) H2 Q E
def tMake (C : Addr) (sp : Sp) (dvs : List V) (E : XK) (t : TA) : TE := fun σ H Q => t σ H fun vs H1 => ∀ x dx, H1 x = none → H1 dx = none → dx ≠ x →
  sp (.ref x :: (vs ++ dvs)) (upd (upd H1 dx (.own x)) x (.ins C dx [])) (fun v H2 => v = .non ∧ Q (.ref x) H2) E
def Binds (K : PySem.W.Frag) (fd : FuncData) (ps : List Str) (ds : List Value) : Prop :=
  ∀ (s : Shared) (us : List Value), K.In s.heap → (us ++ ds).length = ps.length → BindsTo s fd ⟨us, []⟩ (ps.zip (us ++ ds))
theorem Binds.all {K : PySem.W.Frag} {fd : FuncData} {ps : List Str} (h : ∀ us : List Value, us.length = ps.length → bindArgs fd ⟨us, []⟩ = pure (ps.zip us)) : Binds K fd ps [] := fun s us _ hl => by
  rw [List.append_nil] at hl ⊢
  exact .of_eq (h us hl)
def Passes (CX : CXT) (X : Cx) (E : XK) : Prop := ∀ (pins : List (Addr × Obj)) (σ : St) (H : Hp) (s : Shared) (e : Value) (s' : Shared), Inv X pins σ H s → CX X.stack H s E e s' → X.xe e s'
section
variable {X : Cx} {CX : CXT} {k : Nat} {f C : Addr} {fd : FuncData} {ps : List Str} {sp : Sp} {dvs : List V} {ds : List Value} {E : XK} {x m : Str} {p pos apos : Pos} {e o : Expr} {es : List Expr} {ta : TE} {t : TA}
theorem run_fn {pins : List (Addr × Obj)} {σ : St} {H : Hp} {s : Shared} {Q : VK} {us : List Value} {vs : List V} (F : FnOk X.prog X.w X.K X.mg X.base CX k f fd ps sp) (hr : Room k X.A) (hb : Binds X.K fd ps ds) (hd : Vals dvs ds) (hx : Passes CX X E)
    (I : Inv X pins σ H s) (r : Vals vs us) (h : sp (vs ++ dvs) H Q E) : wpAny (model X.prog X.w) X.A (call (.ref f) us) (EP X pins σ Q) X.xe s := by
  have r2 : Vals (vs ++ dvs) (us ++ ds) := r.append hd
  have hl : (us ++ ds).length = ps.length := by rw [← r2.length]; exact F.len _ _ _ _ h
  refine wpAny_call (codeAny_mono (F.run X.A X.stack s H ⟨us, []⟩ (us ++ ds) (vs ++ dvs) Q E hr I.env0 (hb s us I.kIn hl) r2 h) fun r s' hq => ?_)
  cases r with
  | error e => exact hx pins σ H s e s' I hq
  | ok fl =>
    cases fl with
    | ret u => exact I.after hq
    | next => exact False.elim hq
    | brk => exact False.elim hq
    | cont => exact False.elim hq
theorem pe_call (F : FnOk X.prog X.w X.K X.mg X.base CX k f fd ps sp) (hr : Room k X.A) (hg : Gl X x) (hm : X.mg x = some (.ref f)) (hk : PySem.W.keepIn X.K (.ref f) = true) (hb : Binds X.K fd ps ds) (hd : Vals dvs ds) (hx : Passes CX X E)
    (ha : PA X (e :: es) t) (hdb : (x == ("__debug__" : Str)) = false := by decide) (he : starEach (e :: es) X.env = (false, eval e X.env) :: starEach es X.env := by rfl) (hpl : (backTo pos (starEach es X.env)).any (·.1) = false := by rfl) :
    PE X (.Call (.Name x p) (e :: es) [] pos) (tCall sp dvs E t) := by
  intro pins s σ H Q I h
  refine wpAny_Call_Name_kw (ld_glob I hg hm ?_ hdb)
  refine PySem.W.callWith_K (h₀ := X.base) I.ok.mod.kin hk (thn (ha pos pins s σ H _ I h) fun us s1 ⟨vs, H1, I1, r, q⟩ => ⟨I1.kIn, ?_⟩) he hpl
  exact run_fn F hr hb hd hx I1 r q
theorem pe_meth {pl : Sem Bool} (he : PE X o ta) (c : Cls X.K C) (hm : Meth X.K C m f) (F : FnOk X.prog X.w X.K X.mg X.base CX k f fd ps sp) (hr : Room k X.A) (hb : Binds X.K fd ps ds) (hd : Vals dvs ds) (hx : Passes CX X E) (ha : PA X (e :: es) t)
    (hst : starEach (e :: es) X.env = (false, eval e X.env) :: starEach es X.env := by rfl) (hpl : (backTo pos (starEach es X.env)).any (·.1) = false := by rfl)
    (ht : eval (.Call (.Attribute o m apos) (e :: es) [] pos) X.env = (do
      let ov ← eval o X.env
      standAt apos.atName
      let (f, first) ← holding [ov] (getMethod ov m pl)
      callWith pos f first (backTo pos (starEach (e :: es) X.env)) (backToKw pos (keywordEach [] X.env))) := by rfl) :
    PE X (.Call (.Attribute o m apos) (e :: es) [] pos) (tMeth C m sp dvs E ta t) := by
  intro pins s σ H Q I h
  refine PySem.W.methodCall_KW (pl := pl) (thn (he pins s σ H _ I h) fun u s1 ⟨x, H1, I1, rx, a, dx, fs, ex, ea, l, q⟩ => ?_) ht
  subst ex
  obtain rfl : u = Value.ref a := rx
  refine getmeth_ok I1 ea c hm l ?_
  refine PySem.W.callWith_K (first := [.ref a]) (h₀ := X.base) I.ok.mod.kin hm.kp (thn (ha pos pins s1 σ H1 _ I1 q) fun us s2 ⟨vs, H2, I2, r, q2⟩ => ⟨I2.kIn, ?_⟩) hst hpl
  exact run_fn (us := .ref a :: us) (vs := .ref a :: vs) F hr hb hd hx I2 (.cons rfl r) q2
theorem pe_meth0 {pl : Sem Bool} (he : PE X o ta) (c : Cls X.K C) (hm : Meth X.K C m f) (F : FnOk X.prog X.w X.K X.mg X.base CX k f fd ps sp) (hr : Room k X.A) (hb : Binds X.K fd ps ds) (hd : Vals dvs ds) (hx : Passes CX X E)
    (ht : eval (.Call (.Attribute o m apos) [] [] pos) X.env = (do
      let ov ← eval o X.env
      standAt apos.atName
      let (f, first) ← holding [ov] (getMethod ov m pl)
      callWith pos f first (backTo pos (starEach [] X.env)) (backToKw pos (keywordEach [] X.env))) := by rfl) :
    PE X (.Call (.Attribute o m apos) [] [] pos) (tMeth C m sp dvs E ta tNil) := by
  intro pins s σ H Q I h
  refine PySem.W.methodCall_KW (pl := pl) (thn (he pins s σ H _ I h) fun u s1 ⟨x, H1, I1, rx, a, dx, fs, ex, ea, l, q⟩ => ?_) ht
  subst ex
  obtain rfl : u = Value.ref a := rx
  refine getmeth_ok I1 ea c hm l ?_
  exact PySem.W.callWith_K0 (first := [.ref a]) I1.kIn hm.kp (run_fn (us := [.ref a]) (vs := [.ref a]) F hr hb hd hx I1 (.cons rfl .nil) q)
structure Mk (K : PySem.W.Frag) (C f : Addr) : Prop where
  makes : PySem.W.makesIn K C = true
  init : PySem.W.findIn K (.ref C) "__init__" = some (some (.ref f))
  fn : PySem.W.isFn K (.ref f) = true
  kp : PySem.W.keepIn K (.ref C) = true
theorem run_make {pins : List (Addr × Obj)} {σ : St} {H : Hp} {s : Shared} {Q : VK} {us : List Value} {vs : List V} (M : Mk X.K C f) (F : FnOk X.prog X.w X.K X.mg X.base CX k f fd ps sp) (hr : Room (k + 1) X.A) (hb : Binds X.K fd ps ds) (hd : Vals dvs ds)
    (hx : Passes CX X E) (I : Inv X pins σ H s) (r : Vals vs us)
    (h : ∀ x dx, H x = none → H dx = none → dx ≠ x → sp (.ref x :: (vs ++ dvs)) (upd (upd H dx (.own x)) x (.ins C dx [])) (fun v H2 => v = .non ∧ Q (.ref x) H2) E) :
    wpAny (model X.prog X.w) X.A (call (.ref C) us) (EP X pins σ Q) X.xe s := by
  have hq := h (s.heap.objs.size + 1) s.heap.objs.size (I.hok.fresh (Nat.le_succ _)) (I.hok.fresh (Nat.le_refl _)) (Nat.ne_of_lt (Nat.lt_succ_self _))
  have I2 := Inv.made (C := C) I
  have r2 : Vals (V.ref (s.heap.objs.size + 1) :: (vs ++ dvs)) (Value.ref (s.heap.objs.size + 1) :: (us ++ ds)) := .cons rfl (r.append hd)
  have hl : (Value.ref (s.heap.objs.size + 1) :: us ++ ds).length = ps.length := by
    have e := r2.length
    rw [F.len _ _ _ _ hq] at e
    exact e.symm
  refine wpAny_call (make_map (f := f) I.kIn M.makes M.init (beq_iff_eq.mp M.fn) (codeAny_mono (F.run _ X.stack _ _ ⟨Value.ref (s.heap.objs.size + 1) :: us, []⟩ (Value.ref (s.heap.objs.size + 1) :: (us ++ ds)) _ _ E (hr.make C us [])
    (I2.env0.make C us []) (hb _ (Value.ref (s.heap.objs.size + 1) :: us) I2.kIn hl) r2 hq) fun r s' hq' => ?_))
  cases r with
  | error e => exact hx pins σ _ _ e s' I2 hq'
  | ok fl =>
    cases fl with
    | ret u =>
      obtain ⟨v, H', I3, rv, ev, q3⟩ := I2.after hq'
      subst ev
      exact ⟨rv, ⟨V.ref (s.heap.objs.size + 1), H', I3, rfl, q3⟩⟩
    | next => exact False.elim hq'
    | brk => exact False.elim hq'
    | cont => exact False.elim hq'
theorem pe_make (M : Mk X.K C f) (F : FnOk X.prog X.w X.K X.mg X.base CX k f fd ps sp) (hr : Room (k + 1) X.A) (hg : Gl X x) (hm : X.mg x = some (.ref C)) (hb : Binds X.K fd ps ds) (hd : Vals dvs ds) (hx : Passes CX X E)
    (ha : PA X (e :: es) t) (hdb : (x == ("__debug__" : Str)) = false := by decide) (he : starEach (e :: es) X.env = (false, eval e X.env) :: starEach es X.env := by rfl) (hpl : (backTo pos (starEach es X.env)).any (·.1) = false := by rfl) :
    PE X (.Call (.Name x p) (e :: es) [] pos) (tMake C sp dvs E t) := by
  intro pins s σ H Q I h
  refine wpAny_Call_Name_kw (ld_glob I hg hm ?_ hdb)
  refine PySem.W.callWith_K (h₀ := X.base) I.ok.mod.kin M.kp (thn (ha pos pins s σ H _ I h) fun us s1 ⟨vs, H1, I1, r, q⟩ => ⟨I1.kIn, ?_⟩) he hpl
  exact run_make M F hr hb hd hx I1 r q
end
section
variable {X : Cx} {CX : CXT} {k : Nat} {f C : Addr} {fd : FuncData} {ps ks : List Str} {sp : Sp} {E : XK} {x m : Str} {p pos apos kpos : Pos} {e o : Expr} {es : List Expr} {kws : List Keyword} {te ta : TE} {t tk : TA} {nm : Option Str}
structure KBinds (K : PySem.W.Frag) (fd : FuncData) (ps ks : List Str) (g : List Value → List Value → List Value) (gV : List V → List V → List V) : Prop where
  to : ∀ (s : Shared) (us ws : List Value), K.In s.heap → (g us ws).length = ps.length → BindsTo s fd ⟨us, ks.zip ws⟩ (ps.zip (g us ws))
  rel : ∀ {vs : List V} {us : List Value} {zs : List V} {ws : List Value}, Vals vs us → Vals zs ws → Vals (gV vs zs) (g us ws)
variable {g : List Value → List Value → List Value} {gV : List V → List V → List V}
end
structure FnScope (N P : List Str) (sc : Scope) : Prop where
  kind : sc.kind = .function
  co : sc.isCoroutine = false
  gen : sc.isGenerator = false
  nd : N.Nodup
  pre : N.take P.length = P
  par : ∀ x ∈ P, sc.names.lookup x = some .local ∨ sc.names.lookup x = some .cell
  nofree : ∀ y ∈ sc.names, y.2 ≠ .free
theorem bindL_out {kindOf : Str → Option NameKind} {x : Str} : ∀ {binds : List (Str × Value)} {m : Str → Option Value}, (∀ v, (x, v) ∉ binds) → bindL kindOf binds m x = m x
  | [], _, _ => rfl
  | (n, v) :: r, m, h => by
    unfold bindL
    rw [bindL_out fun w hw => h w (List.mem_cons_of_mem _ hw)]
    split
    · have : x ≠ n := by rintro rfl; exact h v List.mem_cons_self
      simp [this]
    · rfl
theorem bindC_out {kindOf : Str → Option NameKind} {x : Str} : ∀ {binds : List (Str × Value)} {m : Str → Option Value}, (∀ v, (x, v) ∉ binds) → bindC kindOf binds m x = m x
  | [], _, _ => rfl
  | (n, v) :: r, m, h => by
    unfold bindC
    rw [bindC_out fun w hw => h w (List.mem_cons_of_mem _ hw)]
    split
    · rfl
    · have : x ≠ n := by rintro rfl; exact h v List.mem_cons_self
      simp [this]
theorem bindL_get {kindOf : Str → Option NameKind} {x : Str} {v : Value} : ∀ {P : List Str} {vs : List Value} {i : Nat} {m : Str → Option Value}, P.Nodup → P[i]? = some x → vs[i]? = some v → kindOf x = some .local →
    bindL kindOf (P.zip vs) m x = some v
  | [], _, _, _, _, h, _, _ => by simp at h
  | _ :: _, [], _, _, _, _, h, _ => by simp at h
  | p :: P, w :: vs, 0, m, nd, h1, h2, hk => by
    simp at h1 h2; subst h1; subst h2
    show bindL kindOf ((p, w) :: P.zip vs) m p = _
    unfold bindL
    rw [bindL_out fun v hv => (List.nodup_cons.mp nd).1 (List.of_mem_zip hv).1, if_pos hk]
    simp
  | p :: P, w :: vs, i + 1, m, nd, h1, h2, hk => by
    show bindL kindOf ((p, w) :: P.zip vs) m x = _
    unfold bindL
    exact bindL_get (i := i) (List.nodup_cons.mp nd).2 (by simpa using h1) (by simpa using h2) hk
theorem bindC_get {kindOf : Str → Option NameKind} {x : Str} {v : Value} : ∀ {P : List Str} {vs : List Value} {i : Nat} {m : Str → Option Value}, P.Nodup → P[i]? = some x → vs[i]? = some v → kindOf x ≠ some .local →
    bindC kindOf (P.zip vs) m x = some v
  | [], _, _, _, _, h, _, _ => by simp at h
  | _ :: _, [], _, _, _, _, h, _ => by simp at h
  | p :: P, w :: vs, 0, m, nd, h1, h2, hk => by
    simp at h1 h2; subst h1; subst h2
    show bindC kindOf ((p, w) :: P.zip vs) m p = _
    unfold bindC
    rw [bindC_out fun v hv => (List.nodup_cons.mp nd).1 (List.of_mem_zip hv).1, if_neg hk]
    simp
  | p :: P, w :: vs, i + 1, m, nd, h1, h2, hk => by
    show bindC kindOf ((p, w) :: P.zip vs) m x = _
    unfold bindC
    exact bindC_get (i := i) (List.nodup_cons.mp nd).2 (by simpa using h1) (by simpa using h2) hk
def start (N : List Str) (vs : List V) : St := vs.map some ++ List.replicate (N.length - vs.length) none
def cxOf (CX : CXT) (P : Program) (w : World) (K : PySem.W.Frag) (mg : Str → Option Value) (base : Heap) (N : List Str) (qual : Str) (scope : Scope) (f : Addr) (cd : Value) (A : Around) (outer : List Env) (s : Shared) (H : Hp) (E : XK) : Cx where
  prog := P
  w := w
  K := K
  mg := mg
  base := base
  A := A.deeper (envOfC qual scope s.heap.objs.size f cd)
  N := N
  s₀ := s
  H₀ := H
  env := envOfC qual scope s.heap.objs.size f cd
  outer := outer
  stack := envOfC qual scope s.heap.objs.size f cd :: outer
  ex := []
  calm := true
  fn := fun _ => true
  pn := []
  xe := fun e s' => wpAny (model P w) (A.deeper (envOfC qual scope s.heap.objs.size f cd)) (leaving (envOfC qual scope s.heap.objs.size f cd) e) (fun _ s'' => CX outer H s E e s'') (fun e' s'' => CX outer H s E e' s'') s'
theorem cell_has {sc : Scope} {n : Nat} {x : Str} (h : sc.names.lookup x = some .cell) : ∃ c, (cellsFrom n sc.names []).lookup x = some c := by
  have q := PySem.W.cellsFrom_some sc.names n [] (.inl h)
  exact Option.isSome_iff_exists.mp q
theorem inv_start {CX : CXT} {P : Program} {w : World} {K : PySem.W.Frag} {mg : Str → Option Value} {base : Heap} {N ps : List Str} {qual : Str} {scope : Scope} {f : Addr} {cd : Value} {A : Around} {outer : List Env} {s s1 : Shared} {H : Hp} {E : XK} {us : List Value} {vs : List V}
    (S : FnScope N ps scope) (hd : A.handled = none) (e0 : Env0 P w K mg base A outer s H) (hl : vs.length = ps.length) (r : Vals vs us)
    (x : InCallC s s.heap.objs.size (bindL (envOfC qual scope s.heap.objs.size f cd).kindOf (ps.zip us) fun _ => none) (cellsFrom (s.heap.objs.size + 1) scope.names []) (bindC (envOfC qual scope s.heap.objs.size f cd).kindOf (ps.zip us) fun _ => none) s1) :
    Inv (cxOf CX P w K mg base N qual scope f cd A outer s H E) [] (start N vs) H s1 := by
  have hpl : ps.length ≤ N.length := by have := congrArg List.length S.pre; rw [List.length_take] at this; omega
  obtain ⟨h1, tk, rfl, hk⟩ := x.done
  have noA : ∀ b : Addr, b ∉ (cxOf CX P w K mg base N qual scope f cd A outer s H E).ex := fun b z => absurd (show b ∈ ([] : List Addr) from z) (by simp)
  refine ⟨⟨e0.mod, S.kind, rfl, rfl, Nat.le_refl _, fun y z c h1 h2 => ?_, fun y hy => ?_, fun y c _ h => ?_, fun _ => hd, Around.frames_deeper e0.frames, .inr ⟨rfl, rfl⟩, fun b z => absurd z (noA b), e0.bs, e0.bsz, fun b _ _ => noA b, fun b z => absurd z (noA b), e0.funs, e0.frf⟩,
    rfl, e0.bare, Un.kept hk, ⟨_, x.toInCall.ns, fun i y v h1 h2 h3 => ?_⟩, fun y c h => ⟨_, x.cell y c h⟩, e0.hok.fresh (Nat.le_refl _), fun y c h => ?_, fun p hp => absurd (show p ∈ ([] : List (Addr × Obj)) from hp) (by simp), e0.hok.kept hk, ?_⟩
  · exact name_of_addr x.apart (PySem.mem_of_lookup h1) (PySem.mem_of_lookup h2)
  · have hy : scope.names.lookup y = some .cell ∨ scope.names.lookup y = some .free := hy
    rcases hy with hy | hy
    · exact cell_has hy
    · exact absurd rfl (S.nofree _ (PySem.mem_of_lookup hy))
  · exact Nat.le_of_lt (x.above y c (PySem.mem_of_lookup h))
  · have hi : i < vs.length := by
      unfold start at h2
      by_cases hi : i < vs.length
      · exact hi
      · rw [List.getElem?_append_right (by simpa using hi)] at h2
        rw [List.getElem?_replicate] at h2
        split at h2 <;> cases h2
    have ha : vs[i]? = some v := by
      unfold start at h2
      rw [List.getElem?_append_left (by simpa using hi), List.getElem?_map] at h2
      cases e : vs[i]? with
      | none => rw [e] at h2; cases h2
      | some a => rw [e] at h2; cases h2; rfl
    obtain ⟨u, hu, rv⟩ := r.get ha
    have hp : ps[i]? = some y := by
      rw [← S.pre, List.getElem?_take_of_lt (by omega)]; exact h1
    have ndP : ps.Nodup := by rw [← S.pre]; exact S.nd.sublist (List.take_sublist _ _)
    refine ⟨u, rv, ?_⟩
    rcases S.par y (List.mem_of_getElem? hp) with k | k
    · exact .inl ⟨k, bindL_get ndP hp hu k⟩
    · obtain ⟨c, e⟩ := cell_has (n := s.heap.objs.size + 1) k
      refine .inr ⟨.inl k, c, e, ?_⟩
      have q := x.cell y c e
      rw [bindC_get ndP hp hu (by show scope.names.lookup y ≠ _; rw [k]; decide)] at q
      exact q
  · exact e0.hok.fresh (Nat.le_of_lt (x.above y c (PySem.mem_of_lookup h)))
  · unfold start
    show _ = N.length
    rw [List.length_append, List.length_map, List.length_replicate]
    omega
theorem fn_of {CX : CXT} {P : Program} {w : World} {K : PySem.W.Frag} {mg : Str → Option Value} {base : Heap} {k : Nat} {f : Addr} {name qual : Str} {params : Arguments} {body : List Stmt} {scope : Scope} {dV kV doc pm cdv ct oc : Value} {an od : Option Addr}
    {osl : Array (Option Value)} {N ps : List Str} {sp : Sp} (lk : K.lookup f = some ⟨oc, od, .func (PySem.W.fnOf name qual params body scope dV kV doc pm an cdv ct), osl⟩) (hcd : PySem.W.codeIn K cdv qual = true) (S : FnScope N ps scope)
    (len : ∀ vs H Q E, sp vs H Q E → vs.length = ps.length)
    (hbody : ∀ (A : Around) (outer : List Env) (s : Shared) (H : Hp) (vs : List V) (Q : VK) (E : XK), Room k (A.deeper (envOfC qual scope s.heap.objs.size f cdv)) → sp vs H Q E →
      ∃ t, PSs (cxOf CX P w K mg base N qual scope f cdv A outer s H E) body t ∧ t { nx := fun _ H' => Q .non H', rt := Q } (start N vs) H) :
    FnOk P w K mg base CX (k + 1) f (PySem.W.fnOf name qual params body scope dV kV doc pm an cdv ct) ps sp := by
  refine ⟨len, fun A outer s H args us vs Q E hr e0 hb r hsp => ?_⟩
  have hl := len _ _ _ _ hsp
  have KX : K.In s.heap := e0.mod.kin.keeps fun b o e => (e0.bs b o e).1
  have lim : s.heap.NoLimit := e0.mod.nolimit.keeps fun b o e => (e0.bs b o e).1
  have hkind : ∀ y ∈ ps.zip us, scope.names.lookup y.1 = some .local ∨ (scope.names.lookup y.1 = some .cell ∧ ((cellsFrom (s.heap.objs.size + 1) scope.names []).lookup y.1).isSome = true) := fun ⟨n, v⟩ hy => by
    rcases S.par n (List.of_mem_zip hy).1 with q | q
    · exact .inl q
    · exact .inr ⟨q, PySem.W.cellsFrom_some _ _ _ (.inl q)⟩
  refine codeAny_call_function hr.depth (KX _ _ lk) rfl S.co S.gen rfl (PySem.W.codeRec_of KX hcd) (hb _ _ _ _ ?_)
  refine wpAny_newFunctionEnv_cells S.kind hkind fun env he s1 x => ?_
  subst he
  refine ⟨lim.keeps x.toInCall.keep, codeAny_func ?_⟩
  obtain ⟨t, ht, hq⟩ := hbody A outer s H vs Q E (hr.deeper _) hsp
  have I : Inv (cxOf CX P w K mg base N qual scope f cdv A outer s H E) [] (start N vs) H s1 := inv_start S hr.hd e0 hl r x
  refine wpAny_mono (ht [] s1 (start N vs) H _ I hq) (fun fl s' hs => ?_) fun e s' hs => hs
  have fin : ∀ {σ' : St} {H' : Hp} {v : V} {u : Value}, Inv (cxOf CX P w K mg base N qual scope f cdv A outer s H E) [] σ' H' s' → RelV v u → Q v H' → CE outer P w H s Q u s' :=
    fun {σ' H' v u} J rv q => ⟨v, H', J.os, J.bare, J.base, J.hok, rv, q⟩
  cases fl with
  | ret u =>
    obtain ⟨v, σ', H', J, rv, q⟩ := hs
    exact fin J rv q
  | next =>
    obtain ⟨σ', H', J, q⟩ := hs
    exact fin (v := V.non) (u := Value.none) J rfl q
  | brk =>
    obtain ⟨_, _, _, q⟩ := hs
    exact False.elim q
  | cont =>
    obtain ⟨_, _, _, q⟩ := hs
    exact False.elim q
end L2
namespace L2
open PySem PySem.Spec PyProof.Rows
section
variable {X : Cx} {x : Str} {p pos : Pos} {e : Expr} {es : List Expr} {t : TA} {id T : String} {r : List V → Hp → VK → Prop}
def tCB (r : List V → Hp → VK → Prop) (t : TA) : TE := fun σ H Q => t σ H fun vs H1 => r vs H1 Q
theorem pe_callB (hc : CallR X (.builtin id) r) (hg : Gl X x) (hm : X.mg x = none) (hv : bootBuiltins x = some (.builtin id)) (ha : PA X (e :: es) t) (hn : x ≠ "__name__" := by decide) (hdb : (x == ("__debug__" : Str)) = false := by decide)
    (he : starEach (e :: es) X.env = (false, eval e X.env) :: starEach es X.env := by rfl) (hpl : (backTo pos (starEach es X.env)).any (·.1) = false := by rfl) : PE X (.Call (.Name x p) (e :: es) [] pos) (tCB r t) := by
  intro pins s σ H Q I h
  refine wpAny_Call_Name_kw (ld_blt I hg hm hv ?_ hn hdb)
  exact PyProof.Rows.callWith_builtin1 (thn (ha pos pins s σ H _ I h) fun us s1 ⟨vs, H1, I1, r1, q1⟩ => hc pins s1 σ H1 vs us Q I1 r1 q1) he hpl
theorem pe_callTy (hc : CallR X (.type T) r) (hg : Gl X x) (hm : X.mg x = none) (hv : bootBuiltins x = some (.type T)) (ha : PA X (e :: es) t) (hn : x ≠ "__name__" := by decide) (hdb : (x == ("__debug__" : Str)) = false := by decide)
    (he : starEach (e :: es) X.env = (false, eval e X.env) :: starEach es X.env := by rfl) (hpl : (backTo pos (starEach es X.env)).any (·.1) = false := by rfl) : PE X (.Call (.Name x p) (e :: es) [] pos) (tCB r t) := by
  intro pins s σ H Q I h
  refine wpAny_Call_Name_kw (ld_blt I hg hm hv ?_ hn hdb)
  exact PyProof.Rows.callWith_type1 (thn (ha pos pins s σ H _ I h) fun us s1 ⟨vs, H1, I1, r1, q1⟩ => hc pins s1 σ H1 vs us Q I1 r1 q1) he hpl
end
end L2
namespace HT
open PySem PyProof.Rows
section
open PySem.SeqAt
open PySem.AutoSeq1 (wpAny_loadPart')
open PySem.MeetsSeq PySem.MeetsSeq2 PySem.MeetsSeq3
end
section
variable {prog : Program} {w : World} {A : Around} {E : Value → Shared → Prop} {s : Shared}
end
end HT
namespace L2
open PySem PySem.Spec PyProof.Rows
abbrev TO := St → Hp → (Option Int → Hp → Prop) → Prop
def PO (X : Cx) (e : Option Expr) (t : TO) : Prop :=
  ∀ (pins : List (Addr × Obj)) (s : Shared) (σ : St) (H : Hp) (Q : Option Int → Hp → Prop), Inv X pins σ H s → t σ H Q →
    wpAny (model X.prog X.w) X.A (evalPart e X.env) (fun u s' => ∃ o H', Inv X pins σ H' s' ∧ IsPart u o ∧ Q o H') X.xe s
def tPart (t : TE) : TO := fun σ H Q => t σ H fun x H1 => ∃ i, x = .int i ∧ Q (some i) H1
section
variable {X : Cx} {e : Expr} {te : TE} {lo hi : Option Expr} {tl th : TO} {pos p2 : Pos}
theorem po_some (h : PE X e te) : PO X (some e) (tPart te) := by
  intro pins s σ H Q I hw
  rw [evalPart_some]
  refine thn (h pins s σ H _ I hw) fun u s1 ⟨x, H1, I1, r1, q1⟩ => ?_
  obtain ⟨i, rfl, q⟩ := q1
  obtain ⟨t, rfl⟩ := r1
  exact ⟨some i, H1, I1, .int i t, q⟩
end
end L2
namespace L2
open PySem PySem.Spec PyProof.Rows
def ixN (n : Nat) (i : Int) : Option Nat := if 0 ≤ i then (if i < n then some i.toNat else none) else if -(n : Int) ≤ i then some (i + n).toNat else none
def atI {α : Type} (xs : List α) (i : Int) : Option α := (ixN xs.length i).bind fun j => xs[j]?
theorem ixN_seq {n : Nat} {i : Int} {j : Nat} (h : ixN n i = some j) : seqIndex? i n = some j ∧ j < n ∧ -(n : Int) ≤ i ∧ i < n := by
  unfold ixN at h
  by_cases h0 : 0 ≤ i
  · rw [if_pos h0] at h
    by_cases h1 : i < n
    · rw [if_pos h1] at h
      have e : i.toNat = j := Option.some.inj h
      exact ⟨by rw [seqIndex_of h0 h1, e], by omega, by omega, h1⟩
    · rw [if_neg h1] at h; cases h
  · rw [if_neg h0] at h
    by_cases h1 : -(n : Int) ≤ i
    · rw [if_pos h1] at h
      have e : (i + n).toNat = j := Option.some.inj h
      exact ⟨by rw [seqIndex_neg (by omega) h1, e], by omega, h1, by omega⟩
    · rw [if_neg h1] at h; cases h
theorem atI_get {α : Type} {xs : List α} {i : Int} {v : α} (h : atI xs i = some v) : ∃ j, seqIndex? i xs.length = some j ∧ xs[j]? = some v ∧ j < xs.length ∧ -(xs.length : Int) ≤ i ∧ i < xs.length := by
  unfold atI at h
  cases e : ixN xs.length i with
  | none => rw [e] at h; cases h
  | some j =>
    rw [e] at h
    obtain ⟨h1, h2, h3, h4⟩ := ixN_seq e
    exact ⟨j, h1, h, h2, h3, h4⟩
def PlainIx (b : Expr) : Prop := ∀ o i, subscripted b false o i = operate [o, i] (getItem o i)
def IxR (X : Cx) (r : R2) : Prop :=
  ∀ (value slice : Expr) (pins : List (Addr × Obj)) (s : Shared) (σ : St) (H : Hp) (x y : V) (v u : Value) (Q : VK), Inv X pins σ H s → RelV x v → RelV y u → r x y H Q →
    subscripted slice false v u = operate [v, u] (getItem v u) → wpAny (model X.prog X.w) X.A (subscriptTail value slice v u) (EP X pins σ Q) X.xe s
def MtR (X : Cx) (id : String) (r : V → List V → Hp → VK → Prop) : Prop :=
  ∀ (pins : List (Addr × Obj)) (s : Shared) (σ : St) (H : Hp) (x : V) (xs : List V) (v : Value) (us : List Value) (Q : VK), Inv X pins σ H s → RelV x v → Vals xs us → r x xs H Q →
    wpAny (model X.prog X.w) X.A (call (.builtin id) (v :: us)) (EP X pins σ Q) X.xe s
section
variable {X : Cx} {a b : Expr} {ta tb : TE} {pos : Pos}
theorem IxR.or {r r' : R2} (h : IxR X r) (h' : IxR X r') : IxR X (fun x y H Q => r x y H Q ∨ r' x y H Q) := by
  intro value slice pins s σ H x y v u Q I rx ry q hs
  rcases q with q | q
  · exact h value slice pins s σ H x y v u Q I rx ry q hs
  · exact h' value slice pins s σ H x y v u Q I rx ry q hs
theorem pe_ix {r : R2} (hr : IxR X r) (ha : PE X a ta) (hb : PE X b tb) (hs : PlainIx b) : PE X (.Subscript a b pos) (tOp r ta tb) := by
  intro pins s σ H Q I h
  exact Subscript_ (binT ha hb I h fun v u s2 x y H2 I2 rx ry q => hr a b pins s2 σ H2 x y v u Q I2 rx ry q (hs _ _))
def rIxL (K : PySem.W.Frag) : R2 := fun x y H Q => ∃ p xs i v, x = .ref p ∧ y = .int i ∧ SqL K H p xs ∧ atI xs i = some v ∧ Q v H
def rIxT (K : PySem.W.Frag) : R2 := fun x y H Q => ∃ p xs i v, x = .ref p ∧ y = .int i ∧ SqT K H p xs ∧ atI xs i = some v ∧ Q v H
def rIxS : R2 := fun x y H Q => ∃ z i c, x = .str z ∧ y = .int i ∧ z.length ≤ sizeLine ∧ atI z.cps.toList i = some c ∧ Q (.str ⟨#[c]⟩) H
theorem ix_list : IxR X (rIxL X.K) := by
  intro value slice pins s σ H x y v u Q I rx ry h hs
  obtain ⟨p, xs, i, z, rfl, rfl, hq, he, q⟩ := h
  cases rx
  obtain ⟨t, rfl⟩ := ry
  obtain ⟨its, r, pl, hz⟩ := I.list hq
  obtain ⟨j, h1, h2, h3, h4, h5⟩ := atI_get he
  obtain ⟨w, ew, rw'⟩ := r.get h2
  have hl := r.length
  have hn := line63
  have fin : EP X pins σ Q w s := ⟨z, H, I, rw', q⟩
  by_cases h0 : 0 ≤ i
  · have hj : i.toNat = j := by
      rw [seqIndex_of h0 h5] at h1
      exact Option.some.inj h1
    exact item_listR pl.isList h0 (by omega) (by rw [hj]; simpa using ew) fin hs
  · have hj : (i + (its.toArray.size : Int)).toNat = j := by
      rw [seqIndex_neg (by omega) h4] at h1
      rw [List.size_toArray, ← hl]
      exact Option.some.inj h1
    exact subscriptTail_builtinR (x := w) pl.isList.typeIs slot_list_getitem.lookup
      (wpAny_getItem_list_neg (Q := fun r s' => r = w ∧ EP X pins σ Q r s') pl.isList (by omega) (by rw [List.size_toArray] <;> omega) (by omega) (by rw [hj]; simpa using ew) ⟨rfl, fin⟩) hs
theorem ix_tup : IxR X (rIxT X.K) := by
  intro value slice pins s σ H x y v u Q I rx ry h hs
  obtain ⟨p, xs, i, z, rfl, rfl, hq, he, q⟩ := h
  cases rx
  obtain ⟨t, rfl⟩ := ry
  obtain ⟨its, r, pl, hz⟩ := I.tuple hq
  obtain ⟨j, h1, h2, h3, h4, h5⟩ := atI_get he
  obtain ⟨w, ew, rw'⟩ := r.get h2
  have hl := r.length
  have hn := line63
  have fin : EP X pins σ Q w s := ⟨z, H, I, rw', q⟩
  exact subscriptTail_builtinR (x := w) pl.typeIs slot_tuple_getitem.lookup
    (getItem_tuple (j := j) (Q := fun r s' => r = w ∧ EP X pins σ Q r s') pl (by omega) (by omega) (by rw [List.size_toArray, ← hl]; exact h1) (by simpa using ew) ⟨rfl, fin⟩) hs
theorem ix_str : IxR X rIxS := by
  intro value slice pins s σ H x y v u Q I rx ry h hs
  obtain ⟨z, i, c, rfl, rfl, hz, he, q⟩ := h
  obtain ⟨t, rfl⟩ := rx
  obtain ⟨t', rfl⟩ := ry
  obtain ⟨j, h1, h2, h3, h4, h5⟩ := atI_get he
  have hl : z.cps.toList.length = z.length := by simp [Str.length]
  rw [hl] at h1 h4 h5
  have hn := line63
  exact tail_any (typeIs_str s z t) slot_str_getitem.lookup (getItem_str (c := c) (by
    have e1 : decide (i < -(2 ^ 63 : Int)) = false := decide_eq_false (by omega)
    have e2 : decide (i ≥ 2 ^ 63) = false := decide_eq_false (by omega)
    rw [e1, e2, Bool.or_false]) (by rw [h1]; simpa using h2) ⟨.str ⟨#[c]⟩, H, I.tok _, ⟨_, rfl⟩, q⟩) hs
def rIx (K : PySem.W.Frag) : R2 := fun x y H Q => rIxL K x y H Q ∨ rIxT K x y H Q ∨ rIxS x y H Q
theorem ix_seq : IxR X (rIx X.K) := ix_list.or (ix_tup.or ix_str)
theorem mapSeq_set (its : List Value) (n j : Nat) (u : Value) : Obj.mapSeq (·.setIfInBounds j u) { cls := .type "list", data := .seq its.toArray n } = { cls := .type "list", data := .seq (its.set j u).toArray n } := by
  simp [Obj.mapSeq]
theorem Inv.lst {pins : List (Addr × Obj)} {σ : St} {H : Hp} {s : Shared} {p : Addr} {xs : List V} (I : Inv X pins σ H s) (h : H p = some (.lst xs)) :
    ∃ (its : List Value) (n : Nat), Vals xs its ∧ s.heap.get? p = some { cls := .type "list", data := .seq its.toArray n } ∧ xs.length ≤ sizeLine := by
  obtain ⟨z, its, n, r, e⟩ := I.hok p _ h
  exact ⟨its, n, r, e, z⟩
theorem Inv.lstUpd {pins : List (Addr × Obj)} {σ : St} {H : Hp} {s : Shared} {p : Addr} {xs ys : List V} {its its' : List Value} {n n' : Nat} {f : Obj → Obj} (I : Inv X pins σ H s) (h : H p = some (.lst xs))
    (ho : s.heap.get? p = some { cls := .type "list", data := .seq its.toArray n }) (hf : f { cls := .type "list", data := .seq its.toArray n } = { cls := .type "list", data := .seq its'.toArray n' }) (r : Vals ys its') (hz : ys.length ≤ sizeLine) (t : Nat) :
    Inv X pins σ (upd H p (.lst ys)) { s with heap := s.heap.update p f, toks := t } := by
  have e : (s.heap.update p f).get? p = some { cls := .type "list", data := .seq its'.toArray n' } := by
    rw [Heap.get?_update_self f ho (by rw [hf] <;> rfl), hf]
  refine I.write (x := p) (e := p) (by rw [h]; trivial) (.inl rfl) (fun b u hb q => (Heap.get?_update_other _ _ (Ne.symm hb)).trans q) ⟨_, e⟩ ?_
  exact ⟨hz, its', n', r, e⟩
def rSetL : V → V → V → Hp → (Hp → Prop) → Prop := fun o i v H Q => ∃ p xs k j, o = .ref p ∧ i = .int k ∧ H p = some (.lst xs) ∧ ixN xs.length k = some j ∧ Q (upd H p (.lst (xs.set j v)))
theorem set_list : PSet X rSetL := by
  intro pins s σ H o i v ov iv u Q I ro ri rv h
  obtain ⟨p, xs, k, j, rfl, rfl, hp, hj, q⟩ := h
  cases ro
  obtain ⟨t, rfl⟩ := ri
  obtain ⟨its, n, r, ho, hz⟩ := I.lst hp
  obtain ⟨h1, h2, h3, h4⟩ := ixN_seq hj
  have hl := r.length
  have hn := line63
  have I' : Inv X pins σ (upd H p (.lst (xs.set j v))) { s with heap := s.heap.update p (Obj.mapSeq (·.setIfInBounds j u)) } :=
    I.lstUpd hp ho (mapSeq_set its n j u) (r.set rv j) (by rw [List.length_set]; exact hz) s.toks
  by_cases h0 : 0 ≤ k
  · have hk : k.toNat = j := by
      rw [seqIndex_of h0 h4] at h1
      exact Option.some.inj h1
    exact PySem.W.ki_setAt ho h0 (by omega) (by rw [List.size_toArray, ← hl]; exact h4) (by rw [hk]; exact ⟨_, I', q⟩)
  · have hk : (k + (its.toArray.size : Int)).toNat = j := by
      rw [seqIndex_neg (by omega) h3] at h1
      rw [List.size_toArray, ← hl]
      exact Option.some.inj h1
    exact PySem.W.ki_setBack ho (by omega) (by rw [List.size_toArray, ← hl]; exact h3) (by omega) (by rw [hk]; exact ⟨_, I', q⟩)
def flatV : V → Bool
  | .non => true
  | .bl _ => true
  | .int _ => true
  | .str _ => true
  | _ => false
def eqV : V → V → Bool
  | .non, .non => true
  | .bl a, .bl b => a == b
  | .bl a, .int b => (if a then 1 else 0) == b
  | .int a, .bl b => a == (if b then 1 else 0)
  | .int a, .int b => a == b
  | .str a, .str b => a == b
  | _, _ => false
theorem eqAt_V {A : Around} {s : Shared} {y x : V} {u v : Value} (ry : RelV y u) (rx : RelV x v) (fy : flatV y = true) (fx : flatV x = true) : SeqAt.EqAt A s u v (eqV y x) := by
  cases y with
  | non =>
    cases ry
    cases x with
    | non => cases rx; exact SeqAt.EqAt.same _
    | bl b => cases rx; exact SeqAt.EqAt.none_bool b
    | int b => obtain ⟨t, rfl⟩ := rx; exact SeqAt.EqAt.none_int b t
    | str b => obtain ⟨t, rfl⟩ := rx; exact SeqAt.EqAt.none_str b t
    | _ => exact absurd (show false = true from fx) Bool.false_ne_true
  | bl a =>
    cases ry
    cases x with
    | non => cases rx; exact SeqAt.EqAt.bool_none a
    | bl b => cases rx; exact SeqAt.EqAt.bool_bool a b
    | int b => obtain ⟨t, rfl⟩ := rx; exact SeqAt.EqAt.bool_int a b t
    | str b => obtain ⟨t, rfl⟩ := rx; exact SeqAt.EqAt.bool_str a b t
    | _ => exact absurd (show false = true from fx) Bool.false_ne_true
  | int a =>
    obtain ⟨t', rfl⟩ := ry
    cases x with
    | non => cases rx; exact SeqAt.EqAt.int_none a t'
    | bl b => cases rx; exact SeqAt.EqAt.int_bool a t' b
    | int b => obtain ⟨t, rfl⟩ := rx; exact SeqAt.EqAt.int_int a t' b t
    | str b => obtain ⟨t, rfl⟩ := rx; exact SeqAt.EqAt.int_str a t' b t
    | _ => exact absurd (show false = true from fx) Bool.false_ne_true
  | str a =>
    obtain ⟨t', rfl⟩ := ry
    cases x with
    | non => cases rx; exact SeqAt.EqAt.str_none a t'
    | bl b => cases rx; exact SeqAt.EqAt.str_bool a t' b
    | int b => obtain ⟨t, rfl⟩ := rx; exact SeqAt.EqAt.str_int a t' b t
    | str b => obtain ⟨t, rfl⟩ := rx; exact SeqAt.EqAt.str_str a t' b t
    | _ => exact absurd (show false = true from fx) Bool.false_ne_true
  | _ => exact absurd (show false = true from fy) Bool.false_ne_true
def eqU (x : V) (u : Value) : Bool := match u with
  | .none => eqV .non x
  | .bool b => eqV (.bl b) x
  | .int i _ => eqV (.int i) x
  | .str z _ => eqV (.str z) x
  | _ => false
theorem eqU_of {x y : V} {u : Value} (r : RelV y u) (f : flatV y = true) : eqU x u = eqV y x := by
  cases y with
  | non => cases r; rfl
  | bl b => cases r; rfl
  | int i => obtain ⟨t, rfl⟩ := r; rfl
  | str z => obtain ⟨t, rfl⟩ := r; rfl
  | _ => exact absurd (show false = true from f) Bool.false_ne_true
theorem any_eqU {x : V} : ∀ {xs : List V} {us : List Value}, Vals xs us → xs.all flatV = true → us.any (eqU x) = xs.any fun y => eqV y x
  | _, _, .nil, _ => rfl
  | y :: xs, u :: us, .cons r t, f => by
    rw [List.all_cons, Bool.and_eq_true] at f
    rw [List.any_cons, List.any_cons, eqU_of r f.1, any_eqU t f.2]
theorem mem_eqAt {A : Around} {s : Shared} {x : V} {v : Value} (rx : RelV x v) (fx : flatV x = true) : ∀ {xs : List V} {us : List Value}, Vals xs us → xs.all flatV = true → ∀ u ∈ us, SeqAt.EqAt A s u v (eqU x u)
  | _, _, .nil, _ => fun u hu => by cases hu
  | y :: xs, u :: us, .cons r t, f => fun u' hu => by
    rw [List.all_cons, Bool.and_eq_true] at f
    rcases List.mem_cons.mp hu with rfl | hu
    · rw [eqU_of r f.1]; exact eqAt_V r rx f.1 fx
    · exact mem_eqAt rx fx t f.2 u' hu
def inV (x : V) (xs : List V) : Bool := xs.any fun y => eqV y x
def rIn (K : PySem.W.Frag) (neg : Bool) : R2 := fun x y H Q => ∃ p xs, y = .ref p ∧ (SqL K H p xs ∨ SqT K H p xs) ∧ flatV x = true ∧ xs.all flatV = true ∧ Q (.bl (if neg then !inV x xs else inV x xs)) H
theorem op_in_seq : OpR X (compareOp .In) (rIn X.K false) := by
  intro pins s σ H x y v u Q I rx ry h
  obtain ⟨p, xs, rfl, hq, fx, fs, q⟩ := h
  cases ry
  rcases hq with hq | hq
  · obtain ⟨its, r, pl, hz⟩ := I.list hq
    refine SeqAt.in_listAt (eqU x) pl.isList (fun w hw => mem_eqAt rx fx r fs w (by simpa using hw)) ⟨.bl _, H, I, rfl, ?_⟩
    rw [show its.toArray.any (eqU x) = its.any (eqU x) by simp, any_eqU r fs]
    exact q
  · obtain ⟨its, r, pl, hz⟩ := I.tuple hq
    refine SeqAt.in_tupleAt (eqU x) pl (fun w hw => mem_eqAt rx fx r fs w (by simpa using hw)) ⟨.bl _, H, I, rfl, ?_⟩
    rw [show its.toArray.any (eqU x) = its.any (eqU x) by simp, any_eqU r fs]
    exact q
theorem op_notIn_seq : OpR X (compareOp .NotIn) (rIn X.K true) := by
  intro pins s σ H x y v u Q I rx ry h
  obtain ⟨p, xs, rfl, hq, fx, fs, q⟩ := h
  cases ry
  rcases hq with hq | hq
  · obtain ⟨its, r, pl, hz⟩ := I.list hq
    refine SeqAt.notIn_listAt (eqU x) pl.isList (fun w hw => mem_eqAt rx fx r fs w (by simpa using hw)) ⟨.bl _, H, I, rfl, ?_⟩
    rw [show its.toArray.any (eqU x) = its.any (eqU x) by simp, any_eqU r fs]
    exact q
  · obtain ⟨its, r, pl, hz⟩ := I.tuple hq
    refine SeqAt.notIn_tupleAt (eqU x) pl (fun w hw => mem_eqAt rx fx r fs w (by simpa using hw)) ⟨.bl _, H, I, rfl, ?_⟩
    rw [show its.toArray.any (eqU x) = its.any (eqU x) by simp, any_eqU r fs]
    exact q
theorem op_notIn_str : OpR X (compareOp .NotIn) (fun x y H Q => ∃ i j, x = .str i ∧ y = .str j ∧ Q (.bl (!(!(Builtin.Str.occurrences j i 0 j.length 1).isEmpty))) H) := by
  intro pins s σ H x y v u Q I rx ry h
  obtain ⟨i, j, rfl, rfl, q⟩ := h
  obtain ⟨t, rfl⟩ := rx
  obtain ⟨t', rfl⟩ := ry
  exact notIn_str ⟨.bl _, H, I, rfl, q⟩
theorem call_len_seq : CallR X (.builtin "len") (fun xs H Q => ∃ p ys, xs = [.ref p] ∧ (SqL X.K H p ys ∨ SqT X.K H p ys) ∧ Q (.int ys.length) H) := by
  intro pins s σ H xs us Q I r h
  obtain ⟨p, ys, rfl, hq, q⟩ := h
  obtain ⟨u, rfl, rx⟩ := vals1 r
  cases rx
  have hn := line63
  rcases hq with hq | hq
  · obtain ⟨its, r', pl, hz⟩ := I.list hq
    have hlen := r'.length
    exact Calls.call_len_list pl.isList (by simp only [List.size_toArray] <;> omega) ⟨.int ys.length, H, I.tok _, ⟨s.toks + 1, by rw [List.size_toArray, hlen]⟩, q⟩
  · obtain ⟨its, r', pl, hz⟩ := I.tuple hq
    have hlen := r'.length
    exact len_tuple pl (by simp only [List.size_toArray] <;> omega) ⟨.int ys.length, H, I.tok _, ⟨s.toks + 1, by rw [List.size_toArray, hlen]⟩, q⟩
theorem call_len_str : CallR X (.builtin "len") (fun xs H Q => ∃ z, xs = [.str z] ∧ z.length ≤ sizeLine ∧ Q (.int z.length) H) := by
  intro pins s σ H xs us Q I r h
  obtain ⟨z, rfl, hz, q⟩ := h
  obtain ⟨u, rfl, t, rfl⟩ := vals1 r
  have hn := line63
  exact len_str (by omega) ⟨.int z.length, H, I.tok _, ⟨_, rfl⟩, q⟩
theorem CallR.or {f : Value} {r r' : List V → Hp → VK → Prop} (h : CallR X f r) (h' : CallR X f r') : CallR X f (fun xs H Q => r xs H Q ∨ r' xs H Q) := by
  intro pins s σ H xs us Q I rs q
  rcases q with q | q
  · exact h pins s σ H xs us Q I rs q
  · exact h' pins s σ H xs us Q I rs q
theorem call_list_of : CallR X (.type "list") (fun xs H Q => ∃ p ys, xs = [.ref p] ∧ (SqL X.K H p ys ∨ SqT X.K H p ys) ∧ ∀ l, H l = none → Q (.ref l) (upd H l (.lst ys))) := by
  intro pins s σ H xs us Q I r h
  obtain ⟨p, ys, rfl, hq, q⟩ := h
  obtain ⟨u, rfl, rx⟩ := vals1 r
  cases rx
  have fin : ∀ (its : List Value), Vals ys its → ys.length ≤ sizeLine → ∀ (h' : Heap) (c' : Nat), (∀ b o', s.heap.get? b = some o' → h'.get? b = some o') →
      h'.get? s.heap.objs.size = some { cls := .type "list", dict := none, data := .seq its.toArray c', slots := #[] } → EP X pins σ Q (.ref s.heap.objs.size) { s with heap := h' } := fun its r' hz h' c' kp e =>
    ⟨.ref s.heap.objs.size, _, I.laid (t' := s.toks) kp (Nat.le_refl _) (show ObjOk X.prog X.w _ h' _ (.lst ys) from ⟨hz, its, c', r', e⟩), rfl, q _ (I.hok.fresh (Nat.le_refl _))⟩
  rcases hq with hq | hq
  · obtain ⟨its, r', pl, hz⟩ := I.list hq
    have hlen := r'.length
    obtain ⟨o, ho, hc, n, hd⟩ := pl.isList
    exact call_list_seq p (.inl rfl) ho hc hd (fun h' c' kp e => fin its r' hz h' c' kp e) (by simp only [List.size_toArray] <;> omega)
  · obtain ⟨its, r', pl, hz⟩ := I.tuple hq
    have hlen := r'.length
    obtain ⟨o, ho, hc, n, hd⟩ := pl
    exact call_list_seq p (.inr rfl) ho hc hd (fun h' c' kp e => fin its r' hz h' c' kp e) (by simp only [List.size_toArray] <;> omega)
def tyV (K : PySem.W.Frag) (T : String) (x : V) (H : Hp) : Prop := match x with
  | .str _ => T = "str"
  | .int _ => T = "int"
  | .ref p => (T = "list" ∧ ∃ xs, SqL K H p xs) ∨ (T = "tuple" ∧ ∃ o, K.lookup p = some o ∧ o.cls = .type "tuple" ∧ o.dict = none) ∨
      (T = "dict" ∧ ((∃ kvs, H p = some (.dK kvs)) ∨ ∃ kvs, H p = some (.dT kvs))) ∨ (T = "set" ∧ ∃ S n, H p = some (.set S n))
  | _ => False
theorem tyV_is {pins : List (Addr × Obj)} {σ : St} {H : Hp} {s : Shared} {T : String} {x : V} {v : Value} (I : Inv X pins σ H s) (r : RelV x v) (ty : tyV X.K T x H) :
    s.TypeIs v T ∧ ∀ a, v = .ref a → ∃ ob, s.heap.get? a = some ob ∧ ob.dict = none := by
  cases x with
  | str z =>
    obtain ⟨t, rfl⟩ := r
    cases (show T = "str" from ty)
    exact ⟨typeIs_str s z t, fun _ e => nomatch e⟩
  | int i =>
    obtain ⟨t, rfl⟩ := r
    cases (show T = "int" from ty)
    exact ⟨typeIs_int s i t, fun _ e => nomatch e⟩
  | ref p =>
    cases r
    rcases ty with ⟨rfl, xs, hq⟩ | ⟨rfl, o, hk, hc, hd⟩ | ⟨rfl, hk⟩ | ⟨rfl, S, n, hk⟩
    · obtain ⟨its, _, pl, _⟩ := I.list hq
      refine ⟨pl.isList.typeIs, fun a e => ?_⟩
      cases e
      obtain ⟨o, n, e, c, hd, _⟩ := pl
      exact ⟨o, e, hd⟩
    · refine ⟨⟨o, I.kIn p o hk, hc⟩, fun a e => ?_⟩
      cases e
      exact ⟨o, I.kIn _ o hk, hd⟩
    · have z : ∃ o, s.heap.get? p = some o ∧ o.ExactDict := by
        rcases hk with ⟨kvs, hk⟩ | ⟨kvs, hk⟩
        · obtain ⟨_, _, _, _, o, _, _, e, ex, _⟩ := I.hok p _ hk
          exact ⟨o, e, ex⟩
        · obtain ⟨_, _, _, _, o, _, _, e, ex, _⟩ := I.hok p _ hk
          exact ⟨o, e, ex⟩
      obtain ⟨o, e, ex⟩ := z
      refine ⟨⟨o, e, ex.1⟩, fun a e2 => ?_⟩
      cases e2
      exact ⟨o, e, ex.2.1⟩
    · obtain ⟨o, _, _, _, e, ex, _⟩ := I.hok p _ hk
      refine ⟨⟨o, e, ex.1⟩, fun a e2 => ?_⟩
      cases e2
      exact ⟨o, e, ex.2.1⟩
  | _ => exact False.elim ty
def tBM (K : PySem.W.Frag) (T : String) (r : V → List V → Hp → VK → Prop) (to : TE) (t : TA) : TE := fun σ H Q => to σ H fun x H1 => tyV K T x H1 ∧ t σ H1 fun xs H2 => r x xs H2 Q
variable {o e : Expr} {es : List Expr} {to : TE} {t : TA} {name : Str} {apos cpos : Pos} {T id : String} {r : V → List V → Hp → VK → Prop}
theorem pe_bm (pa : PlainAttrs T) (slot : Slot T name id) (hty : typeOf (.builtin id) = pure (.type "method_descriptor")) (hm : MtR X id r) (ho : PE X o to) (ha : PA X (e :: es) t)
    (hbase : attributeBase o name X.env (eval o X.env) = eval o X.env := by rfl)
    (hfew : ((backTo cpos (starEach (e :: es) X.env)).all (fun x => !x.1) && (backToKw cpos (keywordEach [] X.env)).all (fun x => x.1.isSome)
      && decide ((e :: es).length + ([] : List Keyword).length + (if ([] : List Keyword).isEmpty then 0 else 1) < 30)) = true := by rfl)
    (hline : (apos.endLine == cpos.line) = true := by rfl) (hs : starEach (e :: es) X.env = (false, eval e X.env) :: starEach es X.env := by rfl) (hplain : (backTo cpos (starEach es X.env)).any (·.1) = false := by rfl) :
    PE X (.Call (.Attribute o name apos) (e :: es) [] cpos) (tBM X.K T r to t) := by
  intro pins s σ H Q I h
  refine wpAny_Call_method_late hbase hfew hline rfl (thn (ho pins s σ H _ I h) fun v s1 ⟨x, H1, I1, r1, ty, q1⟩ => ?_)
  obtain ⟨h1, h2⟩ := tyV_is I1 r1 ty
  refine ⟨T, id, pa, slot, hty, h1, h2, ?_⟩
  have hA := ha cpos pins s1 σ H1 _ I1 q1
  rw [hs] at hA ⊢
  refine Calls.callWith_builtin (by show (false || (backTo cpos (starEach es X.env)).any (·.1)) = false; rw [hplain] <;> rfl) (Calls.evalArgs_plain ?_)
  exact thn hA fun us s2 ⟨vs, H2, I2, r2, q2⟩ => hm pins s2 σ H2 x vs v us Q I2 r1 r2 q2
end
end L2
namespace L2
open PySem PySem.Spec PyProof.Rows
def MtM (X : Cx) (id : String) (r : V → List V → Hp → VK → Prop) : Prop :=
  ∀ (pins : List (Addr × Obj)) (s : Shared) (σ : St) (H : Hp) (x : V) (xs : List V) (v : Value) (us : List Value) (Q : VK), Inv X pins σ H s → RelV x v → Vals xs us → r x xs H Q →
    wpAny (model X.prog X.w) X.A (call (.builtin id) (v :: us)) (EP X pins σ Q) X.xe s
theorem Vals.one : ∀ {x : V} {us : List Value}, Vals [x] us → ∃ u, us = [u] ∧ RelV x u
  | _, _, .cons r .nil => ⟨_, rfl, r⟩
theorem Vals.two : ∀ {x y : V} {us : List Value}, Vals [x, y] us → ∃ u v, us = [u, v] ∧ RelV x u ∧ RelV y v
  | _, _, _, .cons r (.cons q .nil) => ⟨_, _, rfl, r, q⟩
theorem Vals.reverse {xs : List V} {us : List Value} (h : Vals xs us) : Vals xs.reverse us.reverse := by
  induction h with
  | nil => exact .nil
  | cons r t ih => rw [List.reverse_cons, List.reverse_cons]; exact Vals.append ih (.cons r .nil)
theorem Vals.rep {xs : List V} {us : List Value} (h : Vals xs us) : ∀ k : Nat, Vals (List.replicate k xs).flatten (List.replicate k us).flatten
  | 0 => .nil
  | k + 1 => by
    rw [List.replicate_succ, List.replicate_succ, List.flatten_cons, List.flatten_cons]
    exact Vals.append h (Vals.rep h k)
theorem foldl_rep (its : List Value) : ∀ (k : Nat) (acc : List Value),
    List.foldl (fun x1 x2 => x1 ++ x2) acc.toArray (List.replicate k its.toArray) = (acc ++ (List.replicate k its).flatten).toArray
  | 0, acc => by simp
  | k + 1, acc => by
    have e : acc.toArray ++ its.toArray = (acc ++ its).toArray := by simp
    have e2 : (acc ++ its) ++ (List.replicate k its).flatten = acc ++ (List.replicate (k + 1) its).flatten := by
      rw [List.replicate_succ, List.flatten_cons, List.append_assoc]
    rw [← e2, ← foldl_rep its k (acc ++ its), ← e, List.replicate_succ, List.foldl_cons]
section
variable {X : Cx} {pins : List (Addr × Obj)} {σ : St} {H : Hp} {s : Shared} {l b : Addr} {xs ys zs : List V}
theorem Inv.lset {its its' : List Value} {n : Nat} {f : Array Value → Array Value} {t' : Nat} (I : Inv X pins σ H s) (hH : H l = some (.lst xs))
    (e : s.heap.get? l = some { cls := .type "list", data := .seq its.toArray n }) (hf : f its.toArray = its'.toArray) (hv : Vals ys its') (hz : ys.length ≤ sizeLine) :
    Inv X pins σ (upd H l (.lst ys)) { s with heap := s.heap.update l (Obj.mapSeq f), toks := t' } := by
  have q := PySem.IsL.update e f
  rw [hf] at q
  refine I.write (x := l) (e := l) (by rw [hH]; exact trivial) (.inl rfl) (fun b' u hb hu => (Heap.get?_update_other s.heap (Obj.mapSeq f) (Ne.symm hb)).trans hu) ⟨_, q⟩ ?_
  exact ⟨hz, its', _, hv, q⟩
theorem Inv.lnew {its : List Value} {t' : Nat} (I : Inv X pins σ H s) (hv : Vals ys its) (hz : ys.length ≤ sizeLine) :
    Inv X pins σ (upd H s.heap.objs.size (.lst ys)) { s with heap := s.heap.push { cls := .type "list", data := .seq its.toArray }, toks := t' } :=
  I.laid (fun _ _ q => Heap.get?_push_of_some _ q) (Nat.le_refl _) ⟨hz, its, 0, hv, Heap.get?_push_size _ rfl⟩
theorem Inv.fresh (I : Inv X pins σ H s) : H s.heap.objs.size = none := I.hok.fresh (Nat.le_refl _)
theorem Inv.lstM (I : Inv X pins σ H s) (hH : H l = some (.lst xs)) : xs.length ≤ sizeLine ∧ ∃ (its : List Value) (n : Nat), Vals xs its ∧ xs.length = its.length ∧ s.heap.get? l = some { cls := .type "list", data := .seq its.toArray n } := by
  obtain ⟨z, its, n, r, e⟩ := I.hok l _ hH
  exact ⟨z, its, n, r, r.length, e⟩
theorem notLongL {n : Nat} (h : n ≤ sizeLine) : Builtin.List.listTooLong n = false := by
  unfold Builtin.List.listTooLong
  exact decide_eq_false (by omega)
end
section
variable {X : Cx}
def rAppend : V → List V → Hp → VK → Prop := fun x vs H Q => ∃ l xs y, x = .ref l ∧ vs = [y] ∧ H l = some (.lst xs) ∧ xs.length < sizeLine ∧ Q .non (upd H l (.lst (xs ++ [y])))
theorem mt_append : MtM X "list.append" rAppend := by
  intro pins s σ H x vs v us Q I rx rv h
  obtain ⟨l, xs, y, rfl, rfl, hH, hz, q⟩ := h
  cases rx
  obtain ⟨u, rfl, ru⟩ := rv.one
  obtain ⟨z, its, n, r, hl, e⟩ := I.lstM hH
  refine call_meets F.slot_list_append ⟨_, e, rfl⟩ F.entry_list_append (F.args_list_append_2 _ _) (PySem.list_append l its.toArray n u (by rw [List.size_toArray]; omega)) ⟨e, ?_⟩
  refine ⟨.non, _, I.lset (its' := its ++ [u]) hH e (by simp) (r.append (.cons ru .nil)) ?_, rfl, q⟩
  rw [List.length_append, List.length_singleton]
  omega
def rCat : R2 := fun x y H Q => ∃ l b xs zs, x = .ref l ∧ y = .ref b ∧ H l = some (.lst xs) ∧ H b = some (.lst zs) ∧ xs.length + zs.length ≤ sizeLine ∧ ∀ p, H p = none → Q (.ref p) (upd H p (.lst (xs ++ zs)))
theorem op_cat : OpR X (binaryOp .Add) rCat := by
  intro pins s σ H x y v u Q I rx ry h
  obtain ⟨l, b, xs, zs, rfl, rfl, hH, hB, hz, q⟩ := h
  cases rx
  cases ry
  obtain ⟨z, its, n, r, hl, e⟩ := I.lstM hH
  obtain ⟨z2, its2, n2, r2, hl2, e2⟩ := I.lstM hB
  refine PySem.P.add_list e e2 ?_ (by rw [List.size_toArray, List.size_toArray]; omega)
  have ea : its.toArray ++ its2.toArray = (its ++ its2).toArray := by simp
  rw [ea]
  exact ⟨.ref _, _, I.lnew (t' := s.toks) (r.append r2) (by rw [List.length_append]; omega), rfl, q _ I.fresh⟩
def rRep : R2 := fun x y H Q => ∃ l k xs, x = .ref l ∧ y = .int k ∧ H l = some (.lst xs) ∧ -(2 ^ 63) ≤ k ∧ k < 2 ^ 63 ∧ xs.length * k.toNat ≤ sizeLine ∧
  ∀ p, H p = none → Q (.ref p) (upd H p (.lst (List.replicate k.toNat xs).flatten))
theorem len_rep {α : Type} (xs : List α) (k : Nat) : (List.replicate k xs).flatten.length = k * xs.length := by
  induction k with
  | zero => simp
  | succ k ih => rw [List.replicate_succ, List.flatten_cons, List.length_append, ih, Nat.succ_mul, Nat.add_comm]
theorem op_rep : OpR X (binaryOp .Mult) rRep := by
  intro pins s σ H x y v u Q I rx ry h
  obtain ⟨l, k, xs, rfl, rfl, hH, h1, h2, hz, q⟩ := h
  cases rx
  obtain ⟨t, rfl⟩ := ry
  obtain ⟨z, its, n, r, hl, e⟩ := I.lstM hH
  have hlen : its.toArray.size * k.toNat ≤ sizeLine := by rw [List.size_toArray, ← hl]; exact hz
  have hcap : ¬ its.toArray.size * k.toNat > (2 ^ 63 - 1) / 8 := by
    have : (sizeLine : Nat) ≤ (2 ^ 63 - 1) / 8 := by decide
    omega
  have hfit : ¬ (!Builtin.List.listFitsIndex k) = true := by
    rw [fitsIndex_both h1 h2]
    exact Bool.false_ne_true
  have hlong : ¬ Builtin.List.listTooLong (its.toArray.size * k.toNat) = true := by
    rw [notLongL hlen]
    exact Bool.false_ne_true
  have hnew : List.foldl (fun x1 x2 => x1 ++ x2) #[] (List.replicate (if its.toArray.isEmpty = true then 0 else k.toNat) its.toArray) = (List.replicate k.toNat its).flatten.toArray := by
    have f0 : ∀ m : Nat, List.foldl (fun x1 x2 => x1 ++ x2) #[] (List.replicate m its.toArray) = (List.replicate m its).flatten.toArray := fun m => by
      have := foldl_rep its m []
      rw [List.nil_append] at this
      exact this
    rw [f0]
    cases its with
    | nil => simp
    | cons a r' => rw [if_neg (by simp)]
  refine wpAny_binaryOp_repeat_ref (T := "list") (U := "int") (by decide) ⟨_, e, rfl⟩ (fun s' => typeIs_int s' k t) noFill_list_mul F.fills_int_mul F.slot_int_rmul repeat_list F.slot_int_index.lookup
    (call_meets F.slot_int_rmul (typeIs_int s k t) F.entry_int_rmul (F.args_int_rmul_2 _ _) (int___rmul___int_list k t l its.toArray n)
      ⟨e, rfl, ⟨_, e, rfl⟩, call_meets F.slot_list_mul ⟨_, e, rfl⟩ F.entry_list_mul (F.args_list_mul_2 _ _) (AutoListH.list___mul___list_int_3 l its.toArray n k t hfit hcap hlong) ⟨e, ?_⟩⟩)
  rw [hnew]
  exact ⟨.ref _, _, I.lnew (t' := s.toks) (r.rep k.toNat) (by rw [len_rep, Nat.mul_comm]; exact hz), rfl, q _ I.fresh⟩
end
section
variable {prog : Program} {w : World} {A : Around} {E : Value → Shared → Prop} {s : Shared}
set_option maxRecDepth 100000 in
end
section
variable {X : Cx}
end
end L2
namespace Att
open PySem PySem.W PySem.Calls PyProof.Rows
theorem ints_of_wellAll {P : Params} {h : Heap} : ∀ (ns : List Int) (vs : List Value), WellAll P h vs (ns.map WData.int) → IntsAre vs ns := by
  intro ns
  induction ns with
  | nil =>
    intro vs w
    rw [List.map_nil] at w
    cases w
    exact .nil
  | cons n ns ih =>
    intro vs w
    rw [List.map_cons] at w
    cases w with
    | cons a b =>
      cases a
      exact .cons _ _ (ih _ b)
theorem script_of {l : OpenLaw} {n : Nat} (hn : l.most = some n) {P : Params} {h : Heap} {args : List WData} {vals : List Value}
    (hpre : l.row.toRowW.claim.pre args = true) (hwl : WellAll P h vals args) :
    ∃ a vs ns, vals = [Value.ref a] ∧ args = [WData.list (ns.map WData.int)] ∧ h.get? a = some { cls := .type "list", data := .seq vs.toArray } ∧ IntsAre vs ns ∧ ns.length ≤ n := by
  have hsh : WShape.hasAll [] args [.list .int] = true := (pre_splitW hpre).1
  have hc : l.pre.holds [] { args := args } = true := (pre_splitW hpre).2
  obtain ⟨d, r, rfl, h1, h2⟩ := hasAllW_cons hsh
  obtain rfl := hasAllW_nil h2
  obtain ⟨xs, rfl, h3⟩ := hasW_list h1
  obtain ⟨ns, rfl⟩ := items_int h3
  have hlen : ns.length ≤ n := by
    unfold OpenLaw.pre at hc
    have h4 : (WTm.not (.lt (.lit (.int (n : Int))) (.len (.arg 0)))).holds [] { args := [.list (ns.map .int)] } = true := by
      have h4 := (holds_andW hc).1
      rw [hn] at h4
      exact h4
    have h5 := condW_of h4 (w_not (w_lt w_lit (w_len_list (w_arg rfl))))
    rw [List.length_map] at h5
    refine Nat.le_of_not_lt fun q => ?_
    have q' : (n : Int) < ((ns.length : Nat) : Int) := by omega
    first
      | (rw [decide_eq_true q'] at h5; exact absurd h5 (by decide))
      | (simp at h5; omega)
  cases hwl with
  | cons w1 w2 =>
    cases w2
    cases w1 with
    | list ho hall => exact ⟨_, _, ns, rfl, rfl, ho, ints_of_wellAll ns _ hall, hlen⟩
theorem post_true (l : OpenLaw) (args : List WData) : l.row.toRowW.claim.post args (.bool true) args = true :=
  postW_of (r := l.row.toRowW) (X := (true == true))
    (show WShape.has [] (.bool true) .bool = true by first | rfl | decide | simp [WShape.has, WShape.arms, WShape.armsAll])
    (show (WTm.eq .res (.lit (.bool true))).value [] { args := args, res := some (.bool true), after := args } = some (.bool (true == true)) from w_eq_bool (w_res rfl) w_lit) rfl
theorem attach_call {l : OpenLaw} {n : Nat} {q : Program} {loose : List Str} {XP : (Str → Option Value) → Heap → Prop} {YP : World → Heap → Prop} {d : DefRec}
    (hn : l.most = some n) (hdf : d.params.defaults = [])
    (call : ∀ (w : World) (s₀ s₁ : Shared) (mg mb : Str → Option Value) (fa : Addr) (o : Obj) (pm cd doc : Value) (a : Addr) (vs : List Value) (ns : List Int),
      Ground q loose [] XP w s₀ mg mb s₁.heap → YP w s₁.heap →
      s₁.heap.get? fa = some o → o.data = .func (docDef d.name d.params d.body d.scope pm cd doc) → s₁.heap.CodeRec cd d.name → mg d.name = some (.ref fa) →
      s₁.heap.get? a = some { cls := .type "list", data := .seq vs.toArray } → IntsAre vs ns → ns.length ≤ n → s₁.gens = #[] →
      codeAny (model l.prog w) callerA (.call (.ref fa) ⟨[.ref a], []⟩) (fun r s' => r = .ok (.ret (.bool true)) ∧ OldK s₁.heap s'.heap ∧ s'.os = s₁.os ∧ AllBare s'.gens) s₁) :
    WalkO q loose XP YP l.row.toRowW d [] (fun f vs => PySem.call f vs) := by
  intro w s₀ s₁ mg mb G Y fa o pm cd doc dV kV ho hd hcd hD hmg hg args vals as hpre hlay hrd hwl hlo
  obtain rfl : dV = .none := Dflts.none hD hdf
  obtain rfl : kV = .none := Dflts.noKw hD
  obtain ⟨a, vs, ns, rfl, rfl, hobj, hints, hlen⟩ := script_of hn hpre hwl
  refine enter_call (codeAny_mono (call w s₀ s₁ mg mb fa o pm cd doc a vs ns G Y ho (fd_plain hd) hcd hmg hobj hints hlen hg) fun r s' hq => ?_)
  obtain ⟨rfl, h2, h3, h4⟩ := hq
  exact ⟨.inl ⟨.bool true, .bool true, [], rfl, fun _ => rfl, .bool true, post_true l _, fun _ => ⟨List.Pairwise.nil, fun _ hm => (nomatch hm)⟩⟩, h2, h3, h4⟩
section
variable {prog : Program} {w : World} {A : Around} {E : Value → Shared → Prop} {s : Shared} {K : Frag}
end
end Att
namespace L2
open PySem PySem.Spec PyProof.Rows
theorem vals_ints : ∀ {vs : List Value} {ns : List Int}, IntsAre vs ns → Vals (ns.map V.int) vs
  | _, _, .nil => .nil
  | _, _, .cons n t h => .cons ⟨t, rfl⟩ (vals_ints h)
def Only (H : Hp) : Prop := ∀ b, H b = none ∨ ∃ o xs, H b = some (.frz o (.lst xs))
theorem law_call {P : Program} {w : World} {K : PySem.W.Frag} {mg mb : Str → Option Value} {CX : CXT} {k : Nat} {fa a : Addr} {fd : FuncData} {x : Str} {sp : Sp} {s₁ : Shared} {vs : List Value} {ns : List Int}
    (KX : K.In s₁.heap) (hns : s₁.heap.Ns mainGlobals mg) (hb : s₁.heap.Ns builtinsNs mb) (hbb : ∀ x : Str, x ≠ "__name__" → mb x = bootBuiltins x) (hlim : s₁.heap.NoLimit) (hg : s₁.gens = #[])
    (ha : s₁.heap.get? a = some { cls := .type "list", data := .seq vs.toArray }) (hi : IntsAre vs ns) (hl : ns.length ≤ sizeLine) (hr : Room k callerA)
    (F : ∀ base : Heap, K.In base → base.Ns mainGlobals mg → FnOk P w K mg base CX k fa fd [x] sp) (hbind : ∀ (s : Shared) (u : Value), BindsTo s fd ⟨[u], []⟩ [(x, u)])
    (hsp : ∀ H : Hp, Only H → SqL K H a (ns.map V.int) → sp [.ref a] H (fun v _ => v = .bl true) fun _ _ _ => False)
    (hCX : ∀ H e s', CX [] H s₁ (fun _ _ _ => False) e s' → False) :
    codeAny (model P w) callerA (.call (.ref fa) ⟨[.ref a], []⟩) (fun r s' => r = .ok (.ret (.bool true)) ∧ OldK s₁.heap s'.heap ∧ s'.os = s₁.os ∧ AllBare s'.gens) s₁ := by
  have rv := vals_ints hi
  have lenV := hi.length
  have core : ∀ H : Hp, Only H → SqL K H a (ns.map V.int) → HOk P w H s₁.heap → (∀ b, H b ≠ none → b = a) → (H a ≠ none → K.lookup a = none) →
      codeAny (model P w) callerA (.call (.ref fa) ⟨[.ref a], []⟩) (fun r s' => r = .ok (.ret (.bool true)) ∧ OldK s₁.heap s'.heap ∧ s'.os = s₁.os ∧ AllBare s'.gens) s₁ := by
    intro H hO hS hok hA hK
    have base_of : ∀ {b : Addr} {o : Obj}, s₁.heap.get? b = some o → H b = none → (hidT s₁.heap H).get? b = some o := fun e n => hidT_get e n
    have noA : ∀ {b : Addr} {o : Obj} {es : Array DictEntry} {ep : Nat}, s₁.heap.get? b = some o → o.data = .dict es ep → H b = none := fun {b o es ep} e d => by
      cases q : H b with
      | none => rfl
      | some u =>
        have e' : b = a := hA b (by rw [q]; simp)
        subst e'
        rw [ha] at e; cases e
        have d' : Data.seq vs.toArray _ = Data.dict es ep := d
        cases d'
    have nsK : ∀ {b : Addr} {m : Str → Option Value}, s₁.heap.Ns b m → (hidT s₁.heap H).Ns b m := fun {b m} ⟨o, es, ep, e, d, r⟩ => ⟨o, es, ep, base_of e (noA e d), d, r⟩
    have hKb : K.In (hidT s₁.heap H) := fun b o e => base_of (KX b o e) (by
      cases q : H b with
      | none => rfl
      | some u =>
        have e' : b = a := hA b (by rw [q]; simp)
        subst e'
        rw [hK (by rw [q]; simp)] at e; cases e)
    have hM : Mod K mg (hidT s₁.heap H) := ⟨hKb, nsK hns, ⟨mb, nsK hb, hbb⟩, let ⟨mc, h1, h2⟩ := hlim; ⟨mc, nsK h1, h2⟩⟩
    have e0 : Env0 P w K mg (hidT s₁.heap H) callerA [] s₁ H := ⟨rfl, hM, fun b o e => of_hidT e, Nat.le_of_eq (hidT_size _ _), trivial, fun b hb => absurd (show b ∈ ([] : List Addr) from hb) (by simp), hok, .of_eq hg⟩
    refine codeAny_mono ((F _ hKb (nsK hns)).run callerA [] s₁ H ⟨[.ref a], []⟩ [.ref a] [.ref a] _ _ hr e0 (hbind s₁ (.ref a)) (.cons rfl .nil) (hsp H hO hS)) fun r s' h => ?_
    cases r with
    | error e => exact (hCX H e s' h).elim
    | ok fl =>
      cases fl with
      | next => exact False.elim h
      | brk => exact False.elim h
      | cont => exact False.elim h
      | ret u =>
        obtain ⟨v, H', os, bare, un, hok', r', q⟩ := h
        have q' : v = .bl true := q
        subst q'
        obtain rfl : u = Value.bool true := r'
        refine ⟨rfl, OldK.of_keep fun b o e => ?_, os, bare⟩
        cases q : H b with
        | none => exact un.keep b o e q (by intro z; exact absurd (show b ∈ ([] : List Addr) from z) (by simp)) (by simp)
        | some u =>
          rcases hO b with z | ⟨ob, xs, z⟩
          · rw [q] at z; cases z
          · have z2 := un.frzs b ob _ z
            obtain ⟨e1, _⟩ := hok b _ z
            obtain ⟨e2, _⟩ := hok' b _ z2
            rw [e] at e1; cases e1
            exact e2
  cases hk : K.lookup a with
  | some o =>
    have e := KX a o hk
    rw [ha] at e
    cases e
    refine core (fun _ => none) (fun _ => .inl rfl) (.inr ⟨_, vs.toArray, _, hk, rfl, rfl, rfl, by rw [List.size_toArray, lenV]; exact hl, by simpa using rv⟩) (fun b u z => by have z' : (none : Option HO) = some u := z; cases z') (fun b z => absurd rfl z) fun z => absurd rfl z
  | none =>
    refine core (fun b => if b = a then some (.frz { cls := .type "list", data := .seq vs.toArray } (.lst (ns.map V.int))) else none) (fun b => ?_) (.inl (.inr ⟨{ cls := .type "list", data := .seq vs.toArray }, if_pos rfl⟩)) (fun b u z => ?_) (fun b z => ?_) fun _ => hk
    · by_cases hb : b = a
      · exact .inr ⟨_, _, if_pos hb⟩
      · exact .inl (if_neg hb)
    · by_cases hb : b = a
      · have z' := (if_pos hb).symm.trans z
        cases z'
        subst hb
        exact ⟨ha, by rw [List.length_map]; exact hl, vs, _, rv, ha⟩
      · have z' := (if_neg hb).symm.trans z
        cases z'
    · by_cases hb : b = a
      · exact hb
      · exact absurd (if_neg hb) z
end L2
namespace L2
open PySem PySem.Spec PyProof.Rows
theorem walk_of {l : PySem.W.OpenLaw} {n k : Nat} {q : Program} {loose : List Str} {XP : (Str → Option Value) → Heap → Prop} {YP : World → Heap → Prop} {d : DefRec} {K : Params → PySem.W.Frag} {CX : World → CXT} {sp : World → Sp} {x : Str}
    (hn : l.most = some n) (hn2 : n ≤ sizeLine) (hdf : d.params.defaults = []) (hr : Room k callerA)
    (hY : ∀ (w : World) (h : Heap), YP w h → (K w.params).In h)
    (F : ∀ (w : World) (mg : Str → Option Value) (fa : Addr) (h : Heap), (K w.params).In h → h.Ns mainGlobals mg → mg d.name = some (.ref fa) →
      ∃ fd : FuncData, (∀ (s : Shared) (u : Value), BindsTo s fd ⟨[u], []⟩ [(x, u)]) ∧
        ∀ base : Heap, (K w.params).In base → base.Ns mainGlobals mg → FnOk l.prog w (K w.params) mg base (CX w) k fa fd [x] (sp w))
    (hsp : ∀ (w : World) (H : Hp) (a : Addr) (ns : List Int), ns.length ≤ n → Only H → SqL (K w.params) H a (ns.map V.int) → sp w [.ref a] H (fun v _ => v = .bl true) fun _ _ _ => False)
    (hCX : ∀ (w : World) (H : Hp) (s : Shared) (e : Value) (s' : Shared), CX w [] H s (fun _ _ _ => False) e s' → False) :
    PySem.W.WalkO q loose XP YP l.row.toRowW d [] (fun f vs => PySem.call f vs) := by
  refine Att.attach_call hn hdf fun w s₀ s₁ mg mb fa o pm cd doc a vs ns G Y ho hd hcd hmg hobj hints hlen hg => ?_
  have KX := hY w _ Y
  obtain ⟨fd, hb, hF⟩ := F w mg fa _ KX G.T.g hmg
  exact law_call KX G.T.g G.T.b G.T.builtins G.T.nolimit hg hobj hints (Nat.le_trans hlen hn2) hr hF hb (fun H hO hS => hsp w H a ns hlen hO hS) fun H e s' => hCX w H s₁ e s'
end L2
namespace L2
open PySem PySem.Spec PyProof.Rows
def inClass (s : Stmt) (j : Nat) : Stmt := match s with
  | .ClassDef _ _ _ body _ _ _ _ _ _ _ => body.getD j (.Pass ⟨0, 0, 0, 0⟩)
  | _ => .Pass ⟨0, 0, 0, 0⟩
def defArgs (s : Stmt) : Arguments := match s with
  | .FunctionDef _ a _ _ _ _ _ _ _ _ => a
  | _ => { posonlyargs := [], args := [], vararg := none, kwonlyargs := [], kw_defaults := [], kwarg := none, defaults := [] }
def defBody (s : Stmt) : List Stmt := match s with
  | .FunctionDef _ _ b _ _ _ _ _ _ _ => b
  | _ => []
def defScope (s : Stmt) : Scope := match s with
  | .FunctionDef _ _ _ _ _ _ sc _ _ _ => sc
  | _ => { kind := .function, names := [], isGenerator := false, isCoroutine := false }
abbrev CX0 : CXT := fun _ _ _ _ _ _ => False
abbrev E0 : XK := fun _ _ _ => False
theorem pass0 {X : Cx} : Passes CX0 X E0 := fun _ _ _ _ _ _ _ h => h.elim
structure Fun (K : PySem.W.Frag) (x qual : Str) (st : Stmt) (f : Addr) (fd : FuncData) : Prop where
  ex : ∃ (oc : Value) (od : Option Addr) (kV doc pm : Value) (an : Option Addr) (cdv ct : Value) (osl : Array (Option Value)),
    fd = PySem.W.fnOf x qual (defArgs st) (defBody st) (defScope st) .none kV doc pm an cdv ct ∧ K.lookup f = some ⟨oc, od, .func fd, osl⟩ ∧ PySem.W.codeIn K cdv qual = true
  kp : PySem.W.keepIn K (.ref f) = true
section
variable {P : Program} {w : World} {K : PySem.W.Frag} {mg : Str → Option Value} {base : Heap}
theorem Fun.ok {x qual : Str} {st : Stmt} {f : Addr} {fd : FuncData} {N ps : List Str} {k : Nat} {sp : Sp} (F : Fun K x qual st f fd) (S : FnScope N ps (defScope st)) (len : ∀ vs H Q E, sp vs H Q E → vs.length = ps.length)
    (hbody : ∀ (cdv : Value) (A : Around) (outer : List Env) (s : Shared) (H : Hp) (vs : List V) (Q : VK) (E : XK), Room k (A.deeper (envOfC qual (defScope st) s.heap.objs.size f cdv)) → sp vs H Q E →
      ∃ t, PSs (cxOf CX0 P w K mg base N qual (defScope st) f cdv A outer s H E).nox (defBody st) t ∧ t { nx := fun _ H' => Q .non H', rt := Q } (start N vs) H) : FnOk P w K mg base CX0 (k + 1) f fd ps sp := by
  obtain ⟨oc, od, kV, doc, pm, an, cdv, ct, osl, rfl, lk, hcd⟩ := F.ex
  refine fn_of lk hcd S len fun A outer s H vs Q E hr hsp => ?_
  obtain ⟨t, h, q⟩ := hbody cdv A outer s H vs Q E hr hsp
  exact ⟨t, h.nox, q⟩
theorem Fun.binds {x qual : Str} {st : Stmt} {f : Addr} {fd : FuncData} {ps : List Str} (F : Fun K x qual st f fd)
    (h : ∀ (kV doc pm : Value) (an : Option Addr) (cdv ct : Value) (us : List Value), us.length = ps.length → bindArgs (PySem.W.fnOf x qual (defArgs st) (defBody st) (defScope st) .none kV doc pm an cdv ct) ⟨us, []⟩ = pure (ps.zip us)) : Binds K fd ps [] := by
  obtain ⟨oc, od, kV, doc, pm, an, cdv, ct, osl, rfl, lk, hcd⟩ := F.ex
  exact .all (h kV doc pm an cdv ct)
theorem fun_mk {x qual : Str} {st : Stmt} {f : Addr} {oc : Value} {od an : Option Addr} {osl : Array (Option Value)} {kV doc pm cdv ct : Value} (l : K.lookup f = some ⟨oc, od, .func (PySem.W.fnOf x qual (defArgs st) (defBody st) (defScope st) .none kV doc pm an cdv ct), osl⟩)
    (c : PySem.W.codeIn K cdv qual = true) (k : PySem.W.keepIn K (.ref f) = true) : Fun K x qual st f (PySem.W.fnOf x qual (defArgs st) (defBody st) (defScope st) .none kV doc pm an cdv ct) := ⟨⟨oc, od, kV, doc, pm, an, cdv, ct, osl, rfl, l, c⟩, k⟩
end
section
variable {X : Cx}
end
theorem iteF {A B : Prop} (h : B) : if false = true then A else B := by
  rw [if_neg Bool.false_ne_true]
  exact h
theorem iteT {A B : Prop} (h : A) : if true = true then A else B := by
  rw [if_pos rfl]
  exact h
theorem ite2 {c A B : Prop} [Decidable c] (h1 : c → A) (h2 : ¬ c → B) : if c then A else B := by
  by_cases h : c
  · rw [if_pos h]
    exact h1 h
  · rw [if_neg h]
    exact h2 h
def Same (H H' : Hp) : Prop := ∀ b o, H b = some o → H' b = some o
theorem Same.refl (H : Hp) : Same H H := fun _ _ h => h
theorem Same.trans {H H1 H2 : Hp} (a : Same H H1) (b : Same H1 H2) : Same H H2 := fun c o h => b c o (a c o h)
theorem Same.free {H H' : Hp} (e : Same H H') {l : Addr} (h : H' l = Option.none) : H l = Option.none := by
  cases q : H l with
  | none => rfl
  | some o =>
    rw [e l o q] at h
    cases h
theorem Same.seq {K : PySem.W.Frag} {H H' : Hp} {a : Addr} {xs : List V} (e : Same H H') (h : SqL K H a xs) : SqL K H' a xs := by
  rcases h with (h | ⟨o, h⟩) | h
  · exact .inl (.inl (e _ _ h))
  · exact .inl (.inr ⟨o, e _ _ h⟩)
  · exact .inr h
end L2
set_option Elab.async false
set_option linter.all false
set_option maxRecDepth 100000
namespace L2
open PySem PySem.Spec PyProof.Rows
section
variable {P : Program} {w : World}
def CXE (P : Program) (w : World) : CXT := fun outer H s E e s' => ∃ (ea : Addr) (cls a0 : Value) (B : Heap) (H' : Hp),
  e = .ref ea ∧ s'.os = s.os ∧ AllBare s'.gens ∧ Un (frs outer) [] H H' s.heap s'.heap ∧ Heap.FlyingW B outer ea cls a0 s'.heap ∧ HOk P w H' B ∧
  (∀ b o, s.heap.get? b = some o → H b = none → b ∉ frs outer → B.get? b = some o) ∧ (∀ b o, s.heap.get? b = some o → b ∉ frs outer → ∃ o', B.get? b = some o') ∧ E cls none H'
structure Lies (X : Cx) (pins : List (Addr × Obj)) (σ : St) (H : Hp) (B : Heap) (s : Shared) : Prop where
  inv : Inv X pins σ H s
  hok : HOk X.prog X.w H B
  old : ∀ b o, X.s₀.heap.get? b = some o → X.H₀ b = none → b ∉ X.fs → b ∉ X.ex → B.get? b = some o
  there : ∀ b o, X.s₀.heap.get? b = some o → b ∉ X.fs → b ∉ X.ex → ∃ o', B.get? b = some o'
  pin : ∀ p ∈ X.pn ++ pins, B.get? p.1 = some p.2
variable {X : Cx} {pins : List (Addr × Obj)} {σ : St} {H H' : Hp} {s s' : Shared} {ea : Addr} {cls : Value} {B : Heap}
theorem Inv.neL (I : Inv X pins σ H s) {b : Addr} {o : Obj} (e : X.s₀.heap.get? b = some o) : b ≠ X.env.locals := Nat.ne_of_lt (Nat.lt_of_lt_of_le (Heap.lt_size e) I.ok.above)
theorem Inv.fly (I : Inv X pins σ H s) {E : XK} {e : Value} (h : CXE X.prog X.w X.stack H s E e s') : ∃ ea cls a0 B H', e = .ref ea ∧ Lies X pins σ H' B s' ∧ Heap.FlyingW B X.stack ea cls a0 s'.heap ∧ E cls none H' := by
  obtain ⟨ea, cls, a0, B, H', rfl, os, bare, un, fl, hok, old, there, hE⟩ := h
  refine ⟨ea, cls, a0, B, H', rfl, ⟨I.call' os un (hok.kept fl.1) bare (fun b z => absurd z (by simp)), hok, fun b o e n hf hx => ?_, fun b o e hf hx => ?_, fun p hp => ?_⟩, fl, hE⟩
  · refine old b o (I.base.keep b o e n hf hx) (I.base.free b o e n hx) fun z => ?_
    rcases List.mem_cons.mp (I.stkSub b z) with q | q
    · exact I.neL e q
    · exact hf q
  · obtain ⟨o', e'⟩ := I.base.there b o e hx
    refine there b o' e' fun z => ?_
    rcases List.mem_cons.mp (I.stkSub b z) with q | q
    · exact I.neL e q
    · exact hf q
  · obtain ⟨e, n, ne, nf, _⟩ := I.pin p hp
    refine old p.1 p.2 e n fun z => ?_
    rcases List.mem_cons.mp (I.stkSub _ z) with q | q
    · exact ne q
    · exact nf q
theorem Lies.move (F : Lies X pins σ H B s) {h' : Heap} {tk : Nat} (hB : B.StaysIn h') (up : s.heap.UpToSlots h') : Inv X pins σ H { s with heap := h', toks := tk } := by
  have I := F.inv
  have frame : ∀ b, b ∈ X.fs → ∀ o, s.heap.get? b = some o → (∃ o₀, X.s₀.heap.get? b = some o₀) → ∃ sl, h'.get? b = some { o with slots := sl } := fun b hb o e _ => by
    obtain ⟨_, o1, e1, d1⟩ := I.funs.mem hb
    rw [e] at e1; cases e1
    exact up b o e d1
  have cellK : ∀ c v, s.heap.IsCell c v → h'.IsCell c v := fun c v ⟨o, ho, hd⟩ => by
    obtain ⟨sl, e⟩ := up c o ho fun vs q => by rw [hd] at q; cases q
    exact ⟨_, e, hd⟩
  refine ⟨I.ok, I.os, I.bare, ⟨fun b o e n hf hx => hB b o (F.old b o e n hf hx), fun b o e n hf hx => ?_, I.base.free, fun b o e hx => ?_, I.base.tups, I.base.frzs, I.base.tbls⟩, ?_, fun x c e => ?_, I.free, I.freeC, fun p hp => ?_, F.hok.kept hB, I.len⟩
  · obtain ⟨sl, e1⟩ := I.base.slot b o e n hf hx
    obtain ⟨sl', e2⟩ := frame b hf _ e1 ⟨o, e⟩
    exact ⟨sl', e2⟩
  · by_cases hf : b ∈ X.fs
    · obtain ⟨o', e1⟩ := I.base.there b o e hx
      obtain ⟨sl', e2⟩ := frame b hf _ e1 ⟨o, e⟩
      exact ⟨_, e2⟩
    · obtain ⟨o', e'⟩ := F.there b o e hf hx
      exact ⟨o', hB b o' e'⟩
  · obtain ⟨m, hn, hl⟩ := I.loc
    refine ⟨m, up.ns hn, fun i x v e1 e2 e3 => ?_⟩
    obtain ⟨u, r, l⟩ := hl i x v e1 e2 e3
    refine ⟨u, r, ?_⟩
    rcases l with l | ⟨k, c, e, z⟩
    · exact .inl l
    · exact .inr ⟨k, c, e, cellK c _ z⟩
  · obtain ⟨v, z⟩ := I.cell x c e
    exact ⟨v, cellK c v z⟩
  · obtain ⟨_, r⟩ := I.pin p hp
    exact ⟨hB _ _ (F.pin p hp), r⟩
end
end L2
set_option Elab.async false
set_option linter.all false
set_option maxRecDepth 100000
namespace L2
open PySem PySem.Spec PyProof.Rows
section
variable {P : Program} {w : World} {K : PySem.W.Frag} {mg : Str → Option Value} {base : Heap} {N : List Str} {qual : Str} {scope : Scope} {f : Addr} {cd : Value} {A : Around} {outer : List Env} {s₀ : Shared} {H₀ : Hp} {E : XK}
theorem pass_on : Passes (CXE P w) (cxOf (CXE P w) P w K mg base N qual scope f cd A outer s₀ H₀ E) E := by
  intro pins σ H s e s' I h
  obtain ⟨ea, cls, a0, B, H', rfl, F, fl, hE⟩ := I.fly h
  show wpAny _ _ (leaving _ _) _ _ _
  refine wpAny_leaves_onW I.ok.frames rfl fl fun h' fl' up => ?_
  have J := F.move (tk := s'.toks) fl'.1 up
  exact ⟨ea, cls, a0, B, H', rfl, J.os, J.bare, J.base, fl', F.hok, fun b o e n hf => F.old b o e n hf (by simp [cxOf]), fun b o e hf => F.there b o e hf (by simp [cxOf]), hE⟩
theorem HOk.hide {H : Hp} {h : Heap} {l : List Addr} (x : HOk P w H h) (n : ∀ b ∈ l, H b = none) : HOk P w H (PySem.W.hideAll h l) := fun a o e =>
  (x a o e).stay (fun b u hb q => PySem.W.hideAll_get l q fun hm => by
    have z := n b hm
    rcases hb with rfl | hb
    · rw [e] at z; cases z
    · rw [hb] at z; cases z) (fun _ q => q) fun _ _ q => q
theorem exc_obj {C : Addr} {bmB : List Value} {newId : String} (q : PySem.W.excIn K C bmB newId = true) : ∃ nm qn N bs bm hd sn sub ab col dd k0 k1 k2 k3 k5,
    K.lookup C = some (excClassObj nm qn C N bs bm hd sn sub ab col dd k0 k1 k2 k3 k5 newId) ∧ PySem.W.nsOkIn K N = true ∧ PySem.W.nsIn K N "__init__" = some none ∧ PySem.W.tailIn K bmB bm = true := by
  unfold PySem.W.excIn at q
  split at q
  · rename_i dd cd sl ho
    split at q
    · rename_i C' bm k0 k1 k2 k3 n k5 hm hs
      simp only [Bool.and_eq_true, beq_iff_eq, Bool.not_eq_true'] at q
      obtain ⟨⟨⟨⟨⟨rfl, rfl⟩, hdel⟩, ht⟩, hok⟩, hni⟩ := q
      obtain ⟨nm, bs, mro, ns, qn, hd, sn, sub, ab, col, del⟩ := cd
      dsimp only at hm hdel hok hni
      subst hm hdel
      have hsl : sl = #[k0, k1, k2, k3, some (.builtin n), k5] := by
        obtain ⟨l⟩ := sl
        simp only at hs
        rw [hs]
      subst hsl
      exact ⟨nm, qn, ns, bs, bm, hd, sn, sub, ab, col, dd, k0, k1, k2, k3, k5, ho, hok, hni, ht⟩
    · cases q
  · cases q
theorem ns_of_K {N : Addr} (hok : PySem.W.nsOkIn K N = true) {h : Heap} (X : K.In h) : ∃ mN, (∀ h', K.In h' → h'.Ns N mN) ∧ ∀ x, PySem.W.nsIn K N x = some none → mN x = none := by
  have i := PySem.W.isNs_of_in X hok
  refine ⟨h.nsMap N, fun h' X' => ?_, fun x e => PySem.W.nsMap_none_of_in X hok e⟩
  obtain ⟨o, es, ep, ho, r⟩ := Heap.Ns.of_isNs i
  refine ⟨o, es, ep, ?_, r⟩
  unfold PySem.W.nsOkIn at hok
  split at hok
  · rename_i q
    have e := X _ _ q
    rw [ho] at e; cases e
    exact X' _ _ q
  · cases hok
def Throws (X : Cx) (W : St → XK) : Prop := ∀ (pins : List (Addr × Obj)) (σ : St) (H : Hp) (s : Shared) (ea : Addr) (h' : Heap) (C : Addr) (args : List Value), Inv X pins σ H s → Heap.MadeExcOf s.heap h' ea (.ref C) args → W σ (.ref C) none H → X.xe (.ref ea) { s with heap := h' }
def tRaise (W : St → XK) (C : Addr) (ta : TA) : TS := fun _ σ H => ta σ H fun vs H1 => vs.length ≤ sizeLine ∧ W σ (.ref C) none H1
theorem ps_raise {X : Cx} {W : St → XK} {C : Addr} {x : Str} {np cpos pos : Pos} {e : Expr} {es : List Expr} {t : TA} (ht : Throws X W) (hc : X.calm = true)
    (q : PySem.W.excIn X.K C [.type "ValueError", .type "Exception", .type "BaseException", .type "object"] "ValueError.__new__" = true) (hm : X.mg x = some (.ref C)) (ha : PA X (e :: es) t) (hg : Gl X x := by rfl)
    (hd : (x == ("__debug__" : Str)) = false := by decide) (he : starEach (e :: es) X.env = (false, eval e X.env) :: starEach es X.env := by rfl)
    (hpl : (backTo cpos (starEach es X.env)).any (·.1) = false := by rfl) :
    PS X (.Raise (some (.Call (.Name x np) (e :: es) [] cpos)) none pos) (tRaise W C t) := by
  intro pins s σ H D I h
  obtain ⟨nm, qn, NN, bs, bm, hdc, sn, sub, ab, col, dd, k0, k1, k2, k3, k5, lk, hok, hni, tl⟩ := exc_obj q
  obtain ⟨mN, hN, hno⟩ := ns_of_K hok I.kIn
  have hb : bm.contains (.type "BaseException") = true := (PySem.W.tail_of_in I.kIn tl).hasType F.excBase_ValueError.hasBase
  refine wpAny_Raise_call_subT (nm := nm) (q := qn) (C := C) (N := NN) (bs := bs) (hdct := hdc) (sn := sn) (sub := sub) (ab := ab) (col := col) (dd := dd) (k0 := k0) (k1 := k1) (k2 := k2) (k3 := k3) (k5 := k5) (mN := mN) F.excBase_ValueError hb (I.ok.hd hc) (by rw [he]; show (false || _) = false; exact hpl) (hno _ hni) (ld_glob I hg hm ⟨rfl, ?_⟩ hd)
  have key := ha cpos pins s σ H _ I h
  rw [he] at key ⊢
  refine Calls.evalArgs_plain (wpAny_mono key (fun us s2 ⟨vs, H1, I1, r, hl, hE⟩ => ?_) fun _ _ z => z)
  exact ⟨rfl, (by rw [← r.length]; exact hl), I1.kIn _ _ lk, hN _ I1.kIn, PySem.W.tail_of_in I1.kIn tl, fun h' ea mx => ht pins σ H1 s2 ea h' C _ I1 mx hE⟩
theorem Inv.lies {X : Cx} {pins : List (Addr × Obj)} {σ : St} {H : Hp} {s : Shared} (I : Inv X pins σ H s) : Lies X pins σ H (PySem.W.hideAll s.heap (frs X.stack)) s := by
  have nl : ∀ {b : Addr} {o : Obj}, X.s₀.heap.get? b = some o → b ∉ X.fs → b ∉ frs X.stack := fun {b o} e nf z => by
    rcases List.mem_cons.mp (I.stkSub b z) with y | y
    · exact I.neL e y
    · exact nf y
  refine ⟨I, I.hok.hide I.stkFree, fun b o e n hf hx => PySem.W.hideAll_get _ (I.base.keep b o e n hf hx) (nl e hf), fun b o e hf hx => ?_, fun p hp => ?_⟩
  · obtain ⟨o', e'⟩ := I.base.there b o e hx
    exact ⟨o', PySem.W.hideAll_get _ e' (nl e hf)⟩
  · obtain ⟨e, n, ne, nf, _⟩ := I.pin p hp
    refine PySem.W.hideAll_get _ e fun z => ?_
    rcases List.mem_cons.mp (I.stkSub _ z) with y | y
    · exact ne y
    · exact nf y
theorem throws_def : Throws (cxOf (CXE P w) P w K mg base N qual scope f cd A outer s₀ H₀ E) (fun _ => E) := by
  intro pins σ H s2 ea h' C args I mx hE
  have L := I.lies
  have hin : ∀ env ∈ (cxOf (CXE P w) P w K mg base N qual scope f cd A outer s₀ H₀ E).stack, ∀ b, env.frame = some b → b ∈ frs (cxOf (CXE P w) P w K mg base N qual scope f cd A outer s₀ H₀ E).stack := fun env he b hb => List.mem_filterMap.mpr ⟨env, he, hb⟩
  show wpAny _ _ (leaving _ _) _ _ _
  refine wpAny_leaves_madeW (s := { s2 with heap := h' }) (base := PySem.W.hideAll s2.heap (frs (cxOf (CXE P w) P w K mg base N qual scope f cd A outer s₀ H₀ E).stack)) (h := s2.heap) I.ok.frames rfl (fun b o z => PySem.W.of_hideAll _ z) (PySem.W.funFrames_hide I.stack hin) mx fun h'' t fl tup tn up => ?_
  have J := L.move (tk := s2.toks) fl.1 ((Heap.UpToSlots.of_keeps mx.keeps).trans up)
  exact ⟨ea, .ref C, .ref t, _, H, rfl, J.os, J.bare, J.base, fl, L.hok, fun b o e n hf => L.old b o e n hf (by simp [cxOf]), fun b o e hf => L.there b o e hf (by simp [cxOf]), hE⟩
end
end L2
set_option Elab.async false
set_option linter.all false
set_option maxRecDepth 100000
namespace L2
open PySem PySem.Spec PyProof.Rows
section
variable {X : Cx} {pins : List (Addr × Obj)} {σ : St} {H : Hp} {s : Shared}
def excO (ea : Addr) (cls : Value) : HO := .ext fun h => ∃ o vs, h.get? ea = some o ∧ o.cls = cls ∧ o.data = .fields vs
end
end L2
set_option Elab.async false
set_option linter.all false
set_option maxRecDepth 100000
namespace L2
open PySem PySem.Spec PySem.Calls PyProof.Rows PySem.W PySem.Builtin PySem.Builtin.ObjectAttr PySem.Builtin.Getset_descriptor
open Sem (wp)
def ExcAt (ea : Addr) (cls : Value) (h : Heap) : Prop := ∃ o vs, h.get? ea = some o ∧ o.cls = cls ∧ o.data = .fields vs
structure ExcCls (K : Frag) (C : Addr) : Prop where
  cls : (clsIn K C).isSome = true
  ga : findIn K (.ref C) "__getattribute__" = some (some (.builtin "BaseException.__getattribute__"))
  gt : findIn K (.ref C) "__getattr__" = some none
  cl : findIn K (.ref C) "__class__" = some (some (.builtin "object.__class__"))
  ob : subIn K (.ref C) (.type "object") = some true
  be : subIn K (.ref C) (.type "BaseException") = some true
section
variable {prog : Program} {w : World} {A : Around} {E : Value → Shared → Prop} {K : Frag} {C ea : Addr} {h : Heap} {g : Array GenState} {d : Drawn} {t : Nat} {os : OsState} {o : Obj}
theorem exc_type {M : Model} (hx : h.get? ea = some o) (hc : o.cls = .ref C) : Looks M h (typeOf (.ref ea)) (.ref C) := hc ▸ (Looks.ld hx).andThen .now
theorem exc_class_get {R : Result → Shared → Prop} (X : K.In h) (c : ExcCls K C) (hx : h.get? ea = some o) (hc : o.cls = .ref C) (hq : R (.ok (.ret (.ref C))) ⟨h, g, d, t, os⟩) :
    codeAny (model prog w) A (.call (.builtin "getset_descriptor.__get__") ⟨[.builtin "object.__class__", .ref ea, .ref C], []⟩) R ⟨h, g, d, t, os⟩ := by
  have L0 := exc_type (M := model prog w) hx hc
  have L1 := looks_subIn (M := model prog w) X c.ob
  refine codeAny_call_builtin KF.slot_gs.plain KF.entry_gs (KF.slot_gs.check _ _ _ _ _ _ _ _ KF.type_class (KF.args_gs _ _ _) ?_)
  unfold Builtin.«getset_descriptor.__get__» descrGet
  rw [dga_obj]
  refine wpAny_bind (wpAny_pure ?_)
  unfold descrGetter descrCheckInstance descrNameAndClass isInstance
  simp only [KF.owner_class]
  repeat lk
  refine ⟨Code.quiet_builtin _ (by decide +kernel), codeAny_builtin KF.entry_class ?_⟩
  unfold Builtin.«object.__class__» shownTypeOf
  repeat lk
  exact hq
theorem exc_check_ga {M : Model} {nameV : Value} {Q : Unit → Shared → Prop} (X : K.In h) (c : ExcCls K C) (hx : h.get? ea = some o) (hc : o.cls = .ref C) (hq : Q () ⟨h, g, d, t, os⟩) :
    wpAny M A (checkBuiltinCall "BaseException.__getattribute__" ⟨[.ref ea, nameV], []⟩) Q E ⟨h, g, d, t, os⟩ := by
  have hk : builtinKind "BaseException.__getattribute__" = some .slot := by decide +kernel
  have hsplit : splitId "BaseException.__getattribute__" = some ("BaseException", "__getattribute__") := by decide +kernel
  have L0 := exc_type (M := M) hx hc
  have L1 := looks_subIn (M := M) X c.be
  have ha := F.args_bexc_ga (.ref ea) nameV
  have LI : Looks M h (isInstance (.ref ea) (.type "BaseException")) true := L0.andThen L1
  simp only [checkBuiltinCall, hk, hsplit]
  refine wpAny_bind (LI.at ?_)
  repeat (first | assumption | lk | wp_step)
theorem exc_entry {tk : Tok} {Q : Fin → Shared → Prop} (X : K.In h) (c : ExcCls K C) (hx : h.get? ea = some o) (hc : o.cls = .ref C) (hq : Q (.done (.ret (.ref C))) ⟨h, g, d, t, os⟩) :
    wpAny (model prog w) A (Builtin.«object.__getattribute__» ⟨[.ref ea, .str "__class__" tk], []⟩) Q E ⟨h, g, d, t, os⟩ := by
  have hT5 : (⟨h, g, d, t, os⟩ : Shared).TypeIs (.builtin "object.__class__") "getset_descriptor" := F.typeOf_object_class
  have L2 := looks_findIn (M := model prog w) X c.cl
  have f5 := F.typeOf_object_class
  have f6 := F.slot_gs_get.lookup
  have f7 := F.slot_gs_set.lookup
  repeat (any_goals (first | assumption | (with_reducible refine wpAny_loadPart_at hx ?_; rw [hc]) | with_reducible refine L2.at ?_ | wp_step))
  refine exc_class_get X c hx hc ?_
  repeat (any_goals (first | assumption | wp_step))
theorem exc_by {tk : Tok} {Q : Value → Shared → Prop} (X : K.In h) (c : ExcCls K C) (hx : h.get? ea = some o) (hc : o.cls = .ref C) (hq : Q (.ref C) ⟨h, g, d, t, os⟩) :
    wpAny (model prog w) A (getAttrBy (.ref ea) (.str "__class__" tk) false) Q E ⟨h, g, d, t, os⟩ := by
  have f3 := F.attr_ValueError.ga.bind (.ref ea)
  have hx2 : (Value.builtin "BaseException.__getattribute__" == Value.builtin "object.__getattribute__") = false := by decide +kernel
  have hx1 : (onTheHeap (Value.ref C) && Value.builtin "BaseException.__getattribute__" == Value.builtin "object.__getattribute__") = false := by rw [hx2]; rfl
  have L2 := looks_findIn (M := model prog w) X c.ga
  have L3 := looks_findIn (M := model prog w) X c.gt
  repeat (any_goals (first | assumption | (with_reducible refine wpAny_loadPart_at hx ?_; rw [hc]) | with_reducible refine L2.at ?_ | with_reducible refine L3.at ?_ | wp_step))
  refine codeAny_call_builtin F.attr_ValueError.ga.plain F.entry_bexc_ga (exc_check_ga X c hx hc (exc_entry X c hx hc ?_))
  repeat (any_goals (first | assumption | wp_step))
theorem exc_attr {Q : Option Value → Shared → Prop} (X : K.In h) (c : ExcCls K C) (hx : h.get? ea = some o) (hc : o.cls = .ref C) (hq : Q (some (.ref C)) ⟨h, g, d, t + 1, os⟩) : wpAny (model prog w) A (getAttr? (.ref ea) "__class__") Q E ⟨h, g, d, t, os⟩ := by
  unfold getAttr? getAttrBy?
  repeat (any_goals (first | assumption | with_reducible apply exc_by X c hx hc | wp_step))
theorem kitx_exc (c : ExcCls K C) : KitX K (.ref ea) (.ref C) (ExcAt ea (.ref C)) where
  ty := fun _ _ _ ⟨_, _, e, q, _⟩ => exc_type e q
  it := fun _ _ X _ => by
    obtain ⟨cdD, hcD⟩ := Option.isSome_iff_exists.mp c.cls
    unfold clsIn at hcD
    split at hcD
    · rename_i c' d' cd' sl' ho
      intro A' Q' E' s' k q
      unfold isType loadHead
      exact wpAny_bind (wpAny_loadPart (k _ _ (X _ _ ho)) (wpAny_pure q))
    · cases hcD
  ne := fun h tp dd its n sl X htp => by
    obtain ⟨cdD, hcD⟩ := Option.isSome_iff_exists.mp c.cls
    refine Bool.eq_false_iff.mpr fun q => ?_
    have e : C = tp := Value.ref.inj (beq_iff_eq.mp q)
    subst e
    unfold clsIn at hcD
    split at hcD
    · rename_i c' d' cd' sl' ho
      have z := (X _ _ ho).symm.trans htp
      cases z
    · cases hcD
  ca := fun {prog w A E Q s} X ⟨o, vs, e, q, _⟩ k => by
    obtain ⟨h, g, d, t, os⟩ := s
    exact exc_attr X c e q k
end
end L2
set_option Elab.async false
set_option linter.all false
set_option maxRecDepth 100000
namespace L2
open PySem PySem.Spec PyProof.Rows
mutual
inductive Is (K : PySem.W.Frag) (H : Hp) : V → PyData → Prop
  | non : Is K H .non .none
  | bl (b : Bool) : Is K H (.bl b) (.bool b)
  | int (i : Int) : Is K H (.int i) (.int i)
  | str (x : Str) : Is K H (.str x) (.str x)
  | lst {a : Addr} {xs : List V} {ds : List PyData} : SqL K H a xs → IsAll K H xs ds → Is K H (.ref a) (.list ds)
  | tup {a : Addr} {xs : List V} {ds : List PyData} : SqT K H a xs → IsAll K H xs ds → Is K H (.ref a) (.tuple ds)
inductive IsAll (K : PySem.W.Frag) (H : Hp) : List V → List PyData → Prop
  | nil : IsAll K H [] []
  | cons {x : V} {xs : List V} {d : PyData} {ds : List PyData} : Is K H x d → IsAll K H xs ds → IsAll K H (x :: xs) (d :: ds)
end
theorem Same.tup {K : PySem.W.Frag} {H H' : Hp} {a : Addr} {xs : List V} (e : Same H H') (h : SqT K H a xs) : SqT K H' a xs := by
  rcases h with (h | ⟨o, h⟩) | h
  · exact .inl (.inl (e _ _ h))
  · exact .inl (.inr ⟨o, e _ _ h⟩)
  · exact .inr h
section
variable {X : Cx} {pins : List (Addr × Obj)} {σ : St} {H H' : Hp} {s : Shared} {K : PySem.W.Frag}
mutual
theorem Is.same : ∀ (d : PyData) {x : V}, Is K H x d → Same H H' → Is K H' x d
  | .none, _, r, _ => by cases r; exact .non
  | .bool _, _, r, _ => by cases r; exact .bl _
  | .int _, _, r, _ => by cases r; exact .int _
  | .str _, _, r, _ => by cases r; exact .str _
  | .list ds, _, r, e => by cases r with | lst h1 h2 => exact .lst (e.seq h1) (IsAll.same ds h2 e)
  | .tuple ds, _, r, e => by cases r with | tup h1 h2 => exact .tup (e.tup h1) (IsAll.same ds h2 e)
  | .dict _, _, r, _ => nomatch r
theorem IsAll.same : ∀ (ds : List PyData) {xs : List V}, IsAll K H xs ds → Same H H' → IsAll K H' xs ds
  | [], _, r, _ => by cases r; exact .nil
  | d :: ds, _, r, e => by cases r with | cons h1 h2 => exact .cons (Is.same d h1 e) (IsAll.same ds h2 e)
end
mutual
theorem Is.reads : ∀ (d : PyData) {x : V} {u : Value}, Inv X pins σ H s → Is X.K H x d → RelV x u → ∃ as, Reads s.heap u d as
  | .none, _, _, _, r, q => by cases r; cases q; exact ⟨_, .none⟩
  | .bool _, _, _, _, r, q => by cases r; cases q; exact ⟨_, .bool _⟩
  | .int _, _, _, _, r, q => by cases r; obtain ⟨t, rfl⟩ := q; exact ⟨_, .int _ _⟩
  | .str _, _, _, _, r, q => by cases r; obtain ⟨t, rfl⟩ := q; exact ⟨_, .str _ _⟩
  | .list ds, _, _, I, r, q => by
    cases r with
    | lst h1 h2 =>
      cases q
      obtain ⟨its, rv, ⟨o, n, e, c, _, d⟩, _⟩ := I.list h1
      obtain ⟨as, ra⟩ := IsAll.reads ds I h2 rv
      exact ⟨_, .list e c d (by simpa using ra)⟩
  | .tuple ds, _, _, I, r, q => by
    cases r with
    | tup h1 h2 =>
      cases q
      obtain ⟨its, rv, ⟨o, e, c, n, d⟩, _⟩ := I.tuple h1
      obtain ⟨as, ra⟩ := IsAll.reads ds I h2 rv
      exact ⟨_, .tuple e c d (by simpa using ra)⟩
  | .dict _, _, _, _, r, _ => nomatch r
theorem IsAll.reads : ∀ (ds : List PyData) {xs : List V} {us : List Value}, Inv X pins σ H s → IsAll X.K H xs ds → Vals xs us → ∃ as, ReadsAll s.heap us ds as
  | [], _, _, _, r, q => by cases r; cases q; exact ⟨_, .nil⟩
  | d :: ds, _, _, I, r, q => by
    cases r with
    | cons h1 h2 =>
      cases q with
      | cons q1 q2 =>
        obtain ⟨as, ra⟩ := Is.reads d I h1 q1
        obtain ⟨bs, rb⟩ := IsAll.reads ds I h2 q2
        exact ⟨_, .cons ra rb⟩
end
def rEqD (K : PySem.W.Frag) (neg : Bool) : R2 := fun x y H Q => ∃ d d', Is K H x d ∧ Is K H y d' ∧ d.canLay0 = true ∧ d'.canLay0 = true ∧ d.depth ≤ 32 ∧ Q (.bl (if neg then !PyData.eqv d d' else PyData.eqv d d')) H
theorem op_eqD (hu : X.A.units + 64 < cLine) : OpR X (compareOp .Eq) (rEqD X.K false) := by
  intro pins s σ H x y v u Q I rx ry ⟨d, d', h1, h2, c1, c2, hd, q⟩
  obtain ⟨as, ra⟩ := Is.reads d I h1 rx
  obtain ⟨bs, rb⟩ := Is.reads d' I h2 ry
  exact SeqAt.rcAt_reads ra rb c1 c2 (by have := Nat.min_le_left d.depth d'.depth; omega) _ _ _ _ ⟨.bl _, H, I, rfl, q⟩
theorem op_neD (hu : X.A.units + 64 < cLine) : OpR X (compareOp .NotEq) (rEqD X.K true) := by
  intro pins s σ H x y v u Q I rx ry ⟨d, d', h1, h2, c1, c2, hd, q⟩
  obtain ⟨as, ra⟩ := Is.reads d I h1 rx
  obtain ⟨bs, rb⟩ := Is.reads d' I h2 ry
  exact SeqAt.rcNeAt_reads ra rb c1 c2 (by have := Nat.min_le_left d.depth d'.depth; omega) _ _ _ _ ⟨.bl _, H, I, rfl, q⟩
end
end L2
set_option Elab.async false
set_option linter.all false
set_option maxRecDepth 100000
namespace L2
open PySem PySem.Spec PyProof.Rows
section
variable {X : Cx}
def repS (z : Str) (n : Int) : Str := ⟨(List.replicate n.toNat z.cps.toList).flatten.toArray⟩
def rMulS : R2 := fun x y H Q => ∃ z n, x = .str z ∧ y = .int n ∧ 0 ≤ n ∧ n < 2 ^ 40 ∧ z.length * n.toNat ≤ sizeLine ∧ Q (.str (repS z n)) H
end
end L2
set_option Elab.async false
set_option linter.all false
set_option maxRecDepth 100000
namespace PySem.SeqAt
open AutoSeq1 (wpAny_loadPart')
open MeetsSeq MeetsSeq2 MeetsSeq3 SeqRoads2
end PySem.SeqAt
namespace L2
open PySem PySem.Spec PyProof.Rows
section
variable {X : Cx}
theorem op_mulS : OpR X (binaryOp .Mult) rMulS := by
  intro pins s σ H x y v u Q I rx ry ⟨z, n, e1, e2, h0, hn, hz, q⟩
  subst e1 e2
  obtain ⟨t, rfl⟩ := rx
  obtain ⟨t', rfl⟩ := ry
  have fold : ∀ (k : Nat) (acc : List Nat), ((List.replicate k z.cps).foldl (· ++ ·) acc.toArray) = (acc ++ (List.replicate k z.cps.toList).flatten).toArray := by
    intro k
    induction k with
    | zero => intro acc; simp
    | succ k ih =>
      intro acc
      rw [List.replicate_succ, List.foldl_cons, List.replicate_succ, List.flatten_cons]
      have e : acc.toArray ++ z.cps = (acc ++ z.cps.toList).toArray := by simp
      rw [e, ih, List.append_assoc]
  have f0 := fold n.toNat []
  simp only [List.nil_append] at f0
  have len : (repS z n).length = z.length * n.toNat := by
    show (List.flatten _).toArray.size = _
    rw [List.size_toArray, List.length_flatten, List.map_replicate, List.sum_replicate_nat]
    simp [Str.length, Nat.mul_comm]
  have sl : sizeLine ≤ 2 ^ 40 := by rw [sizeLine_eq]; decide
  refine P.mul_str (by simp; omega) (fun h1 _ => ?_) (fun _ _ => ?_) ?_
  · have hn0 : 0 < n := by omega
    have : ((z.length : Int)) ≤ (2 ^ 63 - 1) / n := by
      rw [Int.le_ediv_iff_mul_le hn0]
      have : ((z.length * n.toNat : Nat) : Int) ≤ 2 ^ 40 := by omega
      rw [Int.natCast_mul, Int.toNat_of_nonneg h0] at this
      omega
    omega
  · unfold Builtin.Str.tooLong
    rw [decide_eq_false_iff_not]
    omega
  · by_cases h1 : n < 1
    · have e : n = 0 := by omega
      subst e
      rw [if_pos h1]
      have e2 : repS z 0 = Str.empty := rfl
      rw [e2] at q
      exact ⟨by decide, .str _, H, I.tok _, ⟨_, rfl⟩, q⟩
    · rw [if_neg h1]
      by_cases h2 : (n == 1 || z.length == 0) = true
      · rw [if_pos h2]
        have e2 : repS z n = z := by
          rcases Bool.or_eq_true_iff.mp h2 with h | h
          · have e : n = 1 := beq_iff_eq.mp h
            subst e
            show (⟨(List.replicate 1 z.cps.toList).flatten.toArray⟩ : Str) = z
            simp
          · have e : z.length = 0 := beq_iff_eq.mp h
            have e' : z.cps.toList = [] := List.length_eq_zero_iff.mp (by simpa [Str.length] using e)
            unfold repS
            rw [e']
            cases z with | mk c => cases c; simp_all
        rw [e2] at q
        exact ⟨.str _, H, I, ⟨_, rfl⟩, q⟩
      · rw [if_neg h2]
        have e2 : (⟨(List.replicate n.toNat z.cps).foldl (· ++ ·) #[]⟩ : Str) = repS z n := by
          unfold repS
          rw [← f0]
        rw [e2]
        exact ⟨by rw [len]; exact hz, .str _, H, I.tok _, ⟨_, rfl⟩, q⟩
inductive TyX (K : PySem.W.Frag) (H : Hp) : V → Value → Prop where
  | of {x : V} {t : Value} (h : TyOf K H x t) : TyX K H x t
  | exc {a C : Addr} (e : H a = some (excO a (.ref C))) (c : ExcCls K C) : TyX K H (.ref a) (.ref C)
theorem isinst_x {pins : List (Addr × Obj)} {σ : St} {H : Hp} {s : Shared} {A : Around} {E : Value → Shared → Prop} {Q : Value → Shared → Prop} {c : Value} {b : Bool} {x : V} {u t : Value} (I : Inv X pins σ H s) (rx : RelV x u) (ty : TyX X.K H x t) (e : PySem.W.kitOne X.K t c = some b) (h : ∀ tk, Q (.bool b) { s with toks := tk }) :
    wpAny (model X.prog X.w) A (call (.builtin "isinstance") [u, c]) Q E s := by
  cases ty with
  | of ty => exact isinst_ok I rx ty e h
  | @exc a C ea ec =>
    cases (show u = Value.ref a from rx)
    obtain ⟨p, _⟩ := (show ObjOk X.prog X.w H s.heap a (excO a (.ref C)) from I.hok a _ ea)
    exact PySem.W.kia_one (kitx_exc ec) I.kIn p e (fun z => nomatch z) h
def clsV : V → Option Value
  | .ref a => some (.ref a)
  | .ty n => some (.type n)
  | _ => none
theorem clsV_rel {c : V} {u v : Value} (e : clsV c = some v) (r : RelV c u) : u = v := by
  cases c <;> simp only [clsV] at e <;> first | (cases e; done) | (cases e; exact r)
theorem call_isi : CallR X (.builtin "isinstance") (fun xs H Q => ∃ x c t v b, xs = [x, c] ∧ TyX X.K H x t ∧ clsV c = some v ∧ PySem.W.kitOne X.K t v = some b ∧ Q (.bl b) H) := by
  intro pins s σ H xs us Q I r ⟨x, c, t, v, b, e, ty, hc, hk, q⟩
  subst e
  obtain ⟨u, w, rfl, ru, rw'⟩ := r.two
  cases clsV_rel hc rw'
  exact isinst_x I ru ty hk fun tk => ⟨.bl b, H, I.tok _, rfl, q⟩
theorem clsV_all : ∀ {cs : List V} {us vs : List Value}, cs.mapM clsV = some vs → Vals cs us → us = vs
  | [], _, vs, e, r => by cases r; simp at e; exact e.symm
  | c :: cs, _, vs, e, r => by
    cases r with
    | cons r1 r2 =>
      simp only [List.mapM_cons, Option.bind_eq_bind, Option.bind_eq_some_iff, Option.pure_def, Option.some.injEq] at e
      obtain ⟨v, hv, vs', hvs, rfl⟩ := e
      rw [clsV_rel hv r1, clsV_all hvs r2]
theorem call_isiT : CallR X (.builtin "isinstance") (fun xs H Q => ∃ a C p cs vs b, xs = [.ref a, .ref p] ∧ H a = some (excO a (.ref C)) ∧ ExcCls X.K C ∧ H p = some (.tup cs) ∧ cs.mapM clsV = some vs ∧ PySem.W.kitAny X.K (.ref C) vs = some b ∧ Q (.bl b) H) := by
  intro pins s σ H xs us Q I r ⟨a, C, p, cs, vs, b, e, ea, ec, hp, hc, hk, q⟩
  subst e
  obtain ⟨u, w, rfl, ru, rw'⟩ := r.two
  cases (show u = Value.ref a from ru)
  cases (show w = Value.ref p from rw')
  obtain ⟨p1, _⟩ := (show ObjOk X.prog X.w H s.heap a (excO a (.ref C)) from I.hok a _ ea)
  obtain ⟨_, its, rv, ⟨cls, dd, data, sl⟩, e1, c1, n, d1⟩ := (show ObjOk X.prog X.w H s.heap p (.tup cs) from I.hok p _ hp)
  simp only at c1 d1
  subst c1 d1
  cases clsV_all hc rv
  exact PySem.W.kia_tup (kitx_exc ec) I.kIn p1 e1 hk (fun z => nomatch z) fun tk => ⟨.bl b, H, I.tok _, rfl, q⟩
abbrev TJ := Str → St → Hp → (Str → Hp → Prop) → Prop
def PJ (X : Cx) (es : List Expr) (t : TJ) : Prop := ∀ (acc : Str) (pins : List (Addr × Obj)) (s : Shared) (σ : St) (H : Hp) (Q : Str → Hp → Prop), Inv X pins σ H s → t acc σ H Q →
  Joins (model X.prog X.w) X.A X.xe (evalEach es X.env) acc (fun out s₁ => ∃ H', Inv X pins σ H' s₁ ∧ Q out H') s
theorem pj_nil : PJ X [] (fun acc _ H Q => Q acc H) := fun _ _ _ _ H _ I h => ⟨H, I, h⟩
theorem pj_cons {e : Expr} {es : List Expr} {te : TE} {tj : TJ} (he : PE X e te) (hs : PJ X es tj) (hh : evalEach (e :: es) X.env = eval e X.env :: evalEach es X.env := by rfl) :
    PJ X (e :: es) (fun acc σ H Q => te σ H fun x H1 => ∃ y, x = .str y ∧ (acc ++ y).length ≤ sizeLine ∧ tj (acc ++ y) σ H1 Q) := by
  intro acc pins s σ H Q I h
  rw [hh]
  refine thn (he pins s σ H _ I h) fun v s1 ⟨x, H1, I1, r1, q1⟩ => ?_
  obtain ⟨y, rfl, hz, q⟩ := q1
  obtain ⟨t, rfl⟩ := r1
  exact ⟨y, t, rfl, hz, hs _ pins s1 σ H1 Q I1 q⟩
theorem Joins.imp {M : Model} {A : Around} {E : Value → Shared → Prop} {Q Q' : Str → Shared → Prop} (hq : ∀ x s, Q x s → Q' x s) : ∀ {l : List (Sem Value)} {acc : Str} {s : Shared}, Joins M A E l acc Q s → Joins M A E l acc Q' s
  | [], _, _, h => hq _ _ h
  | x :: rest, acc, s, h => thn (t := x) h fun v s1 ⟨y, t, e, hz, r⟩ => ⟨y, t, e, hz, Joins.imp hq r⟩
theorem pe_joined {e e' : Expr} {es : List Expr} {tj : TJ} {pos : Pos} (h : PJ X (e :: e' :: es) tj) : PE X (.JoinedStr (e :: e' :: es) pos) (fun σ H Q => tj Str.empty σ H fun out H1 => out.length ≤ sizeLine ∧ Q (.str out) H1) := by
  intro pins s σ H Q I hw
  refine wpAny_JoinedStr (Joins.imp (fun out s1 ⟨H1, I1, hz, q⟩ => ?_) (h Str.empty pins s σ H _ I hw))
  exact ⟨hz, .str out, H1, I1.tok _, ⟨_, rfl⟩, q⟩
end
end L2
set_option Elab.async false
set_option linter.all false
set_option maxRecDepth 100000
namespace L2
open PySem PySem.Spec PyProof.Rows
section
variable {P : Program} {w : World} {K : PySem.W.Frag} {mg : Str → Option Value} {base : Heap}
theorem Fun.okX {x qual : Str} {st : Stmt} {f : Addr} {fd : FuncData} {N ps : List Str} {k : Nat} {sp : Sp} (F : Fun K x qual st f fd) (S : FnScope N ps (defScope st)) (len : ∀ vs H Q E, sp vs H Q E → vs.length = ps.length)
    (hbody : ∀ (cdv : Value) (A : Around) (outer : List Env) (s : Shared) (H : Hp) (vs : List V) (Q : VK) (E : XK), Room k (A.deeper (envOfC qual (defScope st) s.heap.objs.size f cdv)) → sp vs H Q E →
      ∃ t, PSs (cxOf (CXE P w) P w K mg base N qual (defScope st) f cdv A outer s H E) (defBody st) t ∧ t { nx := fun _ H' => Q .non H', rt := Q } (start N vs) H) : FnOk P w K mg base (CXE P w) (k + 1) f fd ps sp := by
  obtain ⟨oc, od, kV, doc, pm, an, cdv, ct, osl, rfl, lk, hcd⟩ := F.ex
  exact fn_of lk hcd S len fun A outer s H vs Q E hr hsp => hbody cdv A outer s H vs Q E hr hsp
def FnIn (P : Program) (w : World) (K : PySem.W.Frag) (mg : Str → Option Value) (base : Heap) (CX : CXT) (k : Nat) (x : Str) (ps : List Str) (sp : Sp) : Prop :=
  ∃ f fd, mg x = some (.ref f) ∧ PySem.W.keepIn K (.ref f) = true ∧ Binds K fd ps [] ∧ FnOk P w K mg base CX k f fd ps sp
end
section
variable {X : Cx} {CX : CXT} {k : Nat} {x : Str} {ps : List Str} {sp : Sp} {p pos : Pos} {e : Expr} {es : List Expr} {t : TA}
theorem pe_fn {E : XK} (D : FnIn X.prog X.w X.K X.mg X.base CX k x ps sp) (hr : Room k X.A) (hx : Passes CX X E) (ha : PA X (e :: es) t) (hg : Gl X x := by rfl)
    (hdb : (x == ("__debug__" : Str)) = false := by decide) (he : starEach (e :: es) X.env = (false, eval e X.env) :: starEach es X.env := by rfl) (hpl : (backTo pos (starEach es X.env)).any (·.1) = false := by rfl) :
    PE X (.Call (.Name x p) (e :: es) [] pos) (tCall sp [] E t) := by
  obtain ⟨f, fd, h1, h2, h3, h4⟩ := D
  exact pe_call h4 hr hg h1 h2 h3 .nil hx ha hdb he hpl
theorem pass_no {P : Program} {w : World} : Passes (CXE P w) X E0 := fun _ _ _ _ _ _ _ h => by
  obtain ⟨_, _, _, _, _, _, _, _, _, _, _, _, _, z⟩ := h
  exact z.elim
end
end L2
set_option Elab.async false
set_option linter.all false
set_option maxRecDepth 100000
namespace L2
open PySem PySem.Spec PyProof.Rows
section
variable {X : Cx}
theorem op_addG : OpR X (binaryOp .Add) (fun x y H Q => (∃ i j, x = .int i ∧ y = .int j ∧ Q (.int (i + j)) H) ∨ (∃ i j, x = .str i ∧ y = .str j ∧ i.length + j.length ≤ sizeLine ∧ Q (.str (i ++ j)) H) ∨ rCat x y H Q) := op_add.or (op_add_str.or op_cat)
theorem op_mulG : OpR X (binaryOp .Mult) (fun x y H Q => (∃ i j, x = .int i ∧ y = .int j ∧ CMul i j ∧ Q (.int (i * j)) H) ∨ rMulS x y H Q ∨ rRep x y H Q) := op_mul.or (op_mulS.or op_rep)
theorem op_eqG (hu : X.A.units + 64 < cLine) : OpR X (compareOp .Eq) (fun x y H Q => rEq x y H Q ∨ rEqD X.K false x y H Q) := op_eq.or (op_eqD hu)
theorem op_neG (hu : X.A.units + 64 < cLine) : OpR X (compareOp .NotEq) (fun x y H Q => rNe x y H Q ∨ rEqD X.K true x y H Q) := op_ne.or (op_neD hu)
def inS (i j : Str) : Bool := !(Builtin.Str.occurrences j i 0 j.length 1).isEmpty
theorem op_inG : OpR X (compareOp .In) (fun x y H Q => (∃ i j, x = .str i ∧ y = .str j ∧ Q (.bl (inS i j)) H) ∨ rIn X.K false x y H Q) := op_in_str.or op_in_seq
theorem op_notInG : OpR X (compareOp .NotIn) (fun x y H Q => (∃ i j, x = .str i ∧ y = .str j ∧ Q (.bl (!inS i j)) H) ∨ rIn X.K true x y H Q) := op_notIn_str.or op_notIn_seq
theorem call_lenG : CallR X (.builtin "len") (fun xs H Q => (∃ z, xs = [.str z] ∧ z.length ≤ sizeLine ∧ Q (.int z.length) H) ∨ ∃ p ys, xs = [.ref p] ∧ (SqL X.K H p ys ∨ SqT X.K H p ys) ∧ Q (.int ys.length) H) := call_len_str.or call_len_seq
theorem call_isiG : CallR X (.builtin "isinstance") (fun xs H Q => (∃ x c t v b, xs = [x, c] ∧ TyX X.K H x t ∧ clsV c = some v ∧ PySem.W.kitOne X.K t v = some b ∧ Q (.bl b) H) ∨
  ∃ a C p cs vs b, xs = [.ref a, .ref p] ∧ H a = some (excO a (.ref C)) ∧ ExcCls X.K C ∧ H p = some (.tup cs) ∧ cs.mapM clsV = some vs ∧ PySem.W.kitAny X.K (.ref C) vs = some b ∧ Q (.bl b) H) := call_isi.or call_isiT
end
end L2
set_option Elab.async false
set_option linter.all false
set_option maxRecDepth 100000
namespace L2
open PySem PySem.Spec PyProof.Rows
theorem atI_in {α : Type} {xs : List α} {k : Int} (h0 : 0 ≤ k) (h : k < xs.length) : ∃ v, atI xs k = some v ∧ xs[k.toNat]? = some v := by
  have hlt : k.toNat < xs.length := by omega
  refine ⟨xs[k.toNat], ?_, List.getElem?_eq_getElem hlt⟩
  unfold atI ixN
  rw [if_pos h0, if_pos h]
  exact List.getElem?_eq_getElem hlt
theorem atI_int {ns : List Int} {k : Int} (h0 : 0 ≤ k) (h : k < ns.length) : atI (ns.map V.int) k = some (.int (ns.getD k.toNat 0)) := by
  obtain ⟨v, e1, e2⟩ := atI_in (xs := ns.map V.int) h0 (by simpa using h)
  have hlt : k.toNat < ns.length := by omega
  rw [List.getElem?_map, List.getElem?_eq_getElem hlt] at e2
  cases e2
  rw [e1]
  simp [List.getD, List.getElem?_eq_getElem hlt]
theorem Same.upd {H H' : Hp} {p : Addr} {o : HO} (s : Same H H') (h : H' p = none) : Same H (upd H' p o) := fun b o' e => by
  have e' := s b o' e
  rw [upd_ne (ne_of_none e' h)]
  exact e'
theorem Same.updN {H H' : Hp} {p : Addr} {o : HO} (s : Same H H') (h : H p = none) : Same H (L2.upd H' p o) := fun b o' e => by
  rw [upd_ne (ne_of_none e h)]
  exact s b o' e
end L2
set_option Elab.async false
set_option linter.all false
set_option maxRecDepth 100000
namespace L2
open PySem PySem.Spec PyProof.Rows
structure Nm (sc : Scope) (x : Str) : Prop where
  loc : sc.names.lookup x = some .local
  db : (x == ("__debug__" : Str)) = false
  cd : (x == ("__classdict__" : Str)) = false
structure Gm (sc : Scope) (x : Str) : Prop where
  gl : sc.names.lookup x = some .globalImplicit
  db : (x == ("__debug__" : Str)) = false
  nn : x ≠ "__name__"
theorem bt_len : bootBuiltins "len" = some (.builtin "len") := by decide +kernel
theorem bt_isinstance : bootBuiltins "isinstance" = some (.builtin "isinstance") := by decide +kernel
theorem bt_bool : bootBuiltins "bool" = some (.type "bool") := by decide +kernel
theorem bt_list : bootBuiltins "list" = some (.type "list") := by decide +kernel
theorem bt_set : bootBuiltins "set" = some (.type "set") := by decide +kernel
theorem bt_sorted : bootBuiltins "sorted" = some (.builtin "sorted") := by decide +kernel
section
variable {X : Cx} {x : Str} {pos p : Pos}
theorem pvN (i : Nat) (n : Nm X.env.scope x) (hN : X.N[i]? = some x := by rfl) : PE X (.Name x pos) (tVar i) := pe_var hN (Or.inl n.loc) n.db n.cd
theorem pg_nm (i : Nat) (nd : X.N.Nodup) (n : Nm X.env.scope x) (hN : X.N[i]? = some x := by rfl) : PG X (.Name x pos) (gName i) := pg_name nd hN (Or.inl n.loc) (Or.inr n.loc)
theorem ps_nm (i : Nat) {e : Expr} {te : TE} {pos' : Pos} (nd : X.N.Nodup) (n : Nm X.env.scope x) (he : PE X e te) (hN : X.N[i]? = some x := by rfl) (hs : swapsWith e (some (.Name x pos')) pos.line X.env = pure false := by rfl) :
    PS X (.Assign [.Name x pos'] e pos) (tAsg te (gName i)) := ps_set nd hN (Or.inl n.loc) he hs (Or.inr n.loc)
theorem pe_gm {v : V} {u : Value} (g : Gm X.env.scope x) (hm : X.mg x = some u) (r : RelV v u) : PE X (.Name x pos) (tC v) := pe_glob g.gl hm r g.db
theorem pe_gb {v : V} {u : Value} (g : Gm X.env.scope x) (hm : X.mg x = none) (hv : bootBuiltins x = some u) (r : RelV v u) : PE X (.Name x pos) (tC v) := pe_bltn g.gl hm hv r g.nn g.db
variable {e : Expr} {es : List Expr} {t : TA} {id T : String} {r : List V → Hp → VK → Prop}
theorem pe_cb (hc : CallR X (.builtin id) r) (g : Gm X.env.scope x) (hm : X.mg x = none) (hv : bootBuiltins x = some (.builtin id)) (ha : PA X (e :: es) t)
    (he : starEach (e :: es) X.env = (false, eval e X.env) :: starEach es X.env := by rfl) (hpl : (backTo pos (starEach es X.env)).any (·.1) = false := by rfl) : PE X (.Call (.Name x p) (e :: es) [] pos) (tCB r t) := pe_callB hc g.gl hm hv ha g.nn g.db he hpl
theorem pe_ct (hc : CallR X (.type T) r) (g : Gm X.env.scope x) (hm : X.mg x = none) (hv : bootBuiltins x = some (.type T)) (ha : PA X (e :: es) t)
    (he : starEach (e :: es) X.env = (false, eval e X.env) :: starEach es X.env := by rfl) (hpl : (backTo pos (starEach es X.env)).any (·.1) = false := by rfl) : PE X (.Call (.Name x p) (e :: es) [] pos) (tCB r t) := pe_callTy hc g.gl hm hv ha g.nn g.db he hpl
theorem pe_fd {CX : CXT} {k : Nat} {ps : List Str} {sp : Sp} {E : XK} (D : FnIn X.prog X.w X.K X.mg X.base CX k x ps sp) (g : Gm X.env.scope x) (hr : Room k X.A) (hx : Passes CX X E) (ha : PA X (e :: es) t)
    (he : starEach (e :: es) X.env = (false, eval e X.env) :: starEach es X.env := by rfl) (hpl : (backTo pos (starEach es X.env)).any (·.1) = false := by rfl) :
    PE X (.Call (.Name x p) (e :: es) [] pos) (tCall sp [] E t) := pe_fn D hr hx ha g.gl g.db he hpl
theorem pi_r1 {tg b : Expr} {ta : TA} (g : Gm X.env.scope "range") (hm : X.mg "range" = none) (ha : PA X [b] ta) (hs : starEach [b] X.env = [(false, eval b X.env)] := by rfl) : PI X tg (.Call (.Name "range" p) [b] [] pos) (iRng1 ta) := pi_range1 g.gl hm ha hs
theorem ps_rs {W : St → XK} {C : Addr} {np cpos : Pos} (ht : Throws X W) (g : Gm X.env.scope x) (hc : X.calm = true) (q : PySem.W.excIn X.K C [.type "ValueError", .type "Exception", .type "BaseException", .type "object"] "ValueError.__new__" = true) (hm : X.mg x = some (.ref C)) (ha : PA X (e :: es) t)
    (he : starEach (e :: es) X.env = (false, eval e X.env) :: starEach es X.env := by rfl) (hpl : (backTo cpos (starEach es X.env)).any (·.1) = false := by rfl) :
    PS X (.Raise (some (.Call (.Name x np) (e :: es) [] cpos)) none pos) (tRaise W C t) := ps_raise ht hc q hm ha g.gl g.db he hpl
end
end L2
set_option Elab.async false
set_option linter.all false
set_option maxRecDepth 100000
namespace L2
open PySem PySem.Spec PyProof.Rows
def constOf : Expr → Option V
  | .Constant (.int i) _ _ => some (.int i)
  | .Constant (.str x) _ _ => some (.str x)
  | .Constant (.bool b) _ _ => some (.bl b)
  | .Constant .none _ _ => some .non
  | _ => none
def constsOf : List Expr → Option (List V)
  | [] => some []
  | e :: es => match constOf e, constsOf es with
    | some v, some vs => some (v :: vs)
    | _, _ => none
section
variable {X : Cx}
theorem pe_const {e : Expr} {v : V} (h : constOf e = some v) : PE X e (tC v) := by
  unfold constOf at h
  split at h <;> first | (cases h; first | exact pe_int | exact pe_str | exact pe_bl | exact pe_non) | cases h
theorem star_const {e : Expr} {v : V} (h : constOf e = some v) (es : List Expr) : starEach (e :: es) X.env = (false, eval e X.env) :: starEach es X.env := by
  unfold constOf at h
  split at h <;> first | rfl | cases h
theorem pa_consts : ∀ {es : List Expr} {vs : List V}, constsOf es = some vs → PA X es (fun _ H Q => Q vs H)
  | [], vs, h => by
    cases h
    exact pa_nil
  | e :: es, vs, h => by
    unfold constsOf at h
    split at h
    · rename_i v vs' h1 h2
      cases h
      exact pa_cons (pe_const h1) (pa_consts h2) (star_const h1 es)
    · cases h
end
end L2
set_option Elab.async false
set_option linter.all false
set_option maxRecDepth 100000
namespace L2
open PySem PySem.Spec PyProof.Rows
theorem relab {env : Env} {x : Str} : ∀ {ns : List (Str × NameKind)}, (ns.map fun (n, k) => if (k == NameKind.free && env.scope.kind == .function && env.kindOf n == some .cell) then (n, NameKind.cell) else (n, k)).lookup x
    = (ns.lookup x).map fun k => if (k == NameKind.free && env.scope.kind == .function && env.kindOf x == some .cell) then NameKind.cell else k
  | [] => rfl
  | (n, k) :: r => by
    have ih := @relab env x r
    rw [List.map_cons]
    cases q : x == n with
    | true =>
      have e : x = n := beq_iff_eq.mp q
      subst e
      rw [List.lookup_cons, List.lookup_cons, q]
      by_cases hc : (k == NameKind.free && env.scope.kind == .function && env.kindOf x == some .cell) = true
      · simp only [hc, if_true, q, Option.map_some]
      · simp only [hc, if_false, q, Option.map_some, Bool.false_eq_true]
    | false =>
      rw [List.lookup_cons, List.lookup_cons, q]
      by_cases hc : (k == NameKind.free && env.scope.kind == .function && env.kindOf n == some .cell) = true
      · simp only [hc, if_true, q]; exact ih
      · simp only [hc, if_false, q, Bool.false_eq_true]; exact ih
theorem relab_free {sc : Scope} {env : Env} {x : Str} (h : sc.names.lookup x = some .free) : (relabel sc env).names.lookup x = some .cell ∨ (relabel sc env).names.lookup x = some .free := by
  have e : (relabel sc env).names.lookup x = _ := relab
  rw [h] at e
  rw [e, Option.map_some]
  by_cases hc : (NameKind.free == NameKind.free && env.scope.kind == .function && env.kindOf x == some .cell) = true
  · rw [if_pos hc]; exact .inl rfl
  · rw [if_neg hc]; exact .inr rfl
theorem relab_other {sc : Scope} {env : Env} {x : Str} {k : NameKind} (h : sc.names.lookup x = some k) (hk : (k == NameKind.free) = false) : (relabel sc env).names.lookup x = some k := by
  have e : (relabel sc env).names.lookup x = _ := relab
  rw [h, Option.map_some, hk] at e
  exact e
theorem relab_back {sc : Scope} {env : Env} {x : Str} (hn : ∀ y ∈ sc.names, y.2 ≠ .cell) (h : (relabel sc env).names.lookup x = some .cell ∨ (relabel sc env).names.lookup x = some .free) : sc.names.lookup x = some .free := by
  have e : (relabel sc env).names.lookup x = _ := relab
  cases q : sc.names.lookup x with
  | none => rw [q] at e; rw [e] at h; rcases h with z | z <;> cases z
  | some k =>
    rw [q, Option.map_some] at e
    cases k with
    | free => rfl
    | cell => exact absurd rfl (hn _ (PySem.mem_of_lookup q))
    | _ => rw [e] at h; rcases h with z | z <;> cases z
theorem clos_ok {env : Env} : ∀ (ns : List (Str × NameKind)) (cs : List (Str × Addr)), (∀ y ∈ ns, y.2 = .free → ∃ c, env.cells.lookup y.1 = some c) → (∀ x c, cs.lookup x = some c → env.cells.lookup x = some c) →
    ∃ cl, (forIn ns cs fun (x : Str × NameKind) (r : List (Str × Addr)) => if (x.2 == .free) = true then do let c ← cellOf env x.1; pure (ForInStep.yield ((x.1, c) :: r)) else pure (ForInStep.yield r) : Sem (List (Str × Addr))) = pure cl ∧
      (∀ x c, cl.lookup x = some c → env.cells.lookup x = some c) ∧ (∀ y ∈ ns, y.2 = .free → ∃ c, cl.lookup y.1 = some c) ∧ ∀ x c, cs.lookup x = some c → ∃ c', cl.lookup x = some c'
  | [], cs, _, h2 => ⟨cs, rfl, h2, fun y hy => by simp at hy, fun x c e => ⟨c, e⟩⟩
  | (n, k) :: r, cs, h1, h2 => by
    rw [List.forIn_cons]
    by_cases hk : k = .free
    · subst hk
      obtain ⟨c, hc⟩ := h1 (n, .free) List.mem_cons_self rfl
      have hc : env.cells.lookup n = some c := hc
      obtain ⟨cl, e, p1, p2, p3⟩ := clos_ok r ((n, c) :: cs) (fun y hy => h1 y (List.mem_cons_of_mem _ hy)) (fun x c' e => by
        rw [List.lookup_cons] at e
        cases q : x == n with
        | true => rw [q] at e; cases e; rw [beq_iff_eq.mp q]; exact hc
        | false => rw [q] at e; exact h2 x c' e)
      refine ⟨cl, ?_, p1, fun y hy hf => ?_, fun x c' e => ?_⟩
      · have : cellOf env n = pure c := by unfold cellOf; rw [hc]
        simp only [beq_self_eq_true, if_true, this, pure_bind]
        exact e
      · rcases List.mem_cons.mp hy with z | z
        · subst z; exact p3 n c (by rw [List.lookup_cons, beq_self_eq_true])
        · exact p2 y z hf
      · cases q : x == n with
        | true => exact p3 x c (by rw [List.lookup_cons, q])
        | false => exact p3 x c' (by rw [List.lookup_cons, q]; exact e)
    · have hb : (k == NameKind.free) = false := beq_eq_false_iff_ne.mpr hk
      obtain ⟨cl, e, p1, p2, p3⟩ := clos_ok r cs (fun y hy => h1 y (List.mem_cons_of_mem _ hy)) h2
      refine ⟨cl, ?_, p1, fun y hy hf => ?_, p3⟩
      · simp only [hb, Bool.false_eq_true, if_false, pure_bind]
        exact e
      · rcases List.mem_cons.mp hy with z | z
        · subst z; exact absurd hf hk
        · exact p2 y z hf
theorem clos_mk {env : Env} {sc : Scope} (h : ∀ y ∈ sc.names, y.2 = .free → ∃ c, env.cells.lookup y.1 = some c) :
    ∃ cl, closureFor sc env = pure cl ∧ (∀ x c, cl.lookup x = some c → env.cells.lookup x = some c) ∧ ∀ y ∈ sc.names, y.2 = .free → ∃ c, cl.lookup y.1 = some c := by
  obtain ⟨cl, e, p1, p2, _⟩ := clos_ok sc.names [] h (fun x c e => by cases e)
  refine ⟨cl, ?_, p1, p2⟩
  unfold closureFor
  show (forIn sc.names ([] : List (Str × Addr)) _ >>= fun r => pure r) = _
  rw [bind_pure]
  rw [← e]
end L2
set_option Elab.async false
set_option linter.all false
set_option maxRecDepth 100000
namespace L2
open PySem PySem.Spec PyProof.Rows
theorem calmed {α : Type} {M : Model} {A : Around} {t : Sem α} {Q Q' : α → Shared → Prop} {E : Value → Shared → Prop} {s : Shared} (h : wpAny M A t Q (fun _ _ => False) s) (hq : ∀ a s, Q a s → Q' a s) : wpAny M A t Q' E s := wpAny_mono h hq fun _ _ f => f.elim
def testsOf (ifs : List Expr) (env : Env) : Sem Bool := forIn ifs true fun c r => if r = true then do let ok ← isTrue c env (eval c env); pure (ForInStep.yield ok) else pure (ForInStep.yield r)
theorem comp_turns {prog : Program} {w : World} {A : Around} {R : Result → Shared → Prop} {s : Shared} {elt tg iter : Expr} {ifs : List Expr} {sc : Scope} {pos : Pos} {it acc : Value} {env : Env} (I : Nat → Shared → Prop)
    (turn : ∀ n s, I n s → wpAny (model prog w) A (pyNext it) (fun r s₁ => match r with
      | none => R (.ok .next) s₁
      | some v => wpAny (model prog w) A (letOwnedTupleGo tg it v) (fun _ s₂ => wpAny (model prog w) A (assign tg env v) (fun _ s₃ => wpAny (model prog w) A (testsOf ifs env) (fun ok s₄ =>
          if ok = true then wpAny (model prog w) A (eval elt env) (fun x s₅ => wpAny (model prog w) A (call (.builtin "list.append") [acc, x]) (fun _ s₆ => ∃ m, m < n ∧ I m s₆) (fun _ _ => False) s₅) (fun _ _ => False) s₄
          else ∃ m, m < n ∧ I m s₄) (fun _ _ => False) s₃) (fun _ _ => False) s₂) (fun _ _ => False) s₁) (fun _ _ => False) s)
    (n : Nat) (h : I n s) : codeAny (model prog w) A (.compLoop (.ListComp elt [⟨tg, iter, ifs, 0⟩] sc pos) 0 it acc env) R s := by
  refine codeAny_loop rfl I (fun n s hI => ?_) n h
  show wpAny _ A ((compTurn (.ListComp elt [⟨tg, iter, ifs, 0⟩] sc pos) 0 it acc env).onRaise _) _ _ s
  refine wpAny_noted ?_
  rw [compTurn_list]
  refine wpAny_bind (wpAny_standAt (wpAny_bind (calmed (turn n s hI) fun r s₁ h₁ => ?_)))
  match r, h₁ with
  | none, h₁ => exact wpAny_pure h₁
  | some v, h₁ =>
    refine wpAny_bind (calmed h₁ fun _ s₂ h₂ => wpAny_bind (calmed h₂ fun _ s₃ h₃ => wpAny_bind (calmed h₃ fun ok s₄ h₄ => ?_)))
    match ok, h₄ with
    | false, h₄ => exact wpAny_pure ⟨rfl, h₄⟩
    | true, h₄ => exact wpAny_bind (wpAny_bind (calmed h₄ fun x s₅ h₅ => wpAny_bind (calmed h₅ fun _ s₆ h₆ => wpAny_pure (wpAny_pure ⟨rfl, h₆⟩))))
structure CompSc (sc osc : Scope) (N' N : List Str) (srcs : List (Option Nat)) : Prop where
  kind : sc.kind = .function
  nocell : ∀ y ∈ sc.names, y.2 ≠ .cell
  one : ∀ y ∈ sc.names, y.2 = .local → sc.names.lookup y.1 = some .local
  frees : ∀ y ∈ sc.names, y.2 = .free → osc.names.lookup y.1 = some .cell ∨ osc.names.lookup y.1 = some .free
  nd : N'.Nodup
  len : srcs.length = N'.length
  out : ∀ i j : Nat, srcs[i]? = some (some j) → ∃ x, N'[i]? = some x ∧ N[j]? = some x ∧ sc.names.lookup x = some .free ∧ (osc.names.lookup x = some .cell ∨ osc.names.lookup x = some .free)
def srcSt (srcs : List (Option Nat)) (σ : St) : St := srcs.map fun o => o.bind fun j => (σ[j]?).join
def cxComp (X : Cx) (N' : List Str) (sc : Scope) (cl : List (Str × Addr)) (C : Addr) (fp : List Addr) (pins : List (Addr × Obj)) (s₂ : Shared) (H₂ : Hp) : Cx :=
  { prog := X.prog, w := X.w, K := X.K, mg := X.mg, base := X.base, A := X.A, N := N', s₀ := s₂, H₀ := H₂, env := compEnvC sc cl C X.env, outer := X.stack, stack := X.stack, ex := fp, fn := fun _ => false, calm := X.calm, pn := X.pn ++ pins, xe := fun _ _ => False }
section
variable {X : Cx} {N' : List Str} {sc : Scope} {srcs : List (Option Nat)} {cl : List (Str × Addr)} {C : Addr} {fp : List Addr} {pins : List (Addr × Obj)} {s₂ : Shared} {H₂ : Hp} {σ : St}
theorem cx_ok (S : CompSc sc X.env.scope N' X.N srcs) (I : Inv X pins σ H₂ s₂) (hcl : ∀ x c, cl.lookup x = some c → X.env.cells.lookup x = some c) (hcl2 : ∀ y ∈ sc.names, y.2 = .free → ∃ c, cl.lookup y.1 = some c)
    (hC : s₂.heap.objs.size ≤ C) (hfp : ∀ b ∈ fp, FpOk X pins H₂ b) (hfo : ∀ b ∈ fp, ∃ o, s₂.heap.get? b = some o) : (cxComp X N' sc cl C fp pins s₂ H₂).Ok where
  mod := I.ok.mod
  kind := S.kind
  glob := I.ok.glob
  blt := I.ok.blt
  above := hC
  inj := fun x y c h1 h2 => I.ok.inj x y c (hcl x c h1) (hcl y c h2)
  has := fun x hx => hcl2 _ (PySem.mem_of_lookup (relab_back S.nocell hx)) rfl
  cab := fun x c hf => by cases hf
  hd := I.ok.hd
  frames := I.ok.frames
  stk := .inl rfl
  exf := fun b hb => by
    obtain ⟨o, ho⟩ := hfo b hb
    exact ⟨Nat.ne_of_lt (Nat.lt_of_lt_of_le (Heap.lt_size ho) hC), fun x c e => (hfp b hb).2.2.2.2.1 x c (hcl x c e)⟩
  bs := I.bs
  bsz := Nat.le_trans I.ok.bsz I.sz
  noex := fun b o e hb => by
    rcases (hfp b hb).2.2.2.1 with z | z
    · exact I.ok.noex b o e z
    · exact absurd (Nat.lt_of_lt_of_le (Heap.lt_size (I.ok.bs b o e).1) z) (Nat.lt_irrefl _)
  exfs := fun b hb z => (List.mem_cons.mp (I.stkSub b z)).elim (hfp b hb).2.1 (hfp b hb).2.2.1
  funs := I.stack
  frf := I.stkFree
theorem comp_begin {D : Addr} {h₁ : Heap} {tk : Nat} {m : Str → Option Value} (S : CompSc sc X.env.scope N' X.N srcs) (I : Inv X pins σ H₂ s₂) (hcl : ∀ x c, cl.lookup x = some c → X.env.cells.lookup x = some c) (hcl2 : ∀ y ∈ sc.names, y.2 = .free → ∃ c, cl.lookup y.1 = some c)
    (hfp : ∀ b ∈ fp, FpOk X pins H₂ b) (hfo : ∀ b ∈ fp, ∃ o, s₂.heap.get? b = some o) (hD : D = s₂.heap.objs.size) (hC : C = s₂.heap.objs.size + 1) (hk : ∀ b o, (s₂.heap.push { cls := .type "list", data := .seq #[] }).get? b = some o → h₁.get? b = some o) (hns : h₁.Ns C m) :
    Inv (cxComp X N' sc cl C fp pins s₂ H₂) [] (srcSt srcs σ) (upd H₂ D (.lst [])) { s₂ with heap := h₁, toks := tk } := by
  subst hD
  have hCle : s₂.heap.objs.size ≤ C := by rw [hC]; exact Nat.le_succ _
  have ok := cx_ok S I hcl hcl2 hCle hfp hfo
  have I3 := I.lnew (ys := []) (its := []) (t' := tk) .nil (Nat.zero_le _)
  have I4 : Inv X pins σ (upd H₂ s₂.heap.objs.size (.lst [])) { s₂ with heap := h₁, toks := tk } := I3.kept (t' := tk) hk
  have old : ∀ b o, s₂.heap.get? b = some o → h₁.get? b = some o := fun b o e => hk b o (Heap.get?_push_of_some _ e)
  have neD : ∀ b o, s₂.heap.get? b = some o → b ≠ s₂.heap.objs.size := fun b o e => Nat.ne_of_lt (Heap.lt_size e)
  have cellOld : ∀ x c, cl.lookup x = some c → ∃ v o, s₂.heap.get? c = some o ∧ o.data = .cell v := fun x c e => by
    obtain ⟨v, o, ho, hd⟩ := I.cell x c (hcl x c e)
    exact ⟨v, o, ho, hd⟩
  refine ⟨ok, rfl, I.bare, Un.laid old (Nat.le_refl _) I.fresh, ⟨m, hns, fun i x v e1 e2 e3 => ?_⟩, fun x c e => ?_, ?_, fun x c e => ?_, fun p hp => ?_, I4.hok, ?_⟩
  · have e2' : (srcs[i]?).map (fun o => o.bind fun j => (σ[j]?).join) = some (some v) := by
      have := e2
      unfold srcSt at this
      rwa [List.getElem?_map] at this
    cases q : srcs[i]? with
    | none => rw [q] at e2'; cases e2'
    | some oj =>
      rw [q, Option.map_some] at e2'
      cases oj with
      | none => cases e2'
      | some j =>
        have e4 : (σ[j]?).join = some v := by simpa using e2'
        have e5 : σ[j]? = some (some v) := by
          cases z : σ[j]? with
          | none => rw [z] at e4; cases e4
          | some w => rw [z] at e4; rw [← e4]; rfl
        obtain ⟨x', n1, n2, n3, n4⟩ := S.out i j q
        have e1' : N'[i]? = some x := e1
        rw [n1] at e1'; cases e1'
        obtain ⟨m2, hn2, hl⟩ := I.loc
        have hv : Vis X.env.scope x := n4.elim (fun z => .inr (.inl z)) fun z => .inr (.inr z)
        obtain ⟨u, r, l⟩ := hl j x v n2 e5 hv
        refine ⟨u, r, .inr ⟨relab_free n3, ?_⟩⟩
        rcases l with ⟨k, _⟩ | ⟨_, c, ec, z⟩
        · have k' : X.env.scope.names.lookup x = some .local := k
          rcases n4 with z | z <;> rw [k'] at z <;> cases z
        · obtain ⟨c', ec'⟩ := hcl2 _ (PySem.mem_of_lookup n3) rfl
          have := hcl x c' ec'
          rw [ec] at this; cases this
          obtain ⟨o, ho, hd⟩ := z
          exact ⟨c, ec', o, old c o ho, hd⟩
  · obtain ⟨v, o, ho, hd⟩ := cellOld x c e
    exact ⟨v, o, old c o ho, hd⟩
  · show upd H₂ s₂.heap.objs.size (.lst []) C = none
    rw [upd_ne (by rw [hC]; exact Nat.succ_ne_self _)]
    exact I.hok.fresh hCle
  · obtain ⟨v, o, ho, hd⟩ := cellOld x c e
    show upd H₂ s₂.heap.objs.size (.lst []) c = none
    rw [upd_ne (neD c o ho)]
    exact I.freeC x c (hcl x c e)
  · have hp' : p ∈ X.pn ++ pins := by simpa [cxComp] using hp
    obtain ⟨e, n, ne, nf, d⟩ := I.pin p hp'
    obtain ⟨_, n4, _⟩ := I4.pin p hp'
    exact ⟨old _ _ e, n4, Nat.ne_of_lt (Nat.lt_of_lt_of_le (Heap.lt_size e) hCle), fun z => (List.mem_cons.mp (I.stkSub _ z)).elim ne nf, d⟩
  · show (srcs.map _).length = N'.length
    rw [List.length_map]
    exact S.len
theorem comp_end {H' : Hp} {σ' : St} {s' : Shared} (I : Inv X pins σ H₂ s₂) (hfp : ∀ b ∈ fp, FpOk X pins H₂ b) (J : Inv (cxComp X N' sc cl C fp pins s₂ H₂) [] σ' H' s') : Inv X pins σ H' s' :=
  I.call' J.os J.base J.hok J.bare fun b hb => ⟨(hfp b hb).2.2.2.1, (hfp b hb).2.1, (hfp b hb).2.2.2.2.1, (hfp b hb).2.2.2.2.2⟩
def PTs (X : Cx) (ifs : List Expr) (t : TT) : Prop :=
  ∀ (pins : List (Addr × Obj)) (s : Shared) (σ : St) (H : Hp) (Q : Bool → Hp → Prop), Inv X pins σ H s → t σ H Q → wpAny (model X.prog X.w) X.A (testsOf ifs X.env) (TP X pins σ Q) X.xe s
def tNoTest : TT := fun _ H Q => Q true H
theorem pts_nil {X : Cx} : PTs X [] tNoTest := fun pins s σ H Q I h => wpAny_tests_nil ⟨H, I, h⟩
theorem pts_one {X : Cx} {c : Expr} {t : TT} (h : PT X c t) : PTs X [c] t := fun pins s σ H Q I q => wpAny_tests_one (h pins s σ H Q I q)
def tComp (srcs : List (Option Nat)) (wi : TI) (g : TG) (tt : TT) (te : TE) : TE := fun σ H Q => wi σ H fun J H1 => ∀ D, H1 D = none → ∃ W : Nat → Nat → St → Hp → Prop, (∃ m, W 0 m (srcSt srcs σ) (upd H1 D (.lst []))) ∧ ∀ i m σ' H', W i m σ' H' →
  (J.stop i H' ∧ Q (.ref D) H') ∨ (J.go i H' ∧ ∃ N : St → Hp → Prop, (∀ σ2 H2, N σ2 H2 → ∃ m', m' < m ∧ W (i + 1) m' σ2 H2) ∧ ∀ x H2, J.yld i H' x H2 → g x σ' H2 fun σ3 H3 => tt σ3 H3 fun b H4 =>
    if b = true then te σ3 H4 fun v H5 => ∃ ys, H5 D = some (.lst ys) ∧ ys.length < sizeLine ∧ N σ3 (upd H5 D (.lst (ys ++ [v]))) else N σ3 H4)
theorem comp_block {elt tg iter : Expr} {ifs : List Expr} {sc : Scope} {srcs : List (Option Nat)} {N' : List Str} {pos : Pos} {wi : TI} {g : TG} {tt : TT} {te : TE} {s : Shared} {H : Hp} {use : Option (Value → Sem Unit)} {Qv : Value → Shared → Prop} {Q : VK}
    (hc : X.calm = true) (S : CompSc sc X.env.scope N' X.N srcs) (hi : PI X tg iter wi)
    (hg : ∀ cl C fp pins s₂ H₂, PG (cxComp X N' sc cl C fp pins s₂ H₂) tg g) (ht : ∀ cl C fp pins s₂ H₂, PTs (cxComp X N' sc cl C fp pins s₂ H₂) ifs tt) (he : ∀ cl C fp pins s₂ H₂, PE (cxComp X N' sc cl C fp pins s₂ H₂) elt te)
    (hs : ∀ x, foldedSetIterable iter X.env x = pure x) (I : Inv X pins σ H s) (h : tComp srcs wi g tt te σ H Q)
    (post : ∀ D C H' s' m, (∀ h', Heap.SameBut C s'.heap h' → Inv X pins σ H' { s' with heap := h' }) → Inv X pins σ H' s' → s'.heap.Ns C m → (∀ x c, X.env.cells.lookup x = some c → c ≠ C) → X.env.locals ≠ C → H' C = none →
      (∀ σ' s'' h', Inv X pins σ' H' s'' → Heap.SameBut C s''.heap h' → Inv X pins σ' H' { s'' with heap := h' }) → Q (.ref D) H' → compPost (model X.prog X.w) X.A X.xe use Qv (.ref D) C (.ok .next) s') :
    wpAny (model X.prog X.w) X.A (comprehension (.ListComp elt [⟨tg, iter, ifs, 0⟩] sc pos) sc X.env (firstIterPos [⟨tg, iter, ifs, 0⟩] pos) (newList []) false (eval iter X.env) use) Qv X.xe s := by
  obtain ⟨cl, hclos, hcl, hcl2⟩ := clos_mk (env := X.env) (sc := sc) fun y hy hf => I.ok.has y.1 (S.frees y hy hf)
  refine wpAny_comprehension_free rfl hs hclos S.kind S.one (thn (hi pins s σ H _ I h) fun xv s₁ h₁ => thn h₁ fun itv s₂ h₂ => ?_)
  obtain ⟨it, fp, tn, J, H₂, e, I₂, T, st₂, f₂, rd⟩ := h₂
  subst e
  refine wpAny_newObj_type (wpAny_newFunctionEnv S.nocell (by intro y hy; simp at hy) (fun h₁ hns hsb => ?_) S.kind)
  dsimp only at hns hsb ⊢
  have hfo : ∀ b ∈ fp, ∃ o, s₂.heap.get? b = some o := fun b hb => let ⟨o, e, _⟩ := T.obj _ _ st₂ b hb; ⟨o, e⟩
  have hCe : (s₂.heap.push { cls := .type "list", dict := none, data := .seq ([] : List Value).toArray }).objs.size = s₂.heap.objs.size + 1 := Heap.size_push ..
  have hk : ∀ b o, (s₂.heap.push { cls := .type "list", data := .seq #[] }).get? b = some o → h₁.get? b = some o := fun b o e => hsb.extBut b o (Nat.ne_of_lt (Heap.lt_size e)) (Heap.get?_push_of_some _ e)
  have IB := comp_begin (tk := s₂.toks + ([] : List (Str × Value)).length) S I₂ hcl hcl2 f₂ hfo rfl hCe hk hns
  generalize (s₂.heap.push { cls := .type "list", dict := none, data := .seq ([] : List Value).toArray }).objs.size = C at hCe hns hsb IB ⊢
  generalize hD : s₂.heap.objs.size = D at IB hCe ⊢
  have hCle : s₂.heap.objs.size ≤ C := by rw [hD, hCe]; exact Nat.le_succ _
  obtain ⟨W, ⟨m0, w0⟩, turn⟩ := rd D (by rw [← hD]; exact I₂.fresh)
  have fpB : ∀ {H' : Hp}, (∀ b ∈ fp, H' b = none) → ∀ b ∈ fp, FpOk (cxComp X N' sc cl C fp pins s₂ H₂) [] H' b := fun hn b hb => by
    obtain ⟨z1, z2⟩ := (cx_ok S I₂ hcl hcl2 hCle f₂ hfo).exf b hb
    exact ⟨hn b hb, z1, (cx_ok S I₂ hcl hcl2 hCle f₂ hfo).exfs b hb, .inl hb, z2, fun p hp => (f₂ b hb).2.2.2.2.2 p (by simpa [cxComp] using hp)⟩
  have fr0 : ∀ b ∈ fp, (upd H₂ D (.lst [])) b = none := fun b hb => by
    obtain ⟨o, ho⟩ := hfo b hb
    rw [upd_ne (by rw [← hD]; exact Nat.ne_of_lt (Heap.lt_size ho))]
    exact (f₂ b hb).1
  have st0 : tn 0 h₁ := T.keep _ _ _ st₂ fun b hb o e => hk b o (Heap.get?_push_of_some _ e)
  have loop : codeAny (model X.prog X.w) X.A (.compLoop (.ListComp elt [⟨tg, iter, ifs, 0⟩] sc pos) 0 (.ref it) (.ref D) (compEnvC sc cl C X.env)) (compPost (model X.prog X.w) X.A X.xe use Qv (.ref D) C) { s₂ with heap := h₁, toks := s₂.toks + ([] : List (Str × Value)).length } := by
    refine comp_turns (fun n s' => ∃ i σ' H', Inv (cxComp X N' sc cl C fp pins s₂ H₂) [] σ' H' s' ∧ tn i s'.heap ∧ (∀ b ∈ fp, H' b = none) ∧ W i n σ' H') ?_ m0 ⟨0, _, _, IB, st0, fr0, w0⟩
    rintro n s3 ⟨i, σ3, H3, I3, st3, fr3, w3⟩
    rcases turn i n σ3 H3 w3 with ⟨stop, qn⟩ | ⟨go, N, hN, step⟩
    · refine thn (T.done (cxComp X N' sc cl C fp pins s₂ H₂) rfl rfl rfl hc i [] s3 σ3 H3 _ I3 (fpB fr3) st3 stop) fun r s4 ⟨hr, I4⟩ => ?_
      subst hr
      have JX := comp_end I₂ f₂ I4
      obtain ⟨m, hn, _⟩ := I4.loc
      have cn : ∀ x c, X.env.cells.lookup x = some c → c ≠ C := fun x c e z => by
        obtain ⟨v, q⟩ := I₂.cell x c e
        exact absurd (Nat.lt_of_lt_of_le q.lt (by rw [z]; exact hCle)) (Nat.lt_irrefl _)
      have gone : ∀ σ' s'' h', Inv X pins σ' H3 s'' → Heap.SameBut C s''.heap h' → Inv X pins σ' H3 { s'' with heap := h' } := fun σ' s'' h' K3 hs3 =>
        K3.turned (t' := s''.toks) (it := C) (fun b o hb e => (hs3.2 b hb).trans e) I4.free (Nat.ne_of_gt (Nat.lt_of_lt_of_le I₂.lt hCle)) (.inr (Nat.le_trans I₂.sz hCle)) cn fun p hp z => by
          exact absurd (Nat.lt_of_lt_of_le (Heap.lt_size (I₂.pin p hp).1) (by rw [z]; exact hCle)) (Nat.lt_irrefl _)
      exact post D C H3 s4 m (fun h' hs' => gone σ s4 h' JX hs') JX hn cn (Nat.ne_of_lt (Nat.lt_of_lt_of_le I₂.lt hCle)) I4.free gone qn
    · refine thn (T.item (cxComp X N' sc cl C fp pins s₂ H₂) rfl rfl rfl hc i [] s3 σ3 H3 _ I3 (fpB fr3) st3 go) fun r s4 ⟨u, hr, h4⟩ => ?_
      subst hr
      refine thn h4 fun _ s5 ⟨x, H5, I5, r5, y5, st5, fr5⟩ => ?_
      have I5' := I5.pinned (fpB fr5) (T.obj _ _ st5)
      refine thn (hg cl C fp pins s₂ H₂ _ s5 σ3 H5 x u _ I5' r5 (step x H5 y5)) fun _ s6 ⟨σ6, H6, I6, q6⟩ => ?_
      refine thn (ht cl C fp pins s₂ H₂ _ s6 σ6 H6 _ I6 q6) fun ok s7 ⟨H7, I7, q7⟩ => ?_
      have again : ∀ {H8 : Hp} {s8 : Shared}, Inv (cxComp X N' sc cl C fp pins s₂ H₂) ([] ++ pinsAt fp s5.heap) σ6 H8 s8 → N σ6 H8 → ∃ m, m < n ∧ ∃ i σ' H', Inv (cxComp X N' sc cl C fp pins s₂ H₂) [] σ' H' s8 ∧ tn i s8.heap ∧ (∀ b ∈ fp, H' b = none) ∧ W i m σ' H' := fun {H8 s8} I8 n8 => by
        obtain ⟨m', hm, w8⟩ := hN σ6 H8 n8
        refine ⟨m', hm, i + 1, σ6, H8, I8.unpinned, T.keep _ _ _ st5 fun b hb o e => (I8.pin (b, o) (List.mem_append_right _ (List.mem_append_right _ (mem_pinsAt hb e)))).1, fun b hb => ?_, w8⟩
        obtain ⟨o, e, d⟩ := T.obj _ _ st5 b hb
        exact (I8.pin (b, o) (List.mem_append_right _ (List.mem_append_right _ (mem_pinsAt hb e)))).2.1
      cases ok with
      | false => exact again I7 q7
      | true =>
        refine thn (he cl C fp pins s₂ H₂ _ s7 σ6 H7 _ I7 q7) fun y s8 ⟨v, H8, I8, r8, q8⟩ => ?_
        obtain ⟨ys, hy, hz, n8⟩ := q8
        refine thn (mt_append _ s8 σ6 H8 (.ref D) [v] (.ref D) [y] (fun _ H9 => N σ6 H9) I8 rfl (.cons r8 .nil) ⟨D, ys, v, rfl, rfl, hy, hz, n8⟩) fun _ s9 ⟨_, H9, I9, _, q9⟩ => ?_
        exact again I9 q9
  exact codeAny_compStart_list loop (T.self _ 0 _ _ _ st0 loop)
theorem pe_comp {elt tg iter : Expr} {ifs : List Expr} {sc : Scope} {srcs : List (Option Nat)} {N' : List Str} {pos : Pos} {wi : TI} {g : TG} {tt : TT} {te : TE} (hc : X.calm = true) (S : CompSc sc X.env.scope N' X.N srcs) (hi : PI X tg iter wi)
    (hg : ∀ cl C fp pins s₂ H₂, PG (cxComp X N' sc cl C fp pins s₂ H₂) tg g) (ht : ∀ cl C fp pins s₂ H₂, PTs (cxComp X N' sc cl C fp pins s₂ H₂) ifs tt) (he : ∀ cl C fp pins s₂ H₂, PE (cxComp X N' sc cl C fp pins s₂ H₂) elt te)
    (hs : ∀ x, foldedSetIterable iter X.env x = pure x := by intro _; rfl) : PE X (.ListComp elt [⟨tg, iter, ifs, 0⟩] sc pos) (tComp srcs wi g tt te) := by
  intro pins s σ H Q I h
  rw [eval_ListComp]
  refine comp_block (use := none) (Q := Q) hc S hi hg ht he hs I h fun D C H' s' m g1 J hn cn ln fr g2 q => ?_
  exact ⟨m, hn, fun h' hs' => ⟨.ref D, H', g1 h' hs', rfl, q⟩⟩
theorem ps_setC {elt tg iter : Expr} {ifs : List Expr} {sc : Scope} {srcs : List (Option Nat)} {N' : List Str} {pos spos pos' : Pos} {wi : TI} {g : TG} {tt : TT} {te : TE} {j : Nat} {y : Str} (hc : X.calm = true) (nd : X.N.Nodup) (hj : X.N[j]? = some y) (hy : Loc X.env.scope y) (S : CompSc sc X.env.scope N' X.N srcs) (hi : PI X tg iter wi)
    (hg : ∀ cl C fp pins s₂ H₂, PG (cxComp X N' sc cl C fp pins s₂ H₂) tg g) (ht : ∀ cl C fp pins s₂ H₂, PTs (cxComp X N' sc cl C fp pins s₂ H₂) ifs tt) (he : ∀ cl C fp pins s₂ H₂, PE (cxComp X N' sc cl C fp pins s₂ H₂) elt te)
    (hsw : swapsWith (.ListComp elt [⟨tg, iter, ifs, 0⟩] sc pos) (some (.Name y pos')) spos.line X.env = pure true) (hs : ∀ x, foldedSetIterable iter X.env x = pure x := by intro _; rfl)
    (hf : X.fn y = true ∨ X.env.scope.names.lookup y = some .local := by first | exact .inl rfl | exact .inr rfl | assumption) :
    PS X (.Assign [.Name y pos'] (.ListComp elt [⟨tg, iter, ifs, 0⟩] sc pos) spos) (tAsg (tComp srcs wi g tt te) (gName j)) := by
  intro pins s σ H D I h
  rw [exec_Assign_Name_used _ _ _ _ hsw]
  refine wpAny_bind (wpAny_standAt (wpAny_bind ?_))
  show wpAny _ X.A (do let _ ← comprehension (.ListComp elt [⟨tg, iter, ifs, 0⟩] sc pos) sc X.env _ (newList []) false (eval iter X.env) (some (assign (.Name y pos') X.env))) _ _ s
  refine wpAny_bind (thn (comp_block (use := some (assign (.Name y pos') X.env)) (Qv := fun _ s' => SP X pins D .next s') hc S hi hg ht he hs I h fun L C H' s' m g1 J hn cn ln fr g2 q => ?_) fun _ s' hq => wpAny_pure (wpAny_pure hq))
  show wpAny _ X.A (assign (.Name y pos') X.env (.ref L)) _ _ _
  refine wpAny_assign_Name (store_ok2 J nd hj hy (v := .ref L) rfl (fun s'' K hsame => ?_) hf)
  obtain ⟨a, hsm, ha⟩ := hsame
  have hac : C ≠ a := by
    rcases ha with z | z
    · rw [z]; exact Ne.symm ln
    · exact Ne.symm (cn y a z)
  exact ⟨m, hn.sameBut hsm hac, fun h' hs' => ⟨_, H', g2 _ s'' h' K hs', q⟩⟩
end
end L2
set_option Elab.async false
set_option linter.all false
set_option maxRecDepth 100000
namespace L2
open PySem PySem.Spec PyProof.Rows
section
variable {X : Cx} {pins : List (Addr × Obj)} {σ : St} {H : Hp} {s : Shared} {h' : Heap}
theorem Inv.turnedT {t' : Nat} {ch : List Addr} {T : Addr} {xs : List V} {us : List Value} (I : Inv X pins σ H s) (hch : ∀ b ∈ ch, FpOk X pins H b) (k : ∀ b o, b ∉ ch → s.heap.get? b = some o → h'.get? b = some o)
    (hT : s.heap.objs.size ≤ T) (tho : ∀ b ∈ ch, ∃ o, s.heap.get? b = some o) (ht : h'.get? T = some { cls := .type "tuple", data := .seq us.toArray }) (hv : Vals xs us) (hz : xs.length ≤ sizeLine) : Inv X pins σ (upd H T (.tup xs)) { s with heap := h', toks := t' } := by
  have hn := I.hok.fresh hT
  have neT : ∀ b o, s.heap.get? b = some o → b ≠ T := fun b o e => Nat.ne_of_lt (Nat.lt_of_lt_of_le (Heap.lt_size e) hT)
  have nch : ∀ b u, H b = some u → b ∉ ch := fun b u e z => by rw [(hch b z).1] at e; cases e
  have up : ∀ b u, H b = some u → upd H T (.tup xs) b = some u := fun b u e => by rw [upd_ne (fun z => by rw [z, hn] at e; cases e)]; exact e
  refine I.step (g' := s.gens) (d' := s.drawn) (ch := ch) (fun b hb => ⟨(hch b hb).2.2.2.1, (hch b hb).2.1, (hch b hb).2.2.2.2.1, (hch b hb).2.2.2.2.2⟩) (fun b o _ _ hc e _ => k b o hc e) (fun b o _ _ hc e _ => ⟨o.slots, k b o hc e⟩)
    (fun b o _ e n => by rw [upd_ne (neT b o e)]; exact n) (fun b o hc e => ⟨o, k b o hc e⟩) (fun b ys e => up b _ e) (fun b o u e => up b _ e) (fun b ps e => ⟨#[], by rw [up b _ e]; simp⟩) (fun m hm => ?_) (fun b u e => ?_) I.bare
  · obtain ⟨o, es, ep, ho, r⟩ := hm
    exact ⟨o, es, ep, k _ o (fun z => (hch _ z).2.1 rfl) ho, r⟩
  · by_cases hb : b = T
    · subst hb
      rw [upd_same] at e; cases e
      exact ⟨hz, us, hv, _, ht, rfl, _, rfl⟩
    · rw [upd_ne hb] at e
      refine (I.hok b u e).stay (fun c v hc q => k c v ?_ q) (fun c q => up c _ q) fun c ys q => up c _ q
      rcases hc with z | z
      · rw [z]; exact nch b u e
      · exact nch c _ z
def Ite (K : PySem.W.Frag) (a : Addr) : It :=
  ⟨fun i H => ∃ xs x, SqL K H a xs ∧ xs[i]? = some x, fun i H x H' => ∃ t y, x = .ref t ∧ H t = none ∧ H' = upd H t (.tup [.int i, y]) ∧ ∀ xs, SqL K H a xs → xs[i]? = some y, fun i H => ∃ xs, SqL K H a xs ∧ xs.length ≤ i⟩
theorem turn_enum {P : Program} {w : World} {K : PySem.W.Frag} {elts : List Expr} {kk : Nat} {pos : Pos} (a e it : Addr) (hei : e ≠ it) : Turn P w K (.Tuple elts kk pos) (Ite K a) [e, it] e (fun i h => (∃ old, IsEnum h e it i old) ∧ h.IsListIter it a i) where
  mem := by simp
  obj := fun i h st b hb => by
    obtain ⟨⟨old, he⟩, ⟨o, ho, c, d⟩⟩ := st
    rcases List.mem_cons.mp hb with z | z
    · subst z; exact ⟨_, he, fun v z => by cases z⟩
    · have z : b = it := by simpa using z
      subst z; exact ⟨o, ho, fun v z => by rw [d] at z; cases z⟩
  keep := fun i h h' st k => by
    obtain ⟨⟨old, he⟩, hi⟩ := st
    exact ⟨⟨old, k e (by simp) _ he⟩, hi.at fun o q => k it (by simp) o q⟩
  item := by
    intro X hP hw hK hc i pins s σ H E I hf st hg
    subst hP hw hK
    obtain ⟨xs, x, hq, hx⟩ := hg
    obtain ⟨its, rv, p, hz⟩ := I.list hq
    obtain ⟨u, hu, ru⟩ := rv.get hx
    obtain ⟨⟨old, he⟩, hit⟩ := st
    refine wpAny_pyNext_enum_item he hit p.isList (x := u) (by simpa using hu) hei fun h' ho hit' hT hsz hk => ⟨_, rfl, ?_⟩
    have I1 : Inv X pins σ (upd H s.heap.objs.size (.tup [.int i, x])) { s with heap := h', toks := s.toks + 1 } :=
      I.turnedT (ch := [e, it]) (us := [.int i s.toks, u]) hf (fun b o hb q => hk b o (fun z => hb (by simp [z])) (fun z => hb (by simp [z])) q) (Nat.le_refl _)
        (fun b hb => by
          rcases List.mem_cons.mp hb with z | z
          · subst z; exact ⟨_, he⟩
          · have z : b = it := by simpa using z
            subst z; obtain ⟨o, q, _⟩ := hit; exact ⟨o, q⟩) hT (.cons ⟨_, rfl⟩ (.cons ru .nil)) (by show 2 ≤ sizeLine; decide)
    have fr : ∀ b ∈ [e, it], (upd H s.heap.objs.size (.tup [.int i, x])) b = none := fun b hb => by
      have hlt : b < s.heap.objs.size := by
        rcases List.mem_cons.mp hb with z | z
        · subst z; exact Heap.lt_size he
        · have z : b = it := by simpa using z
          subst z; obtain ⟨o, q, _⟩ := hit; exact Heap.lt_size q
      rw [upd_ne (Nat.ne_of_lt hlt)]; exact (hf b hb).1
    refine wpAny_letOwnedTupleGo_enum ho fun h2 he2 hs2 => ?_
    obtain ⟨f0, f1, f2, f3, f4, f5⟩ := hf e (by simp)
    have I2 : Inv X pins σ (upd H s.heap.objs.size (.tup [.int i, x])) { s with heap := h2, toks := s.toks + 1 } := I1.turned (t' := s.toks + 1) (fun b o hb q => (hs2.2 b hb).trans q) (fr e (by simp)) f1 f3 f4 f5
    refine ⟨.ref s.heap.objs.size, _, I2, rfl, ⟨_, x, rfl, I.fresh, rfl, fun ys hy => by rw [I.list_inj hy hq]; exact hx⟩, ⟨⟨u, he2⟩, ?_⟩, fr⟩
    exact hit'.at fun o q => (hs2.2 it hei.symm).trans q
  done := by
    intro X hP hw hK hc i pins s σ H E I hf st hg
    subst hP hw hK
    obtain ⟨xs, hq, hx⟩ := hg
    obtain ⟨its, rv, p, hz⟩ := I.list hq
    obtain ⟨⟨old, he⟩, hit⟩ := st
    obtain ⟨f0, f1, f2, f3, f4, f5⟩ := hf it (by simp)
    have hl := rv.length
    exact wpAny_pyNext_enum_end (I.ok.hd hc) he hit p.isList (by simp; omega) fun h' eb => ⟨rfl, I.turned (t' := s.toks) (fun b o hb q => eb b o hb q) f0 f1 f3 f4 f5⟩
  self := fun _ _ _ _ _ st h => by
    obtain ⟨⟨old, he⟩, _⟩ := st
    exact wpAny_pyIter_enum he h
theorem bt_enumerate : bootBuiltins "enumerate" = some (.type "enumerate") := by decide +kernel
def iEnu (K : PySem.W.Frag) (ta : TA) : TI := fun σ H R => ta σ H fun vs H1 => ∃ a xs, vs = [.ref a] ∧ SqL K H1 a xs ∧ R (Ite K a) H1
theorem pi_enum {x : Expr} {ta : TA} {p pos tp : Pos} {elts : List Expr} {kk : Nat} (g : Gm X.env.scope "enumerate") (hm : X.mg "enumerate" = none) (ha : PA X [x] ta) (hs : starEach [x] X.env = [(false, eval x X.env)] := by rfl) :
    PI X (.Tuple elts kk tp) (.Call (.Name "enumerate" p) [x] [] pos) (iEnu X.K ta) := by
  intro pins s σ H R I h
  refine Call_ (ld_blt I g.gl hm bt_enumerate (PyProof.Rows.callWith_type1 (thn (ha pos pins s σ H _ I h) fun us s1 ⟨vs, H1, I1, r1, q1⟩ => ?_) hs rfl))
  obtain ⟨a, xs, e, hq, q⟩ := q1
  subst e
  cases r1 with
  | cons r rr =>
    cases rr
    cases r
    obtain ⟨its, rv, pl, hz⟩ := I1.list hq
    refine call_enumerate_list pl.isList fun h' he hit hsz hk => ?_
    refine wpAny_pyIter_enum he ?_
    have fresh2 : H1 (s1.heap.objs.size + 1) = none := I1.hok.fresh (Nat.le_succ _)
    refine ⟨s1.heap.objs.size + 1, [s1.heap.objs.size + 1, s1.heap.objs.size], _, _, H1, rfl, I1.kept (t' := s1.toks) hk, turn_enum a _ _ (Nat.succ_ne_self _), ⟨⟨_, he⟩, hit⟩, fun b hb => ?_, q⟩
    rcases List.mem_cons.mp hb with z | z
    · subst z; exact I1.fpOk (Nat.le_succ _) fresh2
    · have z : b = s1.heap.objs.size := by simpa using z
      subst z; exact I1.fpOk (Nat.le_refl _) I1.fresh
end
end L2
set_option Elab.async false
set_option linter.all false
set_option maxRecDepth 100000
namespace L2
open PySem PySem.Spec PyProof.Rows
def rangeL (lo hi : Int) : List Int := (List.range (hi - lo).toNat).map fun (k : Nat) => lo + (k : Int)
theorem rangeL_length (lo hi : Int) : (rangeL lo hi).length = (hi - lo).toNat := by unfold rangeL; rw [List.length_map, List.length_range]
section
variable {X : Cx}
def Sm (i : Int) : Prop := -(2 ^ 62) ≤ i ∧ i < 2 ^ 62
theorem rng_laid {pins : List (Addr × Obj)} {σ : St} {H : Hp} {s : Shared} {lo hi : Int} {t u v : Tok} {tk : Nat} (I : Inv X pins σ H s) :
    Inv X pins σ (upd H s.heap.objs.size (.rng lo hi)) { s with heap := s.heap.push { cls := .type "range", data := .fields #[.int lo t, .int hi u, .int 1 v] }, toks := tk } :=
  I.laid (fun _ _ q => Heap.get?_push_of_some _ q) (Nat.le_refl _) (show ObjOk X.prog X.w _ _ _ (.rng lo hi) from ⟨t, u, v, Heap.get?_push_size _ rfl⟩)
theorem call_rangeV : CallR X (.type "range") (fun xs H Q => (∃ j : Int, xs = [.int j] ∧ Sm j ∧ ∀ p, H p = none → Q (.ref p) (upd H p (.rng 0 j))) ∨ ∃ i j : Int, xs = [.int i, .int j] ∧ Sm i ∧ Sm j ∧ ∀ p, H p = none → Q (.ref p) (upd H p (.rng i j))) := by
  intro pins s σ H xs us Q I r h
  rcases h with ⟨j, rfl, hj, q⟩ | ⟨i, j, rfl, hi, hj, q⟩
  · obtain ⟨u, rfl, t, rfl⟩ := vals1 r
    exact call_range_1 ⟨.ref s.heap.objs.size, _, rng_laid I, rfl, q _ I.fresh⟩
  · obtain ⟨u, w', rfl, ⟨t, rfl⟩, ⟨t', rfl⟩⟩ := vals2 r
    exact call_range_2 ⟨.ref s.heap.objs.size, _, rng_laid I, rfl, q _ I.fresh⟩
theorem items_vals {lo hi : Int} {acc : Array Value} (h : ItemsOf (fun (i : Nat) (v : Value) => ∃ t, v = .int (lo + (i : Int) * 1) t) acc (hi - lo).toNat) : Vals ((rangeL lo hi).map V.int) acc.toList := by
  obtain ⟨hs, hi'⟩ := h
  have key : ∀ (us : List Value) (n k : Nat), us.length = n → (∀ j v, us[j]? = some v → ∃ t, v = Value.int (lo + ((k + j : Nat) : Int)) t) → Vals (((List.range' k n).map fun (k : Nat) => lo + (k : Int)).map V.int) us := by
    intro us
    induction us with
    | nil => intro n k h1 _; subst h1; exact .nil
    | cons u us ih =>
      intro n k h1 h2
      obtain ⟨n', rfl⟩ : ∃ n', n = n' + 1 := ⟨us.length, by rw [← h1]; rfl⟩
      rw [List.range'_succ, List.map_cons, List.map_cons]
      obtain ⟨t, e⟩ := h2 0 u rfl
      refine .cons ⟨t, by simpa using e⟩ (ih n' (k + 1) (by simpa using h1) fun j v hj => ?_)
      obtain ⟨t, e⟩ := h2 (j + 1) v (by simpa using hj)
      exact ⟨t, by rw [e]; congr 1; omega⟩
  unfold rangeL
  rw [List.range_eq_range']
  refine key acc.toList _ 0 (by rw [Array.length_toList]; exact hs) fun j v hj => ?_
  obtain ⟨t, e⟩ := hi' j v (by simpa using hj)
  exact ⟨t, by rw [e]; simp⟩
theorem call_list_rng (hc : X.calm = true) : CallR X (.type "list") (fun xs H Q => ∃ p lo hi, xs = [.ref p] ∧ H p = some (.rng lo hi) ∧ Sm lo ∧ Sm hi ∧ (hi - lo).toNat ≤ sizeLine ∧ ∀ l, H l = none → Q (.ref l) (upd H l (.lst ((rangeL lo hi).map V.int)))) := by
  intro pins s σ H xs us Q I r h
  obtain ⟨p, lo, hi, rfl, hp, ⟨l1, l2⟩, ⟨l3, l4⟩, hz, q⟩ := h
  obtain ⟨u, rfl, rx⟩ := vals1 r
  cases rx
  obtain ⟨t, u, v, e⟩ := I.hok p _ hp
  have hz' : (hi - lo).toNat ≤ 2 ^ 24 := hz
  refine call_list_range (n := (hi - lo).toNat) (I.ok.hd hc) e (small_one l1 l2 l3 l4) (by rw [rangeSize_one]; split <;> omega) hz' fun h' tk acc c hk hl ha => ?_
  refine ⟨.ref s.heap.objs.size, _, I.laid (t' := tk) hk (Nat.le_refl _) (show ObjOk X.prog X.w _ h' _ (.lst ((rangeL lo hi).map V.int)) from ⟨?_, acc.toList, c, items_vals ha, by simpa using hl⟩), rfl, q _ I.fresh⟩
  rw [List.length_map, rangeL_length]
  exact hz
theorem call_listG (hc : X.calm = true) : CallR X (.type "list") (fun xs H Q => (∃ p ys, xs = [.ref p] ∧ (SqL X.K H p ys ∨ SqT X.K H p ys) ∧ ∀ l, H l = none → Q (.ref l) (upd H l (.lst ys))) ∨
    ∃ p lo hi, xs = [.ref p] ∧ H p = some (.rng lo hi) ∧ Sm lo ∧ Sm hi ∧ (hi - lo).toNat ≤ sizeLine ∧ ∀ l, H l = none → Q (.ref l) (upd H l (.lst ((rangeL lo hi).map V.int)))) := call_list_of.or (call_list_rng hc)
theorem bt_range : bootBuiltins "range" = some (.type "range") := by decide +kernel
end
end L2
set_option Elab.async false
set_option linter.all false
set_option maxRecDepth 100000
namespace L2
open PySem PySem.Spec PyProof.Rows
def MthIn (P : Program) (w : World) (K : PySem.W.Frag) (mg : Str → Option Value) (base : Heap) (CX : CXT) (k : Nat) (C : Addr) (m : Str) (ps : List Str) (sp : Sp) : Prop :=
  ∃ f fd, Meth K C m f ∧ Binds K fd ps [] ∧ FnOk P w K mg base CX k f fd ps sp
def MkIn (P : Program) (w : World) (K : PySem.W.Frag) (mg : Str → Option Value) (base : Heap) (CX : CXT) (k : Nat) (C : Addr) (x : Str) (ps : List Str) (sp : Sp) : Prop :=
  ∃ f fd, mg x = some (.ref C) ∧ Mk K C f ∧ Binds K fd ps [] ∧ FnOk P w K mg base CX k f fd ps sp
section
variable {X : Cx} {CX : CXT} {k : Nat} {C : Addr} {ps : List Str} {sp : Sp} {E : XK} {x m : Str} {p pos apos : Pos} {e o : Expr} {es : List Expr} {ta : TE} {t : TA} {W : St → XK}
theorem pe_md {pl : Sem Bool} (D : MthIn X.prog X.w X.K X.mg X.base CX k C m ps sp) (c : Cls X.K C) (he : PE X o ta) (hr : Room k X.A) (hx : Passes CX X E) (ha : PA X (e :: es) t)
    (hst : starEach (e :: es) X.env = (false, eval e X.env) :: starEach es X.env := by rfl) (hpl : (backTo pos (starEach es X.env)).any (·.1) = false := by rfl)
    (ht : eval (.Call (.Attribute o m apos) (e :: es) [] pos) X.env = (eval o X.env >>= fun ov => standAt apos.atName >>= fun _ => holding [ov] (getMethod ov m pl) >>= fun ff => callWith pos ff.1 ff.2 (backTo pos (starEach (e :: es) X.env)) (backToKw pos (keywordEach [] X.env))) := by rfl) :
    PE X (.Call (.Attribute o m apos) (e :: es) [] pos) (tMeth C m sp [] E ta t) := by
  obtain ⟨f, fd, hm, hb, F⟩ := D
  exact pe_meth (pl := pl) he c hm F hr hb .nil hx ha hst hpl ht
theorem pe_md0 {pl : Sem Bool} (D : MthIn X.prog X.w X.K X.mg X.base CX k C m ps sp) (c : Cls X.K C) (he : PE X o ta) (hr : Room k X.A) (hx : Passes CX X E)
    (ht : eval (.Call (.Attribute o m apos) [] [] pos) X.env = (eval o X.env >>= fun ov => standAt apos.atName >>= fun _ => holding [ov] (getMethod ov m pl) >>= fun ff => callWith pos ff.1 ff.2 (backTo pos (starEach [] X.env)) (backToKw pos (keywordEach [] X.env))) := by rfl) :
    PE X (.Call (.Attribute o m apos) [] [] pos) (tMeth C m sp [] E ta tNil) := by
  obtain ⟨f, fd, hm, hb, F⟩ := D
  exact pe_meth0 (pl := pl) he c hm F hr hb .nil hx ht
theorem pe_mk (D : MkIn X.prog X.w X.K X.mg X.base CX k C x ps sp) (g : Gm X.env.scope x) (hr : Room (k + 1) X.A) (hx : Passes CX X E) (ha : PA X (e :: es) t)
    (he : starEach (e :: es) X.env = (false, eval e X.env) :: starEach es X.env := by rfl) (hpl : (backTo pos (starEach es X.env)).any (·.1) = false := by rfl) :
    PE X (.Call (.Name x p) (e :: es) [] pos) (tMake C sp [] E t) := by
  obtain ⟨f, fd, hm, M, hb, F⟩ := D
  exact pe_make M F hr g.gl hm hb .nil hx ha g.db he hpl
end
structure NmC (sc : Scope) (x : Str) : Prop where
  loc : sc.names.lookup x = some .cell
  db : (x == ("__debug__" : Str)) = false
  cd : (x == ("__classdict__" : Str)) = false
structure NmF (sc : Scope) (x : Str) : Prop where
  loc : sc.names.lookup x = some .cell ∨ sc.names.lookup x = some .free
  db : (x == ("__debug__" : Str)) = false
  cd : (x == ("__classdict__" : Str)) = false
section
variable {X : Cx} {x : Str} {pos p : Pos}
theorem pvC (i : Nat) (n : NmC X.env.scope x) (hN : X.N[i]? = some x := by rfl) : PE X (.Name x pos) (tVar i) := pe_var hN (Or.inr (Or.inl n.loc)) n.db n.cd
theorem pvF (i : Nat) (n : NmF X.env.scope x) (hN : X.N[i]? = some x := by rfl) : PE X (.Name x pos) (tVar i) := pe_var hN (Or.inr n.loc) n.db n.cd
theorem pg_nmC (i : Nat) (nd : X.N.Nodup) (n : NmC X.env.scope x) (hf : X.fn x = true := by rfl) (hN : X.N[i]? = some x := by rfl) : PG X (.Name x pos) (gName i) := pg_name nd hN (Or.inr n.loc) (Or.inl hf)
theorem ps_nmC (i : Nat) {e : Expr} {te : TE} {pos' : Pos} (nd : X.N.Nodup) (n : NmC X.env.scope x) (he : PE X e te) (hf : X.fn x = true := by rfl) (hN : X.N[i]? = some x := by rfl) (hs : swapsWith e (some (.Name x pos')) pos.line X.env = pure false := by rfl) :
    PS X (.Assign [.Name x pos'] e pos) (tAsg te (gName i)) := ps_set nd hN (Or.inr n.loc) he hs (Or.inl hf)
theorem Nm.comp {sc : Scope} {env : Env} (n : Nm sc x) : Nm (relabel sc env) x := ⟨relab_other n.loc rfl, n.db, n.cd⟩
theorem Gm.comp {sc : Scope} {env : Env} (n : Gm sc x) : Gm (relabel sc env) x := ⟨relab_other n.gl rfl, n.db, n.nn⟩
structure NmR (sc : Scope) (x : Str) : Prop where
  loc : sc.names.lookup x = some .free
  db : (x == ("__debug__" : Str)) = false
  cd : (x == ("__classdict__" : Str)) = false
theorem NmR.comp {sc : Scope} {env : Env} (n : NmR sc x) : NmF (relabel sc env) x := ⟨relab_free n.loc, n.db, n.cd⟩
end
end L2
set_option Elab.async false
set_option linter.all false
set_option maxRecDepth 100000
namespace L2
open PySem PySem.Spec PyProof.Rows
section
variable {X : Cx}
theorem get_list : PGet X (fun o i H Q => ∃ p xs k v, o = .ref p ∧ i = .int k ∧ 0 ≤ k ∧ SqL X.K H p xs ∧ atI xs k = some v ∧ Q v H) := by
  intro pins s σ H o i ov iv Q I ro ri h
  obtain ⟨p, xs, k, z, rfl, rfl, h0, hq, he, q⟩ := h
  cases ro
  obtain ⟨t, rfl⟩ := ri
  obtain ⟨its, r, pl, hz⟩ := I.list hq
  obtain ⟨j, h1, h2, h3, h4, h5⟩ := atI_get he
  obtain ⟨w, ew, rw'⟩ := r.get h2
  have hn := line63
  have hj : k.toNat = j := by
    rw [seqIndex_of h0 h5] at h1
    exact Option.some.inj h1
  exact wpAny_getItem_list pl.isList h0 (by omega) (by rw [hj]; simpa using ew) ⟨z, H, I, rw', q⟩
theorem CompSc.mk' {sc osc : Scope} {N' N : List Str} {srcs : List (Option Nat)} (h1 : sc.kind = .function) (h2 : ∀ y ∈ sc.names, y.2 ≠ .cell) (h3 : ∀ y ∈ sc.names, y.2 = .local → sc.names.lookup y.1 = some .local)
    (h4 : ∀ y ∈ sc.names, y.2 = .free → osc.names.lookup y.1 = some .cell ∨ osc.names.lookup y.1 = some .free) (h5 : N'.Nodup) (h6 : srcs.length = N'.length)
    (h7 : ∀ p ∈ srcs.zip N', ∀ j ∈ p.1, N[j]? = some p.2 ∧ sc.names.lookup p.2 = some .free ∧ (osc.names.lookup p.2 = some .cell ∨ osc.names.lookup p.2 = some .free)) : CompSc sc osc N' N srcs :=
  ⟨h1, h2, h3, h4, h5, h6, fun i j e => by
    have hi : i < srcs.length := (List.getElem?_eq_some_iff.mp e).1
    obtain ⟨x, hx⟩ : ∃ x, N'[i]? = some x := ⟨N'[i]'(by omega), List.getElem?_eq_getElem (by omega)⟩
    have hz : (srcs.zip N')[i]? = some (some j, x) := by rw [List.getElem?_zip_eq_some]; exact ⟨e, hx⟩
    obtain ⟨a, b, c⟩ := h7 _ (List.mem_of_getElem? hz) j rfl
    exact ⟨x, hx, a, b, c⟩⟩
theorem small_str : ∀ n : Nat, n < 1001 → (Str.ofString (toString (n : Int))).length ≤ 10 := by decide +kernel
theorem pe_fG {e : Expr} {te : TE} {pos : Pos} (he : PE X e te) : PE X (.FormattedValue e (-1) none pos) (fun σ H Q => te σ H fun x H1 => (∃ i : Int, x = .int i ∧ 0 ≤ i ∧ i ≤ 1000 ∧ ∀ z : Str, z.length ≤ 10 → Q (.str z) H1) ∨ ∃ z, x = .str z ∧ z.length ≤ sizeLine ∧ Q (.str z) H1) := by
  intro pins s σ H Q I h
  refine wpAny_FormattedValue_plain (thn (he pins s σ H _ I h) fun v s1 ⟨x, H1, I1, r1, q1⟩ => ?_)
  rcases q1 with ⟨i, rfl, h0, h1, q⟩ | ⟨z, rfl, hz, q⟩
  · obtain ⟨t, rfl⟩ := r1
    obtain ⟨n, rfl⟩ := Int.eq_ofNat_of_zero_le h0
    have hn : n < 1001 := by omega
    refine wpAny_formatField_int ?_ ⟨.str _, H1, I1.tok _, ⟨_, rfl⟩, q _ (small_str n hn)⟩
    have : (n : Int).natAbs = n := rfl
    rw [this]
    exact Nat.lt_of_le_of_lt (Nat.log2_le_self n) (by omega)
  · obtain ⟨t, rfl⟩ := r1
    exact wpAny_formatField_str ⟨.str _, H1, I1, ⟨_, rfl⟩, q⟩ ⟨.str _, H1, I1.tok _, ⟨_, rfl⟩, q⟩ hz
end
end L2
set_option Elab.async false
set_option linter.all false
set_option maxRecDepth 100000
set_option maxHeartbeats 4000000
namespace Lw
open PySem L2
local macro_rules | `(tactic| walk_at "st") => `(tactic| repeat (first
  | refine ⟨_, rfl, ?_⟩
  | refine ⟨_, _, rfl, rfl, ?_⟩
  | refine Or.inl ⟨_, _, rfl, rfl, ?_⟩
  | refine Or.inl ⟨rfl, ?_⟩
  | (refine And.intro (show CMul _ _ from ?_) ?_; (first | exact Or.inr ⟨by omega, by omega⟩ | exact Or.inl ⟨by omega, by omega⟩))
  | (refine And.intro (show CDiv _ _ from ?_) ?_; exact ⟨by omega, by omega⟩)
  | (refine And.intro (show (0 : Int) < _ from ?_) ?_; first | decide | omega)))
def top (i : Nat) : Stmt := PySem.Challenge.pw_stephall_k06_whole_seekers_go_round.main.body.getD i (.Pass ⟨0, 0, 0, 0⟩)
structure Adr where
  (HallError NoSwitch Seekers Switches : Addr)
def Adr.racks (a : Adr) : List Addr := [a.Seekers]
structure Txt (K : PySem.W.Frag) (mg : Str → Option Value) (a : Adr) : Prop where
  n_len : mg "len" = none
  n_isinstance : mg "isinstance" = none
  n_bool : mg "bool" = none
  n_int : mg "int" = none
  n_range : mg "range" = none
def cellF (ns : List Int) (k : Int) : Int :=
  if k < ns.length then ns.getD k.toNat 0 else if ns.length = 0 then 7919 * k + 101 else ns.getD (k % ns.length).toNat 0 % 1000003 + 7919 * k
def spCell (K : PySem.W.Frag) : Sp := fun vs H Q _ => ∃ (p : Addr) (ns : List Int) (k : Int), vs = [.ref p, .int k] ∧ SqL K H p (ns.map V.int) ∧ 0 ≤ k ∧ k < 1000 ∧ ns.length ≤ 63 ∧ Q (.int (cellF ns k)) H
section
variable {P : Program} {w : World} {K : PySem.W.Frag} {mg : Str → Option Value} {base : Heap} {a : Adr}
theorem sc_law_cell : FnScope ["script", "k"] ["script", "k"] (defScope (top 11)) := ⟨rfl, rfl, rfl, by decide +kernel, rfl, by decide +kernel, by decide +kernel⟩
theorem nm_law_cell_script : Nm (defScope (top 11)) "script" := ⟨by decide +kernel, by decide +kernel, by decide +kernel⟩
theorem nm_law_cell_k : Nm (defScope (top 11)) "k" := ⟨by decide +kernel, by decide +kernel, by decide +kernel⟩
theorem gm_law_cell_len : Gm (defScope (top 11)) "len" := ⟨by decide +kernel, by decide +kernel, by decide +kernel⟩
theorem ok_cell {f : Addr} {fd : FuncData} (F : Fun K "_law_cell" "_law_cell" (top 11) f fd) (T : Txt K mg a) : FnOk P w K mg base CX0 1 f fd ["script", "k"] (spCell K) := by
  refine F.ok sc_law_cell (fun vs H Q E h => ?_) (fun cdv A outer s H vs Q E hr h => ?_)
  · obtain ⟨p, ns, k, rfl, _⟩ := h
    rfl
  · obtain ⟨p, ns, k, rfl, hS, h0, hk, hl, q⟩ := h
    have hu := hr.units
    have nd := sc_law_cell.nd
    refine ⟨_, (@pss_cons _ _ _ _ _ (ps_if (pt_cmpR op_lt (pvN 1 nm_law_cell_k) (pe_cb call_lenG gm_law_cell_len T.n_len bt_len (pa_cons (pvN 0 nm_law_cell_script) pa_nil)) (nomark _)) (pss_one (ps_ret (pe_ix ix_seq (pvN 0 nm_law_cell_script) (pvN 1 nm_law_cell_k) (fun _ _ => rfl)))) pss_nil)
        (pss_cons (ps_if (pt_cmpR (op_eqG hu) (pe_cb call_lenG gm_law_cell_len T.n_len bt_len (pa_cons (pvN 0 nm_law_cell_script) pa_nil)) pe_int (nomark _)) (pss_one (ps_ret (pe_op op_addG (pe_op op_mulG pe_int (pvN 1 nm_law_cell_k)) pe_int))) pss_nil)
        (pss_one (ps_ret (pe_op op_addG (pe_op op_mod (pe_ix ix_seq (pvN 0 nm_law_cell_script) (pe_op op_mod (pvN 1 nm_law_cell_k) (pe_cb call_lenG gm_law_cell_len T.n_len bt_len (pa_cons (pvN 0 nm_law_cell_script) pa_nil))) (fun _ _ => rfl)) pe_int) (pe_op op_mulG pe_int (pvN 1 nm_law_cell_k))))))), ?_⟩
    walk_at "st"
    refine Or.inr ⟨_, _, rfl, .inl hS, ?_⟩
    walk_at "st"
    rw [List.length_map]
    refine ite2 (fun h => ?_) (fun h => ?_)
    · have h := of_decide_eq_true h
      walk_at "st"
      refine Or.inl ⟨p, _, k, _, rfl, rfl, hS, atI_int h0 h, ?_⟩
      have e : cellF ns k = ns.getD k.toNat 0 := by unfold cellF; rw [if_pos h]
      rw [e] at q
      exact q
    · have h : ¬ k < ns.length := by simpa using h
      walk_at "st"
      refine Or.inr ⟨_, _, rfl, .inl hS, ?_⟩
      walk_at "st"
      rw [List.length_map]
      refine ite2 (fun h2 => ?_) (fun h2 => ?_)
      · have h2 : ns.length = 0 := by simpa using h2
        walk_at "st"
        have e : cellF ns k = 7919 * k + 101 := by unfold cellF; rw [if_neg h, if_pos h2]
        rw [e] at q
        exact q
      · have h2 : ¬ ns.length = 0 := by simpa using h2
        walk_at "st"
        refine Or.inr ⟨_, _, rfl, .inl hS, ?_⟩
        rw [List.length_map]
        have hp : 0 < (ns.length : Int) := by omega
        walk_at "st"
        have m0 : 0 ≤ k % (ns.length : Int) := Int.emod_nonneg _ (by omega)
        have m1 : k % (ns.length : Int) < ns.length := Int.emod_lt_of_pos _ (by omega)
        refine Or.inl ⟨p, _, _, _, rfl, rfl, hS, atI_int m0 m1, ?_⟩
        walk_at "st"
        have e : cellF ns k = ns.getD (k % ns.length).toNat 0 % 1000003 + 7919 * k := by unfold cellF; rw [if_neg h, if_neg h2]
        rw [e] at q
        exact q
def spDraws (K : PySem.W.Frag) : Sp := fun vs H Q _ => ∃ (p : Addr) (ns : List Int) (k many base : Int), vs = [.ref p, .int k, .int many, .int base] ∧ SqL K H p (ns.map V.int) ∧ 0 ≤ k ∧ k < 1000 ∧ ns.length ≤ 63 ∧ 0 ≤ many ∧ many ≤ 100 ∧ 0 < base ∧ base < 1000000 ∧
  ∀ (r : Addr) (row : List Int) (H' : Hp), Same H H' → H r = none → H' r = some (.lst (row.map V.int)) → row.length = many.toNat → (∀ v ∈ row, 0 ≤ v ∧ v < base) → Q (.ref r) H'
theorem lst_snoc {H : Hp} {r : Addr} {row : List Int} {v : Int} : upd H r (.lst (row.map V.int ++ [.int v])) r = some (.lst ((row ++ [v]).map V.int)) := by
  rw [upd_same, List.map_append]
  rfl
theorem snoc_in {row : List Int} {v b : Int} (h : ∀ u ∈ row, 0 ≤ u ∧ u < b) (hv : 0 ≤ v ∧ v < b) : ∀ u ∈ row ++ [v], 0 ≤ u ∧ u < b := by
  intro u hu
  rcases List.mem_append.mp hu with z | z
  · exact h u z
  · rw [List.mem_singleton.mp z]; exact hv
def primesL : List Int := [2147483647, 2147483629, 2147483587, 2147483579, 2147483563, 2147483549, 2147483543, 2147483497]
theorem prime_at {i : Int} (h0 : 0 ≤ i) (h1 : i < 8) : ∃ p : Int, atI (primesL.map V.int) i = some (.int p) ∧ 0 < p ∧ p < 2147483648 := by
  refine ⟨_, atI_int h0 h1, ?_⟩
  have key : ∀ m : Nat, m < 8 → 0 < primesL.getD m 0 ∧ primesL.getD m 0 < 2147483648 := by decide
  exact key _ (by omega)
theorem sc_law_draws : FnScope ["script", "k", "many", "base", "primes", "cell", "rest", "row", "j", "mash"] ["script", "k", "many", "base"] (defScope (top 12)) := ⟨rfl, rfl, rfl, by decide +kernel, rfl, by decide +kernel, by decide +kernel⟩
theorem nm_law_draws_script : Nm (defScope (top 12)) "script" := ⟨by decide +kernel, by decide +kernel, by decide +kernel⟩
theorem nm_law_draws_k : Nm (defScope (top 12)) "k" := ⟨by decide +kernel, by decide +kernel, by decide +kernel⟩
theorem nm_law_draws_many : Nm (defScope (top 12)) "many" := ⟨by decide +kernel, by decide +kernel, by decide +kernel⟩
theorem nm_law_draws_base : Nm (defScope (top 12)) "base" := ⟨by decide +kernel, by decide +kernel, by decide +kernel⟩
theorem nm_law_draws_primes : Nm (defScope (top 12)) "primes" := ⟨by decide +kernel, by decide +kernel, by decide +kernel⟩
theorem nm_law_draws_cell : Nm (defScope (top 12)) "cell" := ⟨by decide +kernel, by decide +kernel, by decide +kernel⟩
theorem nm_law_draws_rest : Nm (defScope (top 12)) "rest" := ⟨by decide +kernel, by decide +kernel, by decide +kernel⟩
theorem nm_law_draws_row : Nm (defScope (top 12)) "row" := ⟨by decide +kernel, by decide +kernel, by decide +kernel⟩
theorem nm_law_draws_j : Nm (defScope (top 12)) "j" := ⟨by decide +kernel, by decide +kernel, by decide +kernel⟩
theorem nm_law_draws_mash : Nm (defScope (top 12)) "mash" := ⟨by decide +kernel, by decide +kernel, by decide +kernel⟩
theorem gm_law_draws_range : Gm (defScope (top 12)) "range" := ⟨by decide +kernel, by decide +kernel, by decide +kernel⟩
theorem gm_law_draws__law_cell : Gm (defScope (top 12)) "_law_cell" := ⟨by decide +kernel, by decide +kernel, by decide +kernel⟩
theorem ok_draws {f : Addr} {fd : FuncData} (F : Fun K "_law_draws" "_law_draws" (top 12) f fd) (T : Txt K mg a) (D_law_cell : FnIn P w K mg base CX0 1 "_law_cell" ["script", "k"] (spCell K)) :
    FnOk P w K mg base CX0 2 f fd ["script", "k", "many", "base"] (spDraws K) := by
  refine F.ok sc_law_draws (fun vs H Q E h => ?_) (fun cdv A outer s H vs Q E hr h => ?_)
  · obtain ⟨p, ns, k, many, bs, rfl, _⟩ := h
    rfl
  · obtain ⟨p, ns, k, many, bs, rfl, hS, k0, k1, hl, m0, m1, b0, b1, q⟩ := h
    have hu := hr.units
    have nd := sc_law_draws.nd
    refine ⟨_, (@pss_cons _ _ _ _ _ (ps_nm 4 nd nm_law_draws_primes (pe_tup (pa_consts rfl)))
        (pss_cons (ps_nm 5 nd nm_law_draws_cell (pe_fd D_law_cell gm_law_draws__law_cell (hr.mono (by decide)) pass0 (pa_cons (pvN 0 nm_law_draws_script) (pa_cons (pvN 1 nm_law_draws_k) pa_nil))))
        (pss_cons (ps_nm 6 nd nm_law_draws_rest pe_int)
        (pss_cons (ps_if (pt_cmpR op_ge (pvN 5 nm_law_draws_cell) (pe_op op_pow pe_int pe_int) (nomark _)) (pss_one (ps_nm 6 nd nm_law_draws_rest (pvN 5 nm_law_draws_cell))) pss_nil)
        (pss_cons (ps_nm 7 nd nm_law_draws_row (pe_lst pa_nil))
        (pss_cons (ps_for PassesOwn.never rfl (pi_r1 gm_law_draws_range T.n_range (pa_cons (pvN 2 nm_law_draws_many) pa_nil)) (pg_nm 8 nd nm_law_draws_j) (pss_cons (ps_nm 9 nd nm_law_draws_mash (pe_op op_mulG (pe_op op_mod (pvN 5 nm_law_draws_cell) (pe_ix ix_seq (pvN 4 nm_law_draws_primes) (pe_op op_mod (pvN 8 nm_law_draws_j) pe_int) (fun _ _ => rfl))) (pe_op op_addG pe_int (pe_op op_mulG (pe_op op_mulG pe_int (pvN 8 nm_law_draws_j)) (pvN 8 nm_law_draws_j)))))
          (pss_cons (ps_nm 9 nd nm_law_draws_mash (pe_op op_addG (pe_op op_addG (pvN 9 nm_law_draws_mash) (pe_op op_mulG (pe_op op_mulG pe_int (pe_op op_addG (pvN 8 nm_law_draws_j) pe_int)) (pe_op op_addG (pvN 8 nm_law_draws_j) pe_int))) (pe_op op_mulG pe_int (pvN 1 nm_law_draws_k))))
          (pss_cons (ps_nm 9 nd nm_law_draws_mash (pe_op op_mod (pvN 9 nm_law_draws_mash) (pe_ix ix_seq (pvN 4 nm_law_draws_primes) (pe_op op_mod (pe_op op_addG (pe_op op_mulG pe_int (pvN 8 nm_law_draws_j)) (pvN 1 nm_law_draws_k)) pe_int) (fun _ _ => rfl))))
          (pss_cons (ps_nm 9 nd nm_law_draws_mash (pe_op op_mod (pe_op op_mulG (pe_op op_mulG (pvN 9 nm_law_draws_mash) (pvN 9 nm_law_draws_mash)) (pvN 9 nm_law_draws_mash)) (pe_ix ix_seq (pvN 4 nm_law_draws_primes) (pe_op op_mod (pe_op op_addG (pvN 8 nm_law_draws_j) pe_int) pe_int) (fun _ _ => rfl))))
          (pss_cons (ps_if (pt_cmpR op_gt (pvN 6 nm_law_draws_rest) pe_int (nomark _)) (pss_one (ps_nm 9 nd nm_law_draws_mash (pvN 6 nm_law_draws_rest))) pss_nil)
          (pss_cons (ps_expr (pe_bm PySem.F.plainAttrs_list PySem.F.slot_list_append PySem.F.type_list_append mt_append (pvN 7 nm_law_draws_row) (pa_cons (pe_op op_mod (pvN 9 nm_law_draws_mash) (pvN 3 nm_law_draws_base)) pa_nil)))
          (pss_one (ps_nm 6 nd nm_law_draws_rest (pe_op op_fdiv (pvN 6 nm_law_draws_rest) (pvN 3 nm_law_draws_base)))))))))))
        (pss_one (ps_ret (pvN 7 nm_law_draws_row))))))))), ?_⟩
    refine ⟨by decide, fun pr hpr => ?_⟩
    have s1 : Same H (upd H pr (.tup (primesL.map V.int))) := (Same.refl H).upd hpr
    walk_at "st"
    refine ⟨p, ns, k, rfl, s1.seq hS, k0, k1, hl, ?_⟩
    walk_at "st"
    refine ⟨⟨by decide, by decide, by decide⟩, ?_⟩
    walk_at "st"
    refine ite2 (fun _ => ?_) (fun _ => ?_) <;>
    · walk_at "st"
      refine ⟨by decide, fun r hr => ?_⟩
      have hrpr : r ≠ pr := fun e => by rw [e, upd_same] at hr; cases hr
      have hrH : H r = none := by rw [upd_ne hrpr] at hr; exact hr
      walk_at "st"
      refine ⟨by omega, by omega, for_range (n := many.toNat) (fun i σ H2 => ∃ (row : List Int) (z : Int) (x y : Option V), σ = [some (.ref p), some (.int k), some (.int many), some (.int bs), some (.ref pr), some (.int (cellF ns k)), some (.int z), some (.ref r), x, y] ∧
        Same H H2 ∧ H2 pr = some (.tup (primesL.map V.int)) ∧ H2 r = some (.lst (row.map V.int)) ∧ row.length = i ∧ ∀ v ∈ row, 0 ≤ v ∧ v < bs) ?_ ?_ ?_⟩
      · exact ⟨[], _, none, none, rfl, s1.upd hr, (by rw [upd_ne hrpr.symm, upd_same]; rfl), upd_same, rfl, fun v hv => absurd hv (by simp)⟩
      · rintro i σ H2 hi ⟨row, z, x, y, rfl, sm, hP, hR, hlen, hrow⟩
        have hi' : (i : Int) < 100 := by omega
        simp only [Int.zero_add]
        walk_at "st"
        obtain ⟨p1, e1, a1, b1'⟩ := prime_at (i := (i : Int) % 8) (by omega) (by omega)
        refine Or.inr (Or.inl ⟨pr, _, _, _, rfl, rfl, .of hP, e1, ?_⟩)
        walk_at "st"
        have c1 := Int.emod_nonneg (cellF ns k) (show p1 ≠ 0 by omega)
        have c2 := Int.emod_lt_of_pos (cellF ns k) a1
        generalize cellF ns k % p1 = m1 at c1 c2 ⊢
        walk_at "st"
        obtain ⟨p2, e2, a2, b2'⟩ := prime_at (i := (3 * (i : Int) + k) % 8) (by omega) (by omega)
        refine Or.inr (Or.inl ⟨pr, _, _, _, rfl, rfl, .of hP, e2, ?_⟩)
        walk_at "st"
        generalize hm2 : (m1 * (48271 + 2 * (i : Int) * (i : Int)) + 7919 * ((i : Int) + 1) * ((i : Int) + 1) + 104729 * k) % p2 = m2
        have c3 : 0 ≤ m2 := by rw [← hm2]; exact Int.emod_nonneg _ (by omega)
        have c4 : m2 < p2 := by rw [← hm2]; exact Int.emod_lt_of_pos _ a2
        walk_at "st"
        obtain ⟨p3, e3, a3, b3'⟩ := prime_at (i := ((i : Int) + 5) % 8) (by omega) (by omega)
        refine Or.inr (Or.inl ⟨pr, _, _, _, rfl, rfl, .of hP, e3, ?_⟩)
        walk_at "st"
        refine ite2 (fun _ => ?_) (fun _ => ?_) <;>
        · walk_at "st"
          refine ⟨.inl ⟨rfl, _, .of hR⟩, ?_⟩
          walk_at "st"
          refine ⟨r, _, _, rfl, rfl, hR, ?_, ?_⟩
          · rw [List.length_map, hlen, sizeLine_eq]; omega
          walk_at "st"
          exact ⟨row ++ [_], _, _, _, rfl, sm.updN hrH, (by rw [upd_ne hrpr.symm]; exact hP), lst_snoc, (by rw [List.length_append, hlen]; rfl), snoc_in hrow ⟨Int.emod_nonneg _ (by omega), Int.emod_lt_of_pos _ b0⟩⟩
      · rintro σ H2 ⟨row, z, x, y, rfl, sm, hP, hR, hlen, hrow⟩
        walk_at "st"
        exact q r row H2 sm hrH hR hlen hrow
end
theorem kit_ib (K : PySem.W.Frag) : PySem.W.kitOne K (.type "int") (.type "bool") = some false := by rfl
theorem app_list (x y : Str) : (x ++ y).cps.toList = x.cps.toList ++ y.cps.toList := by
  show (x.cps ++ y.cps).toList = _
  simp
theorem len_list (x : Str) : x.length = x.cps.toList.length := by simp [Str.length]
def spWithin : Sp := fun vs H Q _ => ∃ n lo hi, vs = [.int n, .int lo, .int hi] ∧ Q (.bl (decide (lo ≤ n) && decide (n ≤ hi))) H
section
variable {P : Program} {w : World} {K : PySem.W.Frag} {mg : Str → Option Value} {base : Heap} {a : Adr}
theorem sc_within : FnScope ["number", "least", "most"] ["number", "least", "most"] (defScope (top 2)) := ⟨rfl, rfl, rfl, by decide +kernel, rfl, by decide +kernel, by decide +kernel⟩
theorem nm_within_number : Nm (defScope (top 2)) "number" := ⟨by decide +kernel, by decide +kernel, by decide +kernel⟩
theorem nm_within_least : Nm (defScope (top 2)) "least" := ⟨by decide +kernel, by decide +kernel, by decide +kernel⟩
theorem nm_within_most : Nm (defScope (top 2)) "most" := ⟨by decide +kernel, by decide +kernel, by decide +kernel⟩
theorem gm_within_isinstance : Gm (defScope (top 2)) "isinstance" := ⟨by decide +kernel, by decide +kernel, by decide +kernel⟩
theorem gm_within_bool : Gm (defScope (top 2)) "bool" := ⟨by decide +kernel, by decide +kernel, by decide +kernel⟩
theorem ok_within {f : Addr} {fd : FuncData} (F : Fun K "within" "within" (top 2) f fd) (T : Txt K mg a) : FnOk P w K mg base CX0 1 f fd ["number", "least", "most"] spWithin := by
  refine F.ok sc_within (fun vs H Q E h => ?_) (fun cdv A outer s H vs Q E hr h => ?_)
  · obtain ⟨n, lo, hi, rfl, _⟩ := h
    rfl
  · obtain ⟨n, lo, hi, rfl, q⟩ := h
    have hu := hr.units
    have nd := sc_within.nd
    refine ⟨_, (@pss_one _ _ _ (ps_ret (pe_and (pe_not (pe_cb call_isiG gm_within_isinstance T.n_isinstance bt_isinstance (pa_cons (pvN 0 nm_within_number) (pa_cons (pe_gb (v := .ty "bool") gm_within_bool T.n_bool bt_bool rfl) pa_nil)))) (pe_one (pe_chain op_le op_le (pvN 1 nm_within_least) (pvN 0 nm_within_number) (pvN 2 nm_within_most)))))), ?_⟩
    walk_at "st"
    refine Or.inl ⟨_, _, _, _, _, rfl, .of (.int n), rfl, kit_ib K, ?_⟩
    walk_at "st"
    by_cases h1 : lo ≤ n
    · rw [decide_eq_true h1]
      refine iteT ?_
      walk_at "st"
      rw [decide_eq_true h1] at q
      exact q
    · rw [decide_eq_false h1]
      refine iteF ?_
      rw [decide_eq_false h1] at q
      exact q
end
end Lw
set_option Elab.async false
set_option linter.all false
set_option maxRecDepth 100000
set_option maxHeartbeats 4000000
namespace Lw
open PySem L2
local macro_rules | `(tactic| walk_at "st") => `(tactic| repeat (first
  | refine ⟨_, rfl, ?_⟩
  | refine ⟨_, _, rfl, rfl, ?_⟩
  | refine ⟨_, _, rfl, ?_⟩
  | refine Or.inl ⟨_, _, rfl, rfl, ?_⟩
  | refine Or.inl ⟨rfl, ?_⟩
  | refine ⟨rfl, ?_⟩
  | refine Or.inl ⟨_, _, _, _, rfl, rfl, .of (by assumption), rfl, ?_⟩
  | (refine And.intro (show CMul _ _ from ?_) ?_; (first | exact Or.inr ⟨by omega, by omega⟩ | exact Or.inl ⟨by omega, by omega⟩))
  | (refine And.intro (show CDiv _ _ from ?_) ?_; exact ⟨by omega, by omega⟩)
  | (refine And.intro (show (0 : Int) < _ from ?_) ?_; first | decide | omega)))
structure SwC (K : PySem.W.Frag) (a : Adr) (C : Addr) : Prop where
  mem : C ∈ a.racks
  cls : Cls K C
  h : NoAttr K C "held_by"
  j : NoAttr K C "jammed"
  t : NoAttr K C "taken"
structure Fs (fs : List (Str × V)) (ra rb rc : Addr) : Prop where
  h : fs.lookup ("held_by" : Str) = some (V.ref ra)
  j : fs.lookup ("jammed" : Str) = some (V.ref rb)
  t : fs.lookup ("taken" : Str) = some (V.ref rc)
  m : ∀ x ∈ (["first_free", "hold", "free", "stick", "mend", "check", "holders", "stuck", "shares", "take", "paper"] : List Str), fs.lookup x = none
structure Rack (K : PySem.W.Frag) (a : Adr) (H : Hp) (p C : Addr) (ra rb rc : Addr) (hs : List V) (js : List Bool) (ts : List Int) : Prop where
  ins : ∃ dx fs, H p = some (.ins C dx fs) ∧ Fs fs ra rb rc
  c : SwC K a C
  ha : H ra = some (.lst hs)
  hb : H rb = some (.lst (js.map V.bl))
  hc : H rc = some (.lst (ts.map V.int))
  ab : ra ≠ rb
  ac : ra ≠ rc
  bc : rb ≠ rc
  lj : js.length = hs.length
  lt : ts.length = hs.length
  z : hs.length ≤ 1000
theorem Rack.same {K : PySem.W.Frag} {a : Adr} {H H' : Hp} {p C ra rb rc : Addr} {hs : List V} {js : List Bool} {ts : List Int} (r : Rack K a H p C ra rb rc hs js ts) (s : Same H H') : Rack K a H' p C ra rb rc hs js ts := by
  obtain ⟨dx, fs, e, f⟩ := r.ins
  exact ⟨⟨dx, fs, s _ _ e, f⟩, r.c, s _ _ r.ha, s _ _ r.hb, s _ _ r.hc, r.ab, r.ac, r.bc, r.lj, r.lt, r.z⟩
def inR (k : Int) (hs : List V) : Bool := decide (0 ≤ k) && decide (k ≤ (hs.length : Int) - 1)
theorem inR_iff {k : Int} {hs : List V} : inR k hs = true ↔ 0 ≤ k ∧ k < hs.length := by
  unfold inR
  rw [Bool.and_eq_true, decide_eq_true_eq, decide_eq_true_eq]
  omega
theorem ixN_in {n : Nat} {k : Int} (h0 : 0 ≤ k) (h : k < n) : ixN n k = some k.toNat := by unfold ixN; rw [if_pos h0, if_pos h]
def spHolders (K : PySem.W.Frag) (a : Adr) : Sp := fun vs H Q _ => ∃ p C ra rb rc hs js ts, vs = [.ref p] ∧ Rack K a H p C ra rb rc hs js ts ∧ ∀ l, H l = none → Q (.ref l) (upd H l (.lst hs))
def spShares (K : PySem.W.Frag) (a : Adr) : Sp := fun vs H Q _ => ∃ p C ra rb rc hs js ts, vs = [.ref p] ∧ Rack K a H p C ra rb rc hs js ts ∧ ∀ l, H l = none → Q (.ref l) (upd H l (.lst (ts.map V.int)))
def spCheck (K : PySem.W.Frag) (a : Adr) : Sp := fun vs H Q E => ∃ p k C ra rb rc hs js ts, vs = [.ref p, .int k] ∧ Rack K a H p C ra rb rc hs js ts ∧ if inR k hs = true then Q .non H else E (.ref a.NoSwitch) none H
def spHold (K : PySem.W.Frag) (a : Adr) : Sp := fun vs H Q _ => ∃ p k who C ra rb rc hs js ts, vs = [.ref p, .int k, who] ∧ Rack K a H p C ra rb rc hs js ts ∧ 0 ≤ k ∧ k < hs.length ∧
  Q .non (upd (upd H ra (.lst (hs.set k.toNat who))) rc (.lst ((ts.set k.toNat (ts.getD k.toNat 0 + 1)).map V.int)))
def spFree (K : PySem.W.Frag) (a : Adr) : Sp := fun vs H Q E => ∃ p k C ra rb rc hs js ts, vs = [.ref p, .int k] ∧ Rack K a H p C ra rb rc hs js ts ∧
  if inR k hs = true ∧ hs.getD k.toNat .non ≠ .non then Q .non (upd H ra (.lst (hs.set k.toNat .non))) else E (.ref a.NoSwitch) none H
def spJam (K : PySem.W.Frag) (a : Adr) (b : Bool) : Sp := fun vs H Q E => ∃ p k C ra rb rc hs js ts, vs = [.ref p, .int k] ∧ Rack K a H p C ra rb rc hs js ts ∧
  if inR k hs = true then Q .non (upd H rb (.lst ((js.set k.toNat b).map V.bl))) else E (.ref a.NoSwitch) none H
structure TxtS (K : PySem.W.Frag) (mg : Str → Option Value) (a : Adr) : Prop extends Txt K mg a where
  n_list : mg "list" = none
  n_enumerate : mg "enumerate" = none
  n_tuple : mg "tuple" = none
  g_NoSwitch : mg "NoSwitch" = some (.ref a.NoSwitch)
  x_NoSwitch : PySem.W.excIn K a.NoSwitch [.type "ValueError", .type "Exception", .type "BaseException", .type "object"] "ValueError.__new__" = true
section
variable {P : Program} {w : World} {K : PySem.W.Frag} {mg : Str → Option Value} {base : Heap} {a : Adr}
theorem sc_Switches_holders : FnScope ["self"] ["self"] (defScope (inClass (top 7) 7)) := ⟨rfl, rfl, rfl, by decide +kernel, rfl, by decide +kernel, by decide +kernel⟩
theorem nm_Switches_holders_self : Nm (defScope (inClass (top 7) 7)) "self" := ⟨by decide +kernel, by decide +kernel, by decide +kernel⟩
theorem gm_Switches_holders_list : Gm (defScope (inClass (top 7) 7)) "list" := ⟨by decide +kernel, by decide +kernel, by decide +kernel⟩
theorem ok_holders {f : Addr} {fd : FuncData} (F : Fun K "holders" "Switches.holders" (inClass (top 7) 7) f fd) (T : TxtS K mg a) : FnOk P w K mg base CX0 1 f fd ["self"] (spHolders K a) := by
  refine F.ok sc_Switches_holders (fun vs H Q E h => ?_) (fun cdv A outer s H vs Q E hr h => ?_)
  · obtain ⟨p, C, ra, rb, rc, hs, js, ts, rfl, _⟩ := h
    rfl
  · obtain ⟨p, C, ra, rb, rc, hs, js, ts, rfl, R, q⟩ := h
    obtain ⟨dx, fs, hp, F3⟩ := R.ins
    refine ⟨_, (@pss_one _ _ _ (ps_ret (pe_ct (call_listG rfl) gm_Switches_holders_list T.n_list bt_list (pa_cons (pe_fld (pvN 0 nm_Switches_holders_self) rfl) pa_nil)))), ?_⟩
    walk_at "st"
    refine ⟨p, C, dx, fs, _, rfl, hp, R.c.cls, R.c.h, F3.h, ?_⟩
    walk_at "st"
    refine Or.inl ⟨_, _, rfl, .inl (.of R.ha), fun l hl => ?_⟩
    exact q l hl
theorem sc_Switches_shares : FnScope ["self"] ["self"] (defScope (inClass (top 7) 9)) := ⟨rfl, rfl, rfl, by decide +kernel, rfl, by decide +kernel, by decide +kernel⟩
theorem nm_Switches_shares_self : Nm (defScope (inClass (top 7) 9)) "self" := ⟨by decide +kernel, by decide +kernel, by decide +kernel⟩
theorem gm_Switches_shares_list : Gm (defScope (inClass (top 7) 9)) "list" := ⟨by decide +kernel, by decide +kernel, by decide +kernel⟩
theorem ok_shares {f : Addr} {fd : FuncData} (F : Fun K "shares" "Switches.shares" (inClass (top 7) 9) f fd) (T : TxtS K mg a) : FnOk P w K mg base CX0 1 f fd ["self"] (spShares K a) := by
  refine F.ok sc_Switches_shares (fun vs H Q E h => ?_) (fun cdv A outer s H vs Q E hr h => ?_)
  · obtain ⟨p, C, ra, rb, rc, hs, js, ts, rfl, _⟩ := h
    rfl
  · obtain ⟨p, C, ra, rb, rc, hs, js, ts, rfl, R, q⟩ := h
    obtain ⟨dx, fs, hp, F3⟩ := R.ins
    refine ⟨_, (@pss_one _ _ _ (ps_ret (pe_ct (call_listG rfl) gm_Switches_shares_list T.n_list bt_list (pa_cons (pe_fld (pvN 0 nm_Switches_shares_self) rfl) pa_nil)))), ?_⟩
    walk_at "st"
    refine ⟨p, C, dx, fs, _, rfl, hp, R.c.cls, R.c.t, F3.t, ?_⟩
    walk_at "st"
    refine Or.inl ⟨_, _, rfl, .inl (.of R.hc), fun l hl => ?_⟩
    exact q l hl
theorem sc_Switches_hold : FnScope ["self", "k", "who"] ["self", "k", "who"] (defScope (inClass (top 7) 2)) := ⟨rfl, rfl, rfl, by decide +kernel, rfl, by decide +kernel, by decide +kernel⟩
theorem nm_Switches_hold_self : Nm (defScope (inClass (top 7) 2)) "self" := ⟨by decide +kernel, by decide +kernel, by decide +kernel⟩
theorem nm_Switches_hold_k : Nm (defScope (inClass (top 7) 2)) "k" := ⟨by decide +kernel, by decide +kernel, by decide +kernel⟩
theorem nm_Switches_hold_who : Nm (defScope (inClass (top 7) 2)) "who" := ⟨by decide +kernel, by decide +kernel, by decide +kernel⟩
theorem ok_hold {f : Addr} {fd : FuncData} (F : Fun K "hold" "Switches.hold" (inClass (top 7) 2) f fd) (T : TxtS K mg a) : FnOk P w K mg base CX0 1 f fd ["self", "k", "who"] (spHold K a) := by
  refine F.ok sc_Switches_hold (fun vs H Q E h => ?_) (fun cdv A outer s H vs Q E hr h => ?_)
  · obtain ⟨p, k, who, C, ra, rb, rc, hs, js, ts, rfl, _⟩ := h
    rfl
  · obtain ⟨p, k, who, C, ra, rb, rc, hs, js, ts, rfl, R, h0, h1, q⟩ := h
    obtain ⟨dx, fs, hp, F3⟩ := R.ins
    have hlt := R.lt
    refine ⟨_, (@pss_cons _ _ _ _ _ (ps_asg (pvN 2 nm_Switches_hold_who) (pg_sub (pe_fld (pvN 0 nm_Switches_hold_self) rfl) (pvN 1 nm_Switches_hold_k) set_list))
        (pss_one (ps_augS (pe_fld (pvN 0 nm_Switches_hold_self) rfl) (pvN 1 nm_Switches_hold_k) get_list pe_int ip_add set_list))), ?_⟩
    walk_at "st"
    refine ⟨p, C, dx, fs, _, rfl, hp, R.c.cls, R.c.h, F3.h, ?_⟩
    walk_at "st"
    refine ⟨_, _, _, _, rfl, rfl, R.ha, ixN_in h0 h1, ?_⟩
    walk_at "st"
    have hp2 : (upd H ra (.lst (hs.set k.toNat who))) p = some (.ins C dx fs) := by
      rw [upd_ne (ne_of hp R.ha (by intro z; cases z))]; exact hp
    have hc2 : (upd H ra (.lst (hs.set k.toNat who))) rc = some (.lst (ts.map V.int)) := by rw [upd_ne (Ne.symm R.ac)]; exact R.hc
    refine ⟨p, C, dx, fs, _, rfl, hp2, R.c.cls, R.c.t, F3.t, ?_⟩
    walk_at "st"
    refine ⟨_, _, _, _, rfl, rfl, h0, .of hc2, atI_int h0 (by omega), ?_⟩
    walk_at "st"
    refine ⟨_, _, _, _, rfl, rfl, hc2, ixN_in h0 (by rw [List.length_map]; omega), ?_⟩
    rw [List.map_set] at q
    exact q
end
end Lw
set_option Elab.async false
set_option linter.all false
set_option maxRecDepth 100000
set_option maxHeartbeats 4000000
namespace Lw
open PySem L2
local macro_rules | `(tactic| walk_at "st") => `(tactic| repeat (first
  | refine ⟨_, rfl, ?_⟩
  | refine ⟨_, _, rfl, rfl, ?_⟩
  | refine ⟨_, _, rfl, ?_⟩
  | refine Or.inl ⟨_, _, rfl, rfl, ?_⟩
  | refine Or.inl ⟨rfl, ?_⟩
  | refine ⟨rfl, ?_⟩
  | refine Or.inl ⟨_, _, _, _, rfl, rfl, .of (by assumption), rfl, ?_⟩
  | (refine And.intro (show CMul _ _ from ?_) ?_; (first | exact Or.inr ⟨by omega, by omega⟩ | exact Or.inl ⟨by omega, by omega⟩))
  | (refine And.intro (show CDiv _ _ from ?_) ?_; exact ⟨by omega, by omega⟩)
  | (refine And.intro (show (0 : Int) < _ from ?_) ?_; first | decide | omega)))
theorem app_len (x y : Str) : (x ++ y).length = x.length + y.length := by rw [len_list, len_list, len_list, app_list, List.length_append]
section
variable {P : Program} {w : World} {K : PySem.W.Frag} {mg : Str → Option Value} {base : Heap} {a : Adr}
theorem sc_Switches_check : FnScope ["self", "k"] ["self", "k"] (defScope (inClass (top 7) 6)) := ⟨rfl, rfl, rfl, by decide +kernel, rfl, by decide +kernel, by decide +kernel⟩
theorem nm_Switches_check_self : Nm (defScope (inClass (top 7) 6)) "self" := ⟨by decide +kernel, by decide +kernel, by decide +kernel⟩
theorem nm_Switches_check_k : Nm (defScope (inClass (top 7) 6)) "k" := ⟨by decide +kernel, by decide +kernel, by decide +kernel⟩
theorem gm_Switches_check_within : Gm (defScope (inClass (top 7) 6)) "within" := ⟨by decide +kernel, by decide +kernel, by decide +kernel⟩
theorem gm_Switches_check_len : Gm (defScope (inClass (top 7) 6)) "len" := ⟨by decide +kernel, by decide +kernel, by decide +kernel⟩
theorem gm_Switches_check_NoSwitch : Gm (defScope (inClass (top 7) 6)) "NoSwitch" := ⟨by decide +kernel, by decide +kernel, by decide +kernel⟩
theorem ok_check {f : Addr} {fd : FuncData} (F : Fun K "check" "Switches.check" (inClass (top 7) 6) f fd) (T : TxtS K mg a) (D_within : FnIn P w K mg base CX0 1 "within" ["number", "least", "most"] spWithin) : FnOk P w K mg base (CXE P w) 2 f fd ["self", "k"] (spCheck K a) := by
  refine F.okX sc_Switches_check (fun vs H Q E h => ?_) (fun cdv A outer s H vs Q E hr h => ?_)
  · obtain ⟨p, k, C, ra, rb, rc, hs, js, ts, rfl, _⟩ := h
    rfl
  · obtain ⟨p, k, C, ra, rb, rc, hs, js, ts, rfl, R, q⟩ := h
    obtain ⟨dx, fs, hp, F3⟩ := R.ins
    have hz := R.z
    refine ⟨_, (@pss_one _ _ _ (ps_if (pt_not (pt_val (pe_fd D_within gm_Switches_check_within (hr.mono (by decide)) pass0 (pa_cons (pvN 1 nm_Switches_check_k) (pa_cons pe_int (pa_cons (pe_op op_sub (pe_cb call_lenG gm_Switches_check_len T.n_len bt_len (pa_cons (pe_fld (pvN 0 nm_Switches_check_self) rfl) pa_nil)) pe_int) pa_nil)))))) (pss_one (ps_rs throws_def gm_Switches_check_NoSwitch rfl T.x_NoSwitch T.g_NoSwitch (pa_cons (pe_joined (pj_cons pe_str (pj_cons (pe_fG (pe_cb call_lenG gm_Switches_check_len T.n_len bt_len (pa_cons (pe_fld (pvN 0 nm_Switches_check_self) rfl) pa_nil))) (pj_cons pe_str pj_nil)))) pa_nil))) pss_nil)), ?_⟩
    walk_at "st"
    refine ⟨p, C, dx, fs, _, rfl, hp, R.c.cls, R.c.h, F3.h, ?_⟩
    walk_at "st"
    refine Or.inr ⟨_, _, rfl, .inl (.of R.ha), ?_⟩
    walk_at "st"
    refine ⟨k, 0, (hs.length : Int) - 1, rfl, ?_⟩
    walk_at "st"
    by_cases hk : inR k hs = true
    · rw [if_pos hk] at q
      have e : (decide (0 ≤ k) && decide (k ≤ (hs.length : Int) - 1)) = true := hk
      rw [e]
      refine iteF ?_
      exact q
    · rw [if_neg hk] at q
      have e : (decide (0 ≤ k) && decide (k ≤ (hs.length : Int) - 1)) = false := Bool.eq_false_iff.mpr hk
      rw [e]
      refine iteT ?_
      walk_at "st"
      have e1 : (Str.empty ++ Str.ofString "there are ").length = 10 := by decide +kernel
      have e2 : (Str.ofString " switches, numbered from 0").length = 26 := by decide +kernel
      refine ⟨(by rw [e1, sizeLine_eq]; decide), ?_⟩
      walk_at "st"
      refine ⟨p, C, dx, fs, _, rfl, hp, R.c.cls, R.c.h, F3.h, ?_⟩
      walk_at "st"
      refine Or.inr ⟨_, _, rfl, .inl (.of R.ha), ?_⟩
      refine Or.inl ⟨_, rfl, by omega, by omega, fun z hz => ?_⟩
      walk_at "st"
      refine ⟨(by rw [app_len, e1, sizeLine_eq]; omega), ?_⟩
      walk_at "st"
      refine ⟨(by rw [app_len, app_len, e1, e2, sizeLine_eq]; omega), ?_⟩
      walk_at "st"
      refine ⟨(by rw [app_len, app_len, e1, e2, sizeLine_eq]; omega), ?_⟩
      exact ⟨(by show 1 ≤ sizeLine; decide), q⟩
theorem sc_Switches_stick : FnScope ["self", "k"] ["self", "k"] (defScope (inClass (top 7) 4)) := ⟨rfl, rfl, rfl, by decide +kernel, rfl, by decide +kernel, by decide +kernel⟩
theorem nm_Switches_stick_self : Nm (defScope (inClass (top 7) 4)) "self" := ⟨by decide +kernel, by decide +kernel, by decide +kernel⟩
theorem nm_Switches_stick_k : Nm (defScope (inClass (top 7) 4)) "k" := ⟨by decide +kernel, by decide +kernel, by decide +kernel⟩
theorem ok_stick {f : Addr} {fd : FuncData} (F : Fun K "stick" "Switches.stick" (inClass (top 7) 4) f fd) (T : TxtS K mg a) (DD_check : ∀ C ∈ a.racks, MthIn P w K mg base (CXE P w) 2 C "check" ["self", "k"] (spCheck K a)) : FnOk P w K mg base (CXE P w) 3 f fd ["self", "k"] (spJam K a true) := by
  refine F.okX sc_Switches_stick (fun vs H Q E h => ?_) (fun cdv A outer s H vs Q E hr h => ?_)
  · obtain ⟨p, k, C, ra, rb, rc, hs, js, ts, rfl, _⟩ := h
    rfl
  · obtain ⟨p, k, C, ra, rb, rc, hs, js, ts, rfl, R, q⟩ := h
    obtain ⟨dx, fs, hp, F3⟩ := R.ins
    have D_check := DD_check C R.c.mem
    have cls := R.c.cls
    have hj := R.lj
    refine ⟨_, (@pss_cons _ _ _ _ _ (ps_expr (pe_md D_check cls (pvN 0 nm_Switches_stick_self) (hr.mono (by decide)) pass_on (pa_cons (pvN 1 nm_Switches_stick_k) pa_nil)))
        (pss_one (ps_asg pe_bl (pg_sub (pe_fld (pvN 0 nm_Switches_stick_self) rfl) (pvN 1 nm_Switches_stick_k) set_list)))), ?_⟩
    walk_at "st"
    refine ⟨p, dx, fs, rfl, hp, F3.m _ (by decide), ?_⟩
    walk_at "st"
    refine ⟨p, k, C, ra, rb, rc, hs, js, ts, rfl, R, ?_⟩
    by_cases hk : inR k hs = true
    · rw [if_pos hk] at q ⊢
      obtain ⟨h0, h1⟩ := inR_iff.mp hk
      walk_at "st"
      refine ⟨p, C, dx, fs, _, rfl, hp, R.c.cls, R.c.j, F3.j, ?_⟩
      walk_at "st"
      refine ⟨_, _, _, _, rfl, rfl, R.hb, ixN_in h0 (by rw [List.length_map]; omega), ?_⟩
      rw [List.map_set] at q
      exact q
    · rw [if_neg hk] at q ⊢
      exact q
theorem sc_Switches_mend : FnScope ["self", "k"] ["self", "k"] (defScope (inClass (top 7) 5)) := ⟨rfl, rfl, rfl, by decide +kernel, rfl, by decide +kernel, by decide +kernel⟩
theorem nm_Switches_mend_self : Nm (defScope (inClass (top 7) 5)) "self" := ⟨by decide +kernel, by decide +kernel, by decide +kernel⟩
theorem nm_Switches_mend_k : Nm (defScope (inClass (top 7) 5)) "k" := ⟨by decide +kernel, by decide +kernel, by decide +kernel⟩
theorem ok_mend {f : Addr} {fd : FuncData} (F : Fun K "mend" "Switches.mend" (inClass (top 7) 5) f fd) (T : TxtS K mg a) (DD_check : ∀ C ∈ a.racks, MthIn P w K mg base (CXE P w) 2 C "check" ["self", "k"] (spCheck K a)) : FnOk P w K mg base (CXE P w) 3 f fd ["self", "k"] (spJam K a false) := by
  refine F.okX sc_Switches_mend (fun vs H Q E h => ?_) (fun cdv A outer s H vs Q E hr h => ?_)
  · obtain ⟨p, k, C, ra, rb, rc, hs, js, ts, rfl, _⟩ := h
    rfl
  · obtain ⟨p, k, C, ra, rb, rc, hs, js, ts, rfl, R, q⟩ := h
    obtain ⟨dx, fs, hp, F3⟩ := R.ins
    have D_check := DD_check C R.c.mem
    have cls := R.c.cls
    have hj := R.lj
    refine ⟨_, (@pss_cons _ _ _ _ _ (ps_expr (pe_md D_check cls (pvN 0 nm_Switches_mend_self) (hr.mono (by decide)) pass_on (pa_cons (pvN 1 nm_Switches_mend_k) pa_nil)))
        (pss_one (ps_asg pe_bl (pg_sub (pe_fld (pvN 0 nm_Switches_mend_self) rfl) (pvN 1 nm_Switches_mend_k) set_list)))), ?_⟩
    walk_at "st"
    refine ⟨p, dx, fs, rfl, hp, F3.m _ (by decide), ?_⟩
    walk_at "st"
    refine ⟨p, k, C, ra, rb, rc, hs, js, ts, rfl, R, ?_⟩
    by_cases hk : inR k hs = true
    · rw [if_pos hk] at q ⊢
      obtain ⟨h0, h1⟩ := inR_iff.mp hk
      walk_at "st"
      refine ⟨p, C, dx, fs, _, rfl, hp, R.c.cls, R.c.j, F3.j, ?_⟩
      walk_at "st"
      refine ⟨_, _, _, _, rfl, rfl, R.hb, ixN_in h0 (by rw [List.length_map]; omega), ?_⟩
      rw [List.map_set] at q
      exact q
    · rw [if_neg hk] at q ⊢
      exact q
theorem sc_Switches_free : FnScope ["self", "k"] ["self", "k"] (defScope (inClass (top 7) 3)) := ⟨rfl, rfl, rfl, by decide +kernel, rfl, by decide +kernel, by decide +kernel⟩
theorem nm_Switches_free_self : Nm (defScope (inClass (top 7) 3)) "self" := ⟨by decide +kernel, by decide +kernel, by decide +kernel⟩
theorem nm_Switches_free_k : Nm (defScope (inClass (top 7) 3)) "k" := ⟨by decide +kernel, by decide +kernel, by decide +kernel⟩
theorem gm_Switches_free_NoSwitch : Gm (defScope (inClass (top 7) 3)) "NoSwitch" := ⟨by decide +kernel, by decide +kernel, by decide +kernel⟩
theorem ok_free {f : Addr} {fd : FuncData} (F : Fun K "free" "Switches.free" (inClass (top 7) 3) f fd) (T : TxtS K mg a) (DD_check : ∀ C ∈ a.racks, MthIn P w K mg base (CXE P w) 2 C "check" ["self", "k"] (spCheck K a)) : FnOk P w K mg base (CXE P w) 3 f fd ["self", "k"] (spFree K a) := by
  refine F.okX sc_Switches_free (fun vs H Q E h => ?_) (fun cdv A outer s H vs Q E hr h => ?_)
  · obtain ⟨p, k, C, ra, rb, rc, hs, js, ts, rfl, _⟩ := h
    rfl
  · obtain ⟨p, k, C, ra, rb, rc, hs, js, ts, rfl, R, q⟩ := h
    obtain ⟨dx, fs, hp, F3⟩ := R.ins
    have D_check := DD_check C R.c.mem
    have cls := R.c.cls
    have hz := R.z
    refine ⟨_, (@pss_cons _ _ _ _ _ (ps_expr (pe_md D_check cls (pvN 0 nm_Switches_free_self) (hr.mono (by decide)) pass_on (pa_cons (pvN 1 nm_Switches_free_k) pa_nil)))
        (pss_cons (ps_if (pt_cmpR op_isN (pe_ix ix_seq (pe_fld (pvN 0 nm_Switches_free_self) rfl) (pvN 1 nm_Switches_free_k) (fun _ _ => rfl)) pe_non (nomark _)) (pss_one (ps_rs throws_def gm_Switches_free_NoSwitch rfl T.x_NoSwitch T.g_NoSwitch (pa_cons (pe_joined (pj_cons pe_str (pj_cons (pe_fG (pvN 1 nm_Switches_free_k)) pj_nil))) pa_nil))) pss_nil)
        (pss_one (ps_asg pe_non (pg_sub (pe_fld (pvN 0 nm_Switches_free_self) rfl) (pvN 1 nm_Switches_free_k) set_list))))), ?_⟩
    walk_at "st"
    refine ⟨p, dx, fs, rfl, hp, F3.m _ (by decide), ?_⟩
    walk_at "st"
    refine ⟨p, k, C, ra, rb, rc, hs, js, ts, rfl, R, ?_⟩
    by_cases hk : inR k hs = true
    · rw [if_pos hk]
      obtain ⟨h0, h1⟩ := inR_iff.mp hk
      walk_at "st"
      refine ⟨p, C, dx, fs, _, rfl, hp, R.c.cls, R.c.h, F3.h, ?_⟩
      walk_at "st"
      obtain ⟨v, e1, e2⟩ := atI_in (xs := hs) h0 h1
      have e3 : hs.getD k.toNat .non = v := by rw [List.getD, e2]; rfl
      rw [e3] at q
      refine Or.inl ⟨_, _, _, _, rfl, rfl, .of R.ha, e1, ?_⟩
      walk_at "st"
      by_cases hv : v = .non
      · rw [if_neg (fun z => z.2 hv)] at q
        rw [decide_eq_true hv]
        refine iteT ?_
        walk_at "st"
        have e1 : (Str.empty ++ Str.ofString "nobody holds switch ").length = 20 := by decide +kernel
        refine ⟨(by rw [e1, sizeLine_eq]; decide), ?_⟩
        walk_at "st"
        refine Or.inl ⟨_, rfl, by omega, by omega, fun z hz => ?_⟩
        walk_at "st"
        refine ⟨(by rw [app_len, e1, sizeLine_eq]; omega), ?_⟩
        refine ⟨(by rw [app_len, e1, sizeLine_eq]; omega), ?_⟩
        exact ⟨(by show 1 ≤ sizeLine; decide), q⟩
      · rw [if_pos ⟨hk, hv⟩] at q
        rw [decide_eq_false hv]
        refine iteF ?_
        walk_at "st"
        refine ⟨p, C, dx, fs, _, rfl, hp, R.c.cls, R.c.h, F3.h, ?_⟩
        walk_at "st"
        refine ⟨_, _, _, _, rfl, rfl, R.ha, ixN_in h0 h1, ?_⟩
        exact q
    · rw [if_neg hk]
      rw [if_neg (fun z => hk z.1)] at q
      exact q
end
end Lw
set_option Elab.async false
set_option linter.all false
set_option maxRecDepth 100000
set_option maxHeartbeats 4000000
namespace Lw
open PySem L2
local macro_rules | `(tactic| walk_at "st") => `(tactic| repeat (first
  | refine ⟨_, rfl, ?_⟩
  | refine ⟨_, _, rfl, rfl, ?_⟩
  | refine ⟨_, _, rfl, ?_⟩
  | refine Or.inl ⟨_, _, rfl, rfl, ?_⟩
  | refine Or.inl ⟨rfl, ?_⟩
  | refine ⟨rfl, ?_⟩
  | refine Or.inl ⟨_, _, _, _, rfl, rfl, .of (by assumption), rfl, ?_⟩
  | (refine And.intro (show CMul _ _ from ?_) ?_; (first | exact Or.inr ⟨by omega, by omega⟩ | exact Or.inl ⟨by omega, by omega⟩))
  | (refine And.intro (show CDiv _ _ from ?_) ?_; exact ⟨by omega, by omega⟩)
  | (refine And.intro (show (0 : Int) < _ from ?_) ?_; first | decide | omega)))
def SameX (ws : List Addr) (H H' : Hp) : Prop := ∀ b o, b ∉ ws → H b = some o → H' b = some o
def rackF (ra rb rc : Addr) : List (Str × V) := [("held_by", .ref ra), ("jammed", .ref rb), ("taken", .ref rc)]
def spInit (K : PySem.W.Frag) (a : Adr) : Sp := fun vs H Q _ => ∃ (p : Addr) (many : Int) (C dx : Addr), vs = [.ref p, .int many] ∧ H p = some (.ins C dx []) ∧ SwC K a C ∧ 0 ≤ many ∧ many ≤ 1000 ∧
  ∀ H' ra rb rc, SameX [p] H H' → H' p = some (.ins C dx (rackF ra rb rc)) → H ra = none → H rb = none → H rc = none → H' ra = some (.lst (List.replicate many.toNat .non)) → H' rb = some (.lst ((List.replicate many.toNat false).map V.bl)) → H' rc = some (.lst ((List.replicate many.toNat (0 : Int)).map V.int)) →
    ra ≠ rb → ra ≠ rc → rb ≠ rc → Q .non H'
theorem rep_flat {α : Type} (x : α) : ∀ n : Nat, (List.replicate n [x]).flatten = List.replicate n x
  | 0 => rfl
  | n + 1 => by rw [List.replicate_succ, List.flatten_cons, rep_flat x n]; rfl
def frB (hs : List V) (js : List Bool) (k : Int) : Bool := decide (hs.getD k.toNat .non = .non) && !(js.getD k.toNat false)
def ffree (hs : List V) (js : List Bool) (start : Int) : Option Int := (rangeL start hs.length ++ rangeL 0 start).find? (frB hs js)
def optV : Option Int → V
  | some k => .int k
  | none => .non
def spFirst (K : PySem.W.Frag) (a : Adr) : Sp := fun vs H Q _ => ∃ (p : Addr) (start : Int) (C ra rb rc : Addr) (hs : List V) (js : List Bool) (ts : List Int), vs = [.ref p, .int start] ∧ Rack K a H p C ra rb rc hs js ts ∧ 0 ≤ start ∧ start ≤ hs.length ∧ ∀ H', Same H H' → Q (optV (ffree hs js start)) H'
section
variable {P : Program} {w : World} {K : PySem.W.Frag} {mg : Str → Option Value} {base : Heap} {a : Adr}
theorem sc_Switches___init__ : FnScope ["self", "many"] ["self", "many"] (defScope (inClass (top 7) 0)) := ⟨rfl, rfl, rfl, by decide +kernel, rfl, by decide +kernel, by decide +kernel⟩
theorem nm_Switches___init___self : Nm (defScope (inClass (top 7) 0)) "self" := ⟨by decide +kernel, by decide +kernel, by decide +kernel⟩
theorem nm_Switches___init___many : Nm (defScope (inClass (top 7) 0)) "many" := ⟨by decide +kernel, by decide +kernel, by decide +kernel⟩
theorem ok_init {f : Addr} {fd : FuncData} (F : Fun K "__init__" "Switches.__init__" (inClass (top 7) 0) f fd) (T : TxtS K mg a) : FnOk P w K mg base CX0 1 f fd ["self", "many"] (spInit K a) := by
  refine F.ok sc_Switches___init__ (fun vs H Q E h => ?_) (fun cdv A outer s H vs Q E hr h => ?_)
  · obtain ⟨p, many, C, dx, rfl, _⟩ := h
    rfl
  · obtain ⟨p, many, C, dx, rfl, hp, c, h0, h1, q⟩ := h
    refine ⟨_, (@pss_cons _ _ _ _ _ (ps_fld (pvN 0 nm_Switches___init___self) (pe_op op_mulG (pe_lst (pa_cons pe_non pa_nil)) (pvN 1 nm_Switches___init___many)) rfl)
        (pss_cons (ps_fld (pvN 0 nm_Switches___init___self) (pe_op op_mulG (pe_lst (pa_cons pe_bl pa_nil)) (pvN 1 nm_Switches___init___many)) rfl)
        (pss_one (ps_fld (pvN 0 nm_Switches___init___self) (pe_op op_mulG (pe_lst (pa_cons pe_int pa_nil)) (pvN 1 nm_Switches___init___many)) rfl)))), ?_⟩
    walk_at "st"
    refine ⟨(by show 1 ≤ sizeLine; decide), fun l1 nl1 => ?_⟩
    walk_at "st"
    refine Or.inr (Or.inr ⟨l1, many, [.non], rfl, rfl, upd_same, by omega, by omega, (by rw [List.length_singleton, sizeLine_eq]; omega), fun l2 nl2 => ?_⟩)
    generalize hA1 : upd H l1 (.lst [.non]) = HA1 at nl2 ⊢
    have sA1 : Same H HA1 := hA1 ▸ (Same.refl H).upd nl1
    generalize hB1 : upd HA1 l2 (.lst (List.replicate many.toNat [.non]).flatten) = HB1
    have sB1 : Same H HB1 := hB1 ▸ sA1.upd nl2
    have e1 : HB1 l2 = some (.lst (List.replicate many.toNat [.non]).flatten) := hB1 ▸ upd_same
    have f1 : H l2 = none := sA1.free nl2
    walk_at "st"
    refine ⟨p, C, dx, [], rfl, sB1 _ _ hp, c.cls, c.h, (by show 0 < 1000; decide), ?_⟩
    generalize hC1 : upd HB1 p (.ins C dx (putF "held_by" (.ref l2) [])) = HC1
    have p1 : HC1 p = some (.ins C dx [("held_by", .ref l2)]) := hC1 ▸ upd_same
    have x1 : SameX [p] H HC1 := fun b o hb e => by rw [← hC1, upd_ne (by simpa using hb)]; exact sB1 b o e
    have np1 : l2 ≠ p := fun z => by rw [z, hp] at f1; cases f1
    have c1 : HC1 l2 = some (.lst (List.replicate many.toNat [.non]).flatten) := by rw [← hC1, upd_ne np1]; exact e1
    walk_at "st"
    refine ⟨(by show 1 ≤ sizeLine; decide), fun l3 nl3 => ?_⟩
    walk_at "st"
    refine Or.inr (Or.inr ⟨l3, many, [.bl false], rfl, rfl, upd_same, by omega, by omega, (by rw [List.length_singleton, sizeLine_eq]; omega), fun l4 nl4 => ?_⟩)
    generalize hA2 : upd HC1 l3 (.lst [.bl false]) = HA2 at nl4 ⊢
    have sA2 : Same HC1 HA2 := hA2 ▸ (Same.refl HC1).upd nl3
    generalize hB2 : upd HA2 l4 (.lst (List.replicate many.toNat [.bl false]).flatten) = HB2
    have sB2 : Same HC1 HB2 := hB2 ▸ sA2.upd nl4
    have e2 : HB2 l4 = some (.lst (List.replicate many.toNat [.bl false]).flatten) := hB2 ▸ upd_same
    have f2 : HC1 l4 = none := sA2.free nl4
    walk_at "st"
    refine ⟨p, C, dx, [("held_by", .ref l2)], rfl, sB2 _ _ p1, c.cls, c.j, (by show 1 < 1000; decide), ?_⟩
    generalize hC2 : upd HB2 p (.ins C dx (putF "jammed" (.ref l4) [("held_by", .ref l2)])) = HC2
    have p2 : HC2 p = some (.ins C dx [("held_by", .ref l2), ("jammed", .ref l4)]) := hC2 ▸ upd_same
    have x2 : SameX [p] HC1 HC2 := fun b o hb e => by rw [← hC2, upd_ne (by simpa using hb)]; exact sB2 b o e
    have np2 : l4 ≠ p := fun z => by rw [z, p1] at f2; cases f2
    have c2 : HC2 l4 = some (.lst (List.replicate many.toNat [.bl false]).flatten) := by rw [← hC2, upd_ne np2]; exact e2
    walk_at "st"
    refine ⟨(by show 1 ≤ sizeLine; decide), fun l5 nl5 => ?_⟩
    walk_at "st"
    refine Or.inr (Or.inr ⟨l5, many, [.int 0], rfl, rfl, upd_same, by omega, by omega, (by rw [List.length_singleton, sizeLine_eq]; omega), fun l6 nl6 => ?_⟩)
    generalize hA3 : upd HC2 l5 (.lst [.int 0]) = HA3 at nl6 ⊢
    have sA3 : Same HC2 HA3 := hA3 ▸ (Same.refl HC2).upd nl5
    generalize hB3 : upd HA3 l6 (.lst (List.replicate many.toNat [.int 0]).flatten) = HB3
    have sB3 : Same HC2 HB3 := hB3 ▸ sA3.upd nl6
    have e3 : HB3 l6 = some (.lst (List.replicate many.toNat [.int 0]).flatten) := hB3 ▸ upd_same
    have f3 : HC2 l6 = none := sA3.free nl6
    walk_at "st"
    refine ⟨p, C, dx, [("held_by", .ref l2), ("jammed", .ref l4)], rfl, sB3 _ _ p2, c.cls, c.t, (by show 2 < 1000; decide), ?_⟩
    generalize hC3 : upd HB3 p (.ins C dx (putF "taken" (.ref l6) [("held_by", .ref l2), ("jammed", .ref l4)])) = HC3
    have p3 : HC3 p = some (.ins C dx (rackF l2 l4 l6)) := hC3 ▸ upd_same
    have x3 : SameX [p] HC2 HC3 := fun b o hb e => by rw [← hC3, upd_ne (by simpa using hb)]; exact sB3 b o e
    have np3 : l6 ≠ p := fun z => by rw [z, p2] at f3; cases f3
    have c3 : HC3 l6 = some (.lst (List.replicate many.toNat [.int 0]).flatten) := by rw [← hC3, upd_ne np3]; exact e3
    have one : ∀ {b : Addr}, b ≠ p → b ∉ [p] := fun h z => h (by simpa using z)
    have c12 := x2 _ _ (one np1) c1
    have c13 := x3 _ _ (one np1) c12
    have c23 := x3 _ _ (one np2) c2
    have g4 : H l4 = none := by
      cases z : H l4 with
      | none => rfl
      | some o => have := x1 _ _ (one np2) z; rw [this] at f2; cases f2
    have g6 : H l6 = none := by
      cases z : H l6 with
      | none => rfl
      | some o => have := x2 _ _ (one np3) (x1 _ _ (one np3) z); rw [this] at f3; cases f3
    rw [rep_flat] at c13 c23 c3
    refine q HC3 l2 l4 l6 (fun b o hb e => x3 _ _ hb (x2 _ _ hb (x1 _ _ hb e))) p3 f1 g4 g6 c13 (by rw [List.map_replicate]; exact c23) (by rw [List.map_replicate]; exact c3) ?_ ?_ ?_
    · exact fun z => by rw [← z, c1] at f2; cases f2
    · exact fun z => by rw [← z, c12] at f3; cases f3
    · exact fun z => by rw [← z, c2] at f3; cases f3
theorem sc_Switches_first_free : FnScope ["self", "start", "k"] ["self", "start"] (defScope (inClass (top 7) 1)) := ⟨rfl, rfl, rfl, by decide +kernel, rfl, by decide +kernel, by decide +kernel⟩
theorem nm_Switches_first_free_self : Nm (defScope (inClass (top 7) 1)) "self" := ⟨by decide +kernel, by decide +kernel, by decide +kernel⟩
theorem nm_Switches_first_free_start : Nm (defScope (inClass (top 7) 1)) "start" := ⟨by decide +kernel, by decide +kernel, by decide +kernel⟩
theorem nm_Switches_first_free_k : Nm (defScope (inClass (top 7) 1)) "k" := ⟨by decide +kernel, by decide +kernel, by decide +kernel⟩
theorem gm_Switches_first_free_list : Gm (defScope (inClass (top 7) 1)) "list" := ⟨by decide +kernel, by decide +kernel, by decide +kernel⟩
theorem gm_Switches_first_free_range : Gm (defScope (inClass (top 7) 1)) "range" := ⟨by decide +kernel, by decide +kernel, by decide +kernel⟩
theorem gm_Switches_first_free_len : Gm (defScope (inClass (top 7) 1)) "len" := ⟨by decide +kernel, by decide +kernel, by decide +kernel⟩
theorem ok_first {f : Addr} {fd : FuncData} (F : Fun K "first_free" "Switches.first_free" (inClass (top 7) 1) f fd) (T : TxtS K mg a) : FnOk P w K mg base CX0 1 f fd ["self", "start"] (spFirst K a) := by
  refine F.ok sc_Switches_first_free (fun vs H Q E h => ?_) (fun cdv A outer s H vs Q E hr h => ?_)
  · obtain ⟨p, start, C, ra, rb, rc, hs, js, ts, rfl, _⟩ := h
    rfl
  · obtain ⟨p, start, C, ra, rb, rc, hs, js, ts, rfl, R, h0, h1, q⟩ := h
    obtain ⟨dx, fs, hp, F3⟩ := R.ins
    have nd := sc_Switches_first_free.nd
    have hz := R.z
    refine ⟨_, (@pss_cons _ _ _ _ _ (ps_for PassesOwn.never rfl (pi_list (pe_op op_addG (pe_ct (call_listG rfl) gm_Switches_first_free_list T.n_list bt_list (pa_cons (pe_ct call_rangeV gm_Switches_first_free_range T.n_range bt_range (pa_cons (pvN 1 nm_Switches_first_free_start) (pa_cons (pe_cb call_lenG gm_Switches_first_free_len T.n_len bt_len (pa_cons (pe_fld (pvN 0 nm_Switches_first_free_self) rfl) pa_nil)) pa_nil))) pa_nil)) (pe_ct (call_listG rfl) gm_Switches_first_free_list T.n_list bt_list (pa_cons (pe_ct call_rangeV gm_Switches_first_free_range T.n_range bt_range (pa_cons (pvN 1 nm_Switches_first_free_start) pa_nil)) pa_nil)))) (pg_nm 2 nd nm_Switches_first_free_k) (pss_one (ps_if (PW.pt (pw_and (pt_cmpR op_isN (pe_ix ix_seq (pe_fld (pvN 0 nm_Switches_first_free_self) rfl) (pvN 2 nm_Switches_first_free_k) (fun _ _ => rfl)) pe_non (nomark _)) (pw_and1 (pt_not (pt_val (pe_ix ix_seq (pe_fld (pvN 0 nm_Switches_first_free_self) rfl) (pvN 2 nm_Switches_first_free_k) (fun _ _ => rfl))))))) (pss_one (ps_ret (pvN 2 nm_Switches_first_free_k))) pss_nil)))
        (pss_one (ps_ret pe_non))), ?_⟩
    walk_at "st"
    refine ⟨p, C, dx, fs, _, rfl, hp, R.c.cls, R.c.h, F3.h, ?_⟩
    walk_at "st"
    refine Or.inr ⟨_, _, rfl, .inl (.of R.ha), ?_⟩
    walk_at "st"
    have sm1 : Sm start := ⟨by omega, by omega⟩
    have sm2 : Sm (hs.length : Int) := ⟨by omega, by omega⟩
    have sm0 : Sm 0 := ⟨by decide, by decide⟩
    refine Or.inr ⟨start, hs.length, rfl, sm1, sm2, fun r1 n1 => ?_⟩
    refine Or.inr ⟨r1, start, hs.length, rfl, upd_same, sm1, sm2, (by rw [sizeLine_eq]; omega), fun l1 m1 => ?_⟩
    have s1 := (Same.refl H).upd (o := .rng start hs.length) n1
    have s2 := s1.upd (o := .lst ((rangeL start hs.length).map V.int)) m1
    walk_at "st"
    refine Or.inl ⟨start, rfl, sm1, fun r2 n2 => ?_⟩
    have s3 := s2.upd (o := .rng 0 start) n2
    have k1 := ((Same.refl _).upd (o := .rng 0 start) n2) l1 _ upd_same
    refine Or.inr ⟨r2, 0, start, rfl, upd_same, sm0, sm1, (by rw [sizeLine_eq]; omega), fun l2 m2 => ?_⟩
    have s4 := s3.upd (o := .lst ((rangeL 0 start).map V.int)) m2
    have k2 := ((Same.refl _).upd (o := .lst ((rangeL 0 start).map V.int)) m2) l1 _ k1
    refine Or.inr (Or.inr ⟨l1, l2, _, _, rfl, rfl, k2, upd_same, (by rw [List.length_map, List.length_map, rangeL_length, rangeL_length, sizeLine_eq]; omega), fun l3 n3 => ?_⟩)
    rw [← List.map_append]
    have s5 := s4.upd (o := .lst ((rangeL start hs.length ++ rangeL 0 start).map V.int)) n3
    generalize hU : upd _ l3 (.lst ((rangeL start hs.length ++ rangeL 0 start).map V.int)) = HU at s5 ⊢
    have e3 : HU l3 = some (.lst ((rangeL start hs.length ++ rangeL 0 start).map V.int)) := hU ▸ upd_same
    have q' : ∀ r, r = ffree hs js start → Q (optV r) HU := fun r e => by rw [e]; exact q HU s5
    have RU := R.same s5
    clear hU
    have mem : ∀ k ∈ rangeL start hs.length ++ rangeL 0 start, 0 ≤ k ∧ k < hs.length := fun k hk => by
      rcases List.mem_append.mp hk with h | h <;> obtain ⟨n, hn, rfl⟩ := List.mem_map.mp h <;> have := List.mem_range.mp hn <;> constructor <;> omega
    unfold ffree at q'
    generalize rangeL start hs.length ++ rangeL 0 start = ord at e3 q' mem ⊢
    obtain ⟨dx', fs', hp', F3'⟩ := RU.ins
    walk_at "st"
    refine ⟨⟨_, .of e3⟩, for_list (K := K) (a := l3) (xs := ord.map V.int) (fun i σ H2 => ∃ x, σ = [some (.ref p), some (.int start), x] ∧ H2 = HU ∧ (ord.take i).find? (frB hs js) = none) ⟨none, rfl, rfl, rfl⟩ (fun i σ H2 _ ⟨_, _, e, _⟩ => e ▸ .of e3) ?_ ?_⟩
    · rintro i y σ H2 hi ⟨x, rfl, rfl, hf⟩
      rw [List.getElem?_map] at hi
      cases hk : ord[i]? with
      | none => rw [hk] at hi; cases hi
      | some k =>
        rw [hk] at hi; cases hi
        obtain ⟨k0, k1⟩ := mem k (List.mem_of_getElem? hk)
        obtain ⟨v, e1, e2⟩ := atI_in (xs := hs) k0 k1
        have lj := RU.lj
        obtain ⟨u, e4, e5⟩ := atI_in (xs := js.map V.bl) k0 (by rw [List.length_map]; omega)
        obtain ⟨jb, e6, rfl⟩ : ∃ jb, js[k.toNat]? = some jb ∧ u = .bl jb := by
          rw [List.getElem?_map] at e5
          cases z : js[k.toNat]? with
          | none => rw [z] at e5; cases e5
          | some jb => rw [z] at e5; cases e5; exact ⟨jb, rfl, rfl⟩
        have fr : frB hs js k = (decide (v = .non) && !jb) := by
          unfold frB
          rw [List.getD, e2, List.getD, e6]; rfl
        have tk : (ord.take (i + 1)).find? (frB hs js) = if frB hs js k = true then some k else none := by
          rw [List.take_add_one, hk, List.find?_append, hf]
          show none.or (List.find? (frB hs js) [k]) = _
          rw [List.find?_cons]
          cases frB hs js k <;> rfl
        walk_at "st"
        refine ⟨p, C, dx', fs', _, rfl, hp', R.c.cls, R.c.h, F3'.h, ?_⟩
        walk_at "st"
        refine Or.inl ⟨_, _, _, _, rfl, rfl, .of RU.ha, e1, ?_⟩
        walk_at "st"
        have whole : frB hs js k = true → some k = ord.find? (frB hs js) := fun h => by
          rw [if_pos h] at tk
          conv => rhs; rw [← List.take_append_drop (i + 1) ord]
          rw [List.find?_append, tk]; rfl
        have next : frB hs js k = false → (ord.take (i + 1)).find? (frB hs js) = none := fun h => by rw [tk, h]; rfl
        by_cases hv : v = .non
        · rw [decide_eq_true hv]
          rw [decide_eq_true hv] at fr
          refine iteT ?_
          walk_at "st"
          refine ⟨p, C, dx', fs', _, rfl, hp', R.c.cls, R.c.j, F3'.j, ?_⟩
          walk_at "st"
          refine Or.inl ⟨_, _, _, _, rfl, rfl, .of RU.hb, e4, ?_⟩
          walk_at "st"
          cases jb with
          | false =>
            refine iteT ?_
            walk_at "st"
            exact q' (some k) (whole fr)
          | true =>
            refine iteF ?_
            exact ⟨_, rfl, rfl, next fr⟩
        · rw [decide_eq_false hv]
          rw [decide_eq_false hv] at fr
          refine iteF ?_
          refine iteF ?_
          exact ⟨_, rfl, rfl, next fr⟩
    · rintro σ H2 ⟨x, rfl, rfl, hf⟩
      walk_at "st"
      rw [List.length_map, List.take_length] at hf
      exact q' none hf.symm
end
end Lw
set_option Elab.async false
set_option linter.all false
set_option maxRecDepth 100000
namespace L2
open PySem PySem.Spec PyProof.Rows
section
variable {K : PySem.W.Frag} {a D : Addr} {xs : List V} {g : TG} {tt : TT} {te : TE} {σ0 : St} {H : Hp} {Q : Hp → Prop}
abbrev cTurn (D : Addr) (tt : TT) (te : TE) (N : St → Hp → Prop) : St → Hp → Prop := fun σ3 H3 => tt σ3 H3 fun b H4 =>
  if b = true then te σ3 H4 fun v H5 => ∃ ys, H5 D = some (.lst ys) ∧ ys.length < sizeLine ∧ N σ3 (upd H5 D (.lst (ys ++ [v]))) else N σ3 H4
theorem comp_enum (Pv : Nat → St → Hp → Prop) (h0 : Pv 0 σ0 (upd H D (.lst []))) (hl : ∀ i σ H, i ≤ xs.length → Pv i σ H → SqL K H a xs)
    (hs : ∀ i x t σ H', xs[i]? = some x → Pv i σ H' → H' t = none → g (.ref t) σ (upd H' t (.tup [.int i, x])) (cTurn D tt te (Pv (i + 1)))) (hd : ∀ σ H', Pv xs.length σ H' → Q H') :
    ∃ W : Nat → Nat → St → Hp → Prop, (∃ m, W 0 m σ0 (upd H D (.lst []))) ∧ ∀ i m σ' H', W i m σ' H' →
      ((Ite K a).stop i H' ∧ Q H') ∨ ((Ite K a).go i H' ∧ ∃ N : St → Hp → Prop, (∀ σ2 H2, N σ2 H2 → ∃ m', m' < m ∧ W (i + 1) m' σ2 H2) ∧ ∀ x H2, (Ite K a).yld i H' x H2 → g x σ' H2 fun σ3 H3 => tt σ3 H3 fun b H4 =>
        if b = true then te σ3 H4 fun v H5 => ∃ ys, H5 D = some (.lst ys) ∧ ys.length < sizeLine ∧ N σ3 (upd H5 D (.lst (ys ++ [v]))) else N σ3 H4) := by
  refine ⟨fun i m σ H => m = xs.length - i ∧ i ≤ xs.length ∧ Pv i σ H, ⟨xs.length, by simp, Nat.zero_le _, h0⟩, ?_⟩
  rintro i m σ H1 ⟨rfl, hi, p⟩
  have q := hl i σ H1 hi p
  by_cases hlt : i < xs.length
  · refine .inr ⟨⟨xs, xs[i], q, by simp [hlt]⟩, Pv (i + 1), fun σ' H' p' => ⟨xs.length - (i + 1), by omega, rfl, hlt, p'⟩, fun x H' y => ?_⟩
    obtain ⟨t, y, rfl, ht, rfl, hy⟩ := y
    exact hs i y t σ H1 (hy xs q) p ht
  · have e : i = xs.length := by omega
    subst e
    exact .inl ⟨⟨xs, q, Nat.le_refl _⟩, hd σ H1 p⟩
theorem comp_list (Pv : Nat → St → Hp → Prop) (h0 : Pv 0 σ0 (upd H D (.lst []))) (hl : ∀ i σ H, i ≤ xs.length → Pv i σ H → SqL K H a xs)
    (hs : ∀ i x σ H', xs[i]? = some x → Pv i σ H' → g x σ H' (cTurn D tt te (Pv (i + 1)))) (hd : ∀ σ H', Pv xs.length σ H' → Q H') :
    ∃ W : Nat → Nat → St → Hp → Prop, (∃ m, W 0 m σ0 (upd H D (.lst []))) ∧ ∀ i m σ' H', W i m σ' H' →
      ((Itl K a).stop i H' ∧ Q H') ∨ ((Itl K a).go i H' ∧ ∃ N : St → Hp → Prop, (∀ σ2 H2, N σ2 H2 → ∃ m', m' < m ∧ W (i + 1) m' σ2 H2) ∧ ∀ x H2, (Itl K a).yld i H' x H2 → g x σ' H2 fun σ3 H3 => tt σ3 H3 fun b H4 =>
        if b = true then te σ3 H4 fun v H5 => ∃ ys, H5 D = some (.lst ys) ∧ ys.length < sizeLine ∧ N σ3 (upd H5 D (.lst (ys ++ [v]))) else N σ3 H4) := by
  refine ⟨fun i m σ H => m = xs.length - i ∧ i ≤ xs.length ∧ Pv i σ H, ⟨xs.length, by simp, Nat.zero_le _, h0⟩, ?_⟩
  rintro i m σ H1 ⟨rfl, hi, p⟩
  have q := hl i σ H1 hi p
  by_cases hlt : i < xs.length
  · refine .inr ⟨⟨xs, xs[i], q, by simp [hlt]⟩, Pv (i + 1), fun σ' H' p' => ⟨xs.length - (i + 1), by omega, rfl, hlt, p'⟩, fun x H' y => ?_⟩
    obtain ⟨rfl, hy⟩ := y
    exact hs i x σ _ (hy xs q) p
  · have e : i = xs.length := by omega
    subst e
    exact .inl ⟨⟨xs, q, Nat.le_refl _⟩, hd σ H1 p⟩
theorem comp_range {lo : Int} {n : Nat} (Pv : Nat → St → Hp → Prop) (h0 : Pv 0 σ0 (upd H D (.lst []))) (hs : ∀ i σ H', i < n → Pv i σ H' → g (.int (lo + i)) σ H' (cTurn D tt te (Pv (i + 1)))) (hd : ∀ σ H', Pv n σ H' → Q H') :
    ∃ W : Nat → Nat → St → Hp → Prop, (∃ m, W 0 m σ0 (upd H D (.lst []))) ∧ ∀ i m σ' H', W i m σ' H' →
      ((Itr lo n).stop i H' ∧ Q H') ∨ ((Itr lo n).go i H' ∧ ∃ N : St → Hp → Prop, (∀ σ2 H2, N σ2 H2 → ∃ m', m' < m ∧ W (i + 1) m' σ2 H2) ∧ ∀ x H2, (Itr lo n).yld i H' x H2 → g x σ' H2 fun σ3 H3 => tt σ3 H3 fun b H4 =>
        if b = true then te σ3 H4 fun v H5 => ∃ ys, H5 D = some (.lst ys) ∧ ys.length < sizeLine ∧ N σ3 (upd H5 D (.lst (ys ++ [v]))) else N σ3 H4) := by
  refine ⟨fun i m σ H => m = n - i ∧ i ≤ n ∧ Pv i σ H, ⟨n, by simp, Nat.zero_le _, h0⟩, ?_⟩
  rintro i m σ H1 ⟨rfl, hi, p⟩
  by_cases hlt : i < n
  · refine .inr ⟨hlt, Pv (i + 1), fun σ' H' p' => ⟨n - (i + 1), by omega, rfl, hlt, p'⟩, fun x H' y => ?_⟩
    obtain ⟨rfl, rfl⟩ := y
    exact hs i σ _ hlt p
  · have e : i = n := by omega
    subst e
    exact .inl ⟨Nat.le_refl _, hd σ H1 p⟩
end
end L2
set_option Elab.async false
set_option linter.all false
set_option maxRecDepth 100000
namespace L2
open PySem PySem.Spec PyProof.Rows
section
variable {X : Cx} (K : PySem.W.Frag) (h : X.K = K)
include h
theorem ix_seqB : IxR X (rIx K) := h ▸ ix_seq
theorem op_eqGB (hu : X.A.units + 64 < cLine) : OpR X (compareOp .Eq) (fun x y H Q => rEq x y H Q ∨ rEqD K false x y H Q) := h ▸ op_eqG hu
theorem call_lenGB : CallR X (.builtin "len") (fun xs H Q => (∃ z, xs = [.str z] ∧ z.length ≤ sizeLine ∧ Q (.int z.length) H) ∨ ∃ p ys, xs = [.ref p] ∧ (SqL K H p ys ∨ SqT K H p ys) ∧ Q (.int ys.length) H) := h ▸ call_lenG
theorem pg_tupB (n : Nat) {es : List Expr} {k : Nat} {pos : Pos} {t : TGs} (hc : X.calm = true) (hg : PGs X es t) (hn : (assignEach es X.env).length = n) (hst : (assignEach es X.env).findIdx? (·.1) = none) : PG X (.Tuple es k pos) (gTup K n t) := h ▸ pg_tup hc hg hn hst
theorem op_inGB : OpR X (compareOp .In) (fun x y H Q => (∃ i j, x = .str i ∧ y = .str j ∧ Q (.bl (inS i j)) H) ∨ rIn K false x y H Q) := h ▸ op_inG
end
end L2
set_option Elab.async false
set_option linter.all false
set_option maxRecDepth 100000
set_option maxHeartbeats 4000000
namespace Lw
open PySem L2
local macro_rules | `(tactic| walk_at "st") => `(tactic| repeat (first
  | refine ⟨_, rfl, ?_⟩
  | refine ⟨_, _, rfl, rfl, ?_⟩
  | refine ⟨_, _, rfl, ?_⟩
  | refine Or.inl ⟨_, _, rfl, rfl, ?_⟩
  | refine Or.inl ⟨rfl, ?_⟩
  | refine ⟨rfl, ?_⟩
  | refine Or.inl ⟨_, _, _, _, rfl, rfl, .of (by assumption), rfl, ?_⟩
  | (refine And.intro (show CMul _ _ from ?_) ?_; (first | exact Or.inr ⟨by omega, by omega⟩ | exact Or.inl ⟨by omega, by omega⟩))
  | (refine And.intro (show CDiv _ _ from ?_) ?_; exact ⟨by omega, by omega⟩)
  | (refine And.intro (show (0 : Int) < _ from ?_) ?_; first | decide | omega)))
def stuckN (js : List Bool) (n : Nat) : List Int := ((List.range n).filter fun k => js.getD k false).map fun (k : Nat) => (k : Int)
theorem stuckN_succ (js : List Bool) (n : Nat) : stuckN js (n + 1) = stuckN js n ++ if js.getD n false = true then [(n : Int)] else [] := by
  unfold stuckN
  rw [List.range_succ, List.filter_append, List.map_append]
  congr 1
  rw [List.filter_cons, List.filter_nil]
  by_cases h : js.getD n false = true
  · rw [if_pos h, if_pos h]; rfl
  · rw [if_neg h, if_neg h]; rfl
theorem stuckN_len (js : List Bool) (n : Nat) : (stuckN js n).length ≤ n := by
  unfold stuckN
  rw [List.length_map]
  have := List.length_filter_le (fun k => js.getD k false) (List.range n)
  rwa [List.length_range] at this
def spStuck (K : PySem.W.Frag) (a : Adr) : Sp := fun vs H Q _ => ∃ (p C ra rb rc : Addr) (hs : List V) (js : List Bool) (ts : List Int), vs = [.ref p] ∧ Rack K a H p C ra rb rc hs js ts ∧
  ∀ H' r, Same H H' → H r = none → H' r = some (.lst ((stuckN js js.length).map V.int)) → Q (.ref r) H'
theorem inV_int (i : Int) (ks : List Int) : inV (.int i) (ks.map V.int) = decide (i ∈ ks) := by
  unfold inV
  rw [List.any_map, Bool.eq_iff_iff, List.any_eq_true, decide_eq_true_eq]
  constructor
  · rintro ⟨k, hk, e⟩
    have e' : (k == i) = true := e
    rw [← beq_iff_eq.mp e']; exact hk
  · exact fun h => ⟨i, h, (beq_self_eq_true i : (i == i) = true)⟩
theorem flat_int (ks : List Int) : (ks.map V.int).all flatV = true := by
  rw [List.all_map, List.all_eq_true]
  exact fun _ _ => rfl
section
variable {P : Program} {w : World} {K : PySem.W.Frag} {mg : Str → Option Value} {base : Heap} {a : Adr}
theorem sc_Switches_stuck : FnScope ["self"] ["self"] (defScope (inClass (top 7) 8)) := ⟨rfl, rfl, rfl, by decide +kernel, rfl, by decide +kernel, by decide +kernel⟩
theorem nm_Switches_stuck_self : Nm (defScope (inClass (top 7) 8)) "self" := ⟨by decide +kernel, by decide +kernel, by decide +kernel⟩
theorem gm_Switches_stuck_enumerate : Gm (defScope (inClass (top 7) 8)) "enumerate" := ⟨by decide +kernel, by decide +kernel, by decide +kernel⟩
def csc_Switches_stuck_0 : Scope := { kind := .function, names := [(".0", .local), ("k", .local), ("jammed", .local)], isGenerator := false, isCoroutine := false, more := [] }
theorem cs_Switches_stuck_0 : CompSc csc_Switches_stuck_0 (defScope (inClass (top 7) 8)) ["k", "jammed"] ["self"] [none, none] := CompSc.mk' rfl (by decide +kernel) (by decide +kernel) (by decide +kernel) (by decide +kernel) rfl (by decide +kernel)
theorem nmc_Switches_stuck_0_k : Nm csc_Switches_stuck_0 "k" := ⟨by decide +kernel, by decide +kernel, by decide +kernel⟩
theorem nmc_Switches_stuck_0_jammed : Nm csc_Switches_stuck_0 "jammed" := ⟨by decide +kernel, by decide +kernel, by decide +kernel⟩
theorem ok_stuck {f : Addr} {fd : FuncData} (F : Fun K "stuck" "Switches.stuck" (inClass (top 7) 8) f fd) (T : TxtS K mg a) : FnOk P w K mg base CX0 1 f fd ["self"] (spStuck K a) := by
  refine F.ok sc_Switches_stuck (fun vs H Q E h => ?_) (fun cdv A outer s H vs Q E hr h => ?_)
  · obtain ⟨p, C, ra, rb, rc, hs, js, ts, rfl, _⟩ := h
    rfl
  · obtain ⟨p, C, ra, rb, rc, hs, js, ts, rfl, R, q⟩ := h
    obtain ⟨dx, fs, hp, F3⟩ := R.ins
    have hz := R.z
    have hj := R.lj
    refine ⟨_, (@pss_one _ _ _ (ps_ret (pe_comp rfl cs_Switches_stuck_0 (pi_enum gm_Switches_stuck_enumerate T.n_enumerate (pa_cons (pe_fld (pvN 0 nm_Switches_stuck_self) rfl) pa_nil)) (fun cl C fp pins s₂ H₂ => (pg_tupB (X := cxComp _ _ _ cl C fp pins s₂ H₂) K rfl 2 rfl (pgs_cons (pg_nm 0 cs_Switches_stuck_0.nd nmc_Switches_stuck_0_k.comp) (pgs_cons (pg_nm 1 cs_Switches_stuck_0.nd nmc_Switches_stuck_0_jammed.comp) pgs_nil)) rfl rfl)) (fun cl C fp pins s₂ H₂ => (pts_one (pt_val (pvN 1 nmc_Switches_stuck_0_jammed.comp)))) (fun cl C fp pins s₂ H₂ => (pvN 0 nmc_Switches_stuck_0_k.comp))))), ?_⟩
    walk_at "st"
    refine ⟨p, C, dx, fs, _, rfl, hp, R.c.cls, R.c.j, F3.j, ?_⟩
    refine ⟨_, _, rfl, .of R.hb, fun D hD => ?_⟩
    refine comp_enum (K := K) (a := rb) (xs := js.map V.bl) (fun i σ H' => ∃ x y, σ = [x, y] ∧ Same H H' ∧ H' D = some (.lst ((stuckN js i).map V.int))) ⟨none, none, rfl, (Same.refl H).upd hD, upd_same⟩ (fun i σ H' _ ⟨_, _, _, sm, _⟩ => .of (sm _ _ R.hb)) ?_ ?_
    · rintro i x t σ H' hi ⟨x0, x1, rfl, sm, hL⟩ ht
      rw [List.getElem?_map] at hi
      cases hk : js[i]? with
      | none => rw [hk] at hi; cases hi
      | some jb =>
        rw [hk] at hi; cases hi
        have eg : js.getD i false = jb := by rw [List.getD, hk]; rfl
        have ilt : i < js.length := (List.getElem?_eq_some_iff.mp hk).1
        refine ⟨t, _, rfl, .of upd_same, rfl, ?_⟩
        walk_at "st"
        have hL2 := ((Same.refl H').upd (o := .tup [.int i, .bl jb]) ht) D _ hL
        have sm2 := sm.upd (o := .tup [.int i, .bl jb]) ht
        cases jb with
        | true =>
          refine iteT ?_
          walk_at "st"
          refine ⟨_, hL2, ?_, _, _, rfl, sm2.updN hD, ?_⟩
          · rw [List.length_map, sizeLine_eq]; have := stuckN_len js i; omega
          · rw [upd_same, stuckN_succ, eg, if_pos rfl, List.map_append]; rfl
        | false =>
          refine iteF ?_
          refine ⟨_, _, rfl, sm2, ?_⟩
          rw [hL2, stuckN_succ, eg, if_neg (by decide), List.append_nil]
    · rintro σ H' ⟨x0, x1, rfl, sm, hL⟩
      rw [List.length_map] at hL
      exact q H' D sm hD hL
end
end Lw
set_option Elab.async false
set_option linter.all false
set_option maxRecDepth 100000
namespace L2
open PySem PySem.Spec PyProof.Rows
section
variable {κ : Type} [DecidableEq κ]
end
section
variable {P : Program} {w : World} {H : Hp} {h : Heap} {a : Addr}
end
section
variable {X : Cx} {pins : List (Addr × Obj)} {σ : St} {H : Hp} {s : Shared} {a : Addr} {y v : V} {u r : Value} {o : Option V} {A : Around} {E : Value → Shared → Prop}
end
section
variable {X : Cx} {pins : List (Addr × Obj)} {σ : St} {H : Hp} {s : Shared} {a : Addr} {kvs : List (Key × V)} {k : Key} {u : Value} {A : Around} {E : Value → Shared → Prop}
end
section
variable {X : Cx} {o i e value : Expr} {pos pos' tpos : Pos} {td ty tv : TE}
end
section
variable {X : Cx} {pos : Pos}
end
structure M1 (X : Cx) (o : Expr) (m : Str) (apos : Pos) (e : Expr) (cpos : Pos) : Prop where
  base : attributeBase o m X.env (eval o X.env) = eval o X.env
  few : ((backTo cpos (starEach [e] X.env)).all (fun x => !x.1) && (backToKw cpos (keywordEach [] X.env)).all (fun x => x.1.isSome)
    && decide (([e] : List Expr).length + ([] : List Keyword).length + (if ([] : List Keyword).isEmpty then 0 else 1) < 30)) = true
  line : (apos.endLine == cpos.line) = true
  trees : backTo cpos (starEach [e] X.env) = [(false, eval e X.env)]
structure M2 (X : Cx) (o : Expr) (m : Str) (apos : Pos) (e f : Expr) (cpos : Pos) : Prop where
  base : attributeBase o m X.env (eval o X.env) = eval o X.env
  few : ((backTo cpos (starEach [e, f] X.env)).all (fun x => !x.1) && (backToKw cpos (keywordEach [] X.env)).all (fun x => x.1.isSome)
    && decide (([e, f] : List Expr).length + ([] : List Keyword).length + (if ([] : List Keyword).isEmpty then 0 else 1) < 30)) = true
  line : (apos.endLine == cpos.line) = true
  trees : backTo cpos (starEach [e, f] X.env) = [(false, eval e X.env), (false, eval f X.env)]
section
variable {X : Cx} {pins : List (Addr × Obj)} {σ : St} {H : Hp} {s : Shared} {a : Addr} {y d : V} {u r : Value} {o : Option V} {A : Around} {E : Value → Shared → Prop}
end
section
variable {X : Cx} {o e f : Expr} {apos cpos : Pos} {td ty tx : TE}
end
section
variable {X : Cx} {pins : List (Addr × Obj)} {σ : St} {H : Hp} {s : Shared} {a : Addr} {kvs : List (Key × V)} {A : Around} {E : Value → Shared → Prop}
end
section
variable {X : Cx} {pins : List (Addr × Obj)} {σ : St} {H : Hp} {s : Shared} {a : Addr} {y : V} {u : Value} {A : Around} {E : Value → Shared → Prop}
end
end L2
namespace L2
open PySem PySem.Spec PyProof.Rows
section
variable {X : Cx}
end
section
variable {κ : Type} [DecidableEq κ]
end
end L2
set_option Elab.async false
set_option linter.all false
set_option maxRecDepth 100000
namespace L2
open PySem PySem.Spec PyProof.Rows
structure CFn (K : PySem.W.Frag) (C f : Addr) (m : Str) : Prop where
  rd : PySem.W.readsIn K C (.type "type") = true
  sp : PySem.W.specialIn K (.ref C) "__getattribute__" = some (some (.builtin "type.__getattribute__"))
  fd : PySem.W.findCls K (.ref C) (.type "type") m = some (.val (.ref f))
  ty : PySem.W.typeIn K (.ref f) = some (.type "function")
  kp : PySem.W.keepIn K (.ref f) = true
section
variable {X : Cx} {CX : CXT} {k : Nat} {f C : Addr} {fd : FuncData} {ps : List Str} {sp : Sp} {E : XK} {x m : Str} {p pos apos : Pos} {e : Expr} {es : List Expr} {t : TA}
theorem pe_cfn {pl : Sem Bool} (c : CFn X.K C f m) (g : Gm X.env.scope x) (hm : X.mg x = some (.ref C)) (F : FnOk X.prog X.w X.K X.mg X.base CX k f fd ps sp) (hb : Binds X.K fd ps []) (hr : Room k X.A) (hx : Passes CX X E) (ha : PA X (e :: es) t)
    (hst : starEach (e :: es) X.env = (false, eval e X.env) :: starEach es X.env := by rfl) (hpl : (backTo pos (starEach es X.env)).any (·.1) = false := by rfl)
    (ht : eval (.Call (.Attribute (.Name x p) m apos) (e :: es) [] pos) X.env = (eval (.Name x p) X.env >>= fun ov => standAt apos.atName >>= fun _ => holding [ov] (getMethod ov m pl) >>= fun ff => callWith pos ff.1 ff.2 (backTo pos (starEach (e :: es) X.env)) (backToKw pos (keywordEach [] X.env))) := by rfl) :
    PE X (.Call (.Attribute (.Name x p) m apos) (e :: es) [] pos) (tCall sp [] E t) := by
  intro pins s σ H Q I h
  refine PySem.W.methodCall_KW (pl := pl) ?_ ht
  have pn : PE X (.Name x p) (tC (.ref C)) := pe_gm g hm rfl
  refine thn (pn pins s σ H (fun v H1 => v = .ref C ∧ H1 = H) I ⟨rfl, rfl⟩) fun u s1 ⟨v, H1, I1, rv, e1, e2⟩ => ?_
  subst e1 e2
  cases rv
  refine PySem.W.method_cls I1.kIn c.sp (PySem.W.cls_value I1.kIn c.rd c.fd rfl ?_)
  have I2 := I1.tok (s1.toks + 1)
  refine PySem.W.callWith_K (first := []) (h₀ := X.base) I.ok.mod.kin c.kp (thn (ha pos pins _ σ _ _ I2 h) fun us s2 ⟨vs, H2, I3, r, q⟩ => ⟨I3.kIn, ?_⟩) hst hpl
  exact run_fn F hr hb .nil hx I3 r q
end
end L2
set_option Elab.async false
set_option linter.all false
set_option maxRecDepth 100000
namespace L2
open PySem PySem.Spec PyProof.Rows
theorem ints_vals : ∀ {vs : List Value} {ns : List Int}, IntsAre vs ns → Vals (ns.map V.int) vs
  | _, _, .nil => .nil
  | _, _, .cons n t r => .cons ⟨t, rfl⟩ (ints_vals r)
theorem vals_intsA : ∀ {ns : List Int} {vs : List Value}, Vals (ns.map V.int) vs → IntsAre vs ns
  | [], _, .nil => .nil
  | n :: ns, _, .cons r t => by
    obtain ⟨tk, rfl⟩ := r
    exact .cons n tk (vals_intsA t)
section
variable {X : Cx}
end
end L2
set_option Elab.async false
set_option linter.all false
set_option maxRecDepth 100000
set_option maxHeartbeats 4000000
namespace Lw
open PySem L2
local macro_rules | `(tactic| walk_at "st") => `(tactic| repeat (first
  | refine ⟨_, rfl, ?_⟩
  | refine ⟨_, _, rfl, rfl, ?_⟩
  | refine ⟨_, _, rfl, ?_⟩
  | refine Or.inl ⟨_, _, rfl, rfl, ?_⟩
  | refine Or.inl ⟨rfl, ?_⟩
  | refine ⟨rfl, ?_⟩
  | refine Or.inl ⟨_, _, _, _, rfl, rfl, .of (by assumption), rfl, ?_⟩
  | (refine And.intro (show CMul _ _ from ?_) ?_; (first | exact Or.inr ⟨by omega, by omega⟩ | exact Or.inl ⟨by omega, by omega⟩))
  | (refine And.intro (show CDiv _ _ from ?_) ?_; exact ⟨by omega, by omega⟩)
  | (refine And.intro (show (0 : Int) < _ from ?_) ?_; first | decide | omega)))
theorem mem_order {n : Nat} {start k : Int} (h0 : 0 ≤ start) (h1 : start ≤ n) (h : k ∈ rangeL start n ++ rangeL 0 start) : 0 ≤ k ∧ k < n := by
  rcases List.mem_append.mp h with h | h <;> obtain ⟨m, hm, rfl⟩ := List.mem_map.mp h <;> have := List.mem_range.mp hm <;> constructor <;> omega
theorem ffree_in {hs : List V} {js : List Bool} {start k : Int} (h0 : 0 ≤ start) (h1 : start ≤ hs.length) (h : ffree hs js start = some k) : (0 ≤ k ∧ k < hs.length) ∧ frB hs js k = true := ⟨mem_order h0 h1 (List.mem_of_find?_eq_some h), List.find?_some h⟩
structure SkC (K : PySem.W.Frag) (a : Adr) (C : Addr) : Prop where
  c : SwC K a C
  p : NoAttr K C "places"
  s : NoAttr K C "stands"
  w : NoAttr K C "went"
  m : NoAttr K C "mark_at"
def sekF (ra rb rc : Addr) (places : Int) (rs rw : Addr) (mark : Int) : List (Str × V) := [("held_by", .ref ra), ("jammed", .ref rb), ("taken", .ref rc), ("places", .int places), ("stands", .ref rs), ("went", .ref rw), ("mark_at", .int mark)]
theorem fs_sek (ra rb rc : Addr) (places : Int) (rs rw : Addr) (mark : Int) : Fs (sekF ra rb rc places rs rw mark) ra rb rc := by
  refine ⟨rfl, rfl, rfl, fun x hx => ?_⟩
  simp only [List.mem_cons, List.not_mem_nil, or_false] at hx
  rcases hx with rfl | rfl | rfl | rfl | rfl | rfl | rfl | rfl | rfl | rfl | rfl <;> rfl
structure Sek (K : PySem.W.Frag) (a : Adr) (H : Hp) (p C ra rb rc rs rw : Addr) (hs : List V) (js : List Bool) (ts : List Int) (places mark : Int) (st wt : List Int) : Prop where
  ins : ∃ dx, H p = some (.ins C dx (sekF ra rb rc places rs rw mark))
  cs : SkC K a C
  ha : H ra = some (.lst hs)
  hb : H rb = some (.lst (js.map V.bl))
  hc : H rc = some (.lst (ts.map V.int))
  hs_ : H rs = some (.lst (st.map V.int))
  hw : H rw = some (.lst (wt.map V.int))
  ap : [ra, rb, rc, rs, rw].Nodup
  lj : js.length = hs.length
  lt : ts.length = hs.length
  ls : st.length = hs.length
  lw : wt.length = hs.length
  z : hs.length ≤ 1000
theorem Sek.r {K : PySem.W.Frag} {a : Adr} {H : Hp} {p C ra rb rc rs rw : Addr} {hs : List V} {js : List Bool} {ts : List Int} {places mark : Int} {st wt : List Int} (k : Sek K a H p C ra rb rc rs rw hs js ts places mark st wt) : Rack K a H p C ra rb rc hs js ts := by
  obtain ⟨dx, e⟩ := k.ins
  have ap := k.ap
  simp only [List.nodup_cons, List.mem_cons, List.not_mem_nil, or_false, not_or, not_false_eq_true, List.nodup_nil, and_true] at ap
  obtain ⟨⟨a1, a2, a3, a4⟩, ⟨b1, b2, b3⟩, ⟨c1, c2⟩, d1⟩ := ap
  exact ⟨⟨dx, _, e, fs_sek ..⟩, k.cs.c, k.ha, k.hb, k.hc, a1, a2, b1, k.lj, k.lt, k.z⟩
theorem Sek.same {K : PySem.W.Frag} {a : Adr} {H H' : Hp} {p C ra rb rc rs rw : Addr} {hs : List V} {js : List Bool} {ts : List Int} {places mark : Int} {st wt : List Int} (k : Sek K a H p C ra rb rc rs rw hs js ts places mark st wt) (s : Same H H') : Sek K a H' p C ra rb rc rs rw hs js ts places mark st wt := by
  obtain ⟨dx, e⟩ := k.ins
  exact ⟨⟨dx, s _ _ e⟩, k.cs, s _ _ k.ha, s _ _ k.hb, s _ _ k.hc, s _ _ k.hs_, s _ _ k.hw, k.ap, k.lj, k.lt, k.ls, k.lw, k.z⟩
def spInitS (K : PySem.W.Frag) (a : Adr) : Sp := fun vs H Q _ => ∃ (p : Addr) (many places : Int) (C dx : Addr), vs = [.ref p, .int many, .int places] ∧ H p = some (.ins C dx []) ∧ SkC K a C ∧ 0 ≤ many ∧ many ≤ 1000 ∧
  ∀ H' ra rb rc rs rw, SameX [p] H H' → Sek K a H' p C ra rb rc rs rw (List.replicate many.toNat .non) (List.replicate many.toNat false) (List.replicate many.toNat 0) places 0 (List.replicate many.toNat 0) (List.replicate many.toNat 0) → H ra = none → H rb = none → H rc = none → H rs = none → H rw = none → Q .non H'
def spSteps (K : PySem.W.Frag) (a : Adr) : Sp := fun vs H Q _ => ∃ (p C ra rb rc rs rw : Addr) (hs : List V) (js : List Bool) (ts : List Int) (places mark : Int) (st wt : List Int), vs = [.ref p] ∧ Sek K a H p C ra rb rc rs rw hs js ts places mark st wt ∧ ∀ l, H l = none → Q (.ref l) (upd H l (.lst (wt.map V.int)))
def spTakeS (K : PySem.W.Frag) (a : Adr) : Sp := fun vs H Q _ => ∃ (p C ra rb rc rs rw : Addr) (hs : List V) (js : List Bool) (ts : List Int) (places mark : Int) (st wt : List Int) (place : Int), vs = [.ref p, .int place] ∧ Sek K a H p C ra rb rc rs rw hs js ts places mark st wt ∧ 0 ≤ mark ∧ mark ≤ hs.length ∧ 0 < places ∧
  match ffree hs js mark with
  | none => ∀ H', Same H H' → Q .non H'
  | some k => ∀ H' t, SameX [p, ra, rc, rs, rw] H H' → H t = none → H' t = some (.tup [.int k, .int ((place - st.getD k.toNat 0) % places)]) →
      Sek K a H' p C ra rb rc rs rw (hs.set k.toNat (.int place)) js (ts.set k.toNat (ts.getD k.toNat 0 + 1)) places ((k + 1) % hs.length) (st.set k.toNat place) (wt.set k.toNat (wt.getD k.toNat 0 + (place - st.getD k.toNat 0) % places)) → Q (.ref t) H'
structure TxtK (K : PySem.W.Frag) (mg : Str → Option Value) (a : Adr) : Prop extends TxtS K mg a where
  g_Switches : mg "Switches" = some (.ref a.Switches)
section
variable {P : Program} {w : World} {K : PySem.W.Frag} {mg : Str → Option Value} {base : Heap} {a : Adr}
theorem sc_Seekers_steps : FnScope ["self"] ["self"] (defScope (inClass (top 9) 3)) := ⟨rfl, rfl, rfl, by decide +kernel, rfl, by decide +kernel, by decide +kernel⟩
theorem nm_Seekers_steps_self : Nm (defScope (inClass (top 9) 3)) "self" := ⟨by decide +kernel, by decide +kernel, by decide +kernel⟩
theorem gm_Seekers_steps_list : Gm (defScope (inClass (top 9) 3)) "list" := ⟨by decide +kernel, by decide +kernel, by decide +kernel⟩
theorem ok_steps {f : Addr} {fd : FuncData} (F : Fun K "steps" "Seekers.steps" (inClass (top 9) 3) f fd) (T : TxtK K mg a) : FnOk P w K mg base CX0 1 f fd ["self"] (spSteps K a) := by
  refine F.ok sc_Seekers_steps (fun vs H Q E h => ?_) (fun cdv A outer s H vs Q E hr h => ?_)
  · obtain ⟨p, C, ra, rb, rc, rs, rw, hs, js, ts, places, mark, st, wt, rfl, _⟩ := h
    rfl
  · obtain ⟨p, C, ra, rb, rc, rs, rw, hs, js, ts, places, mark, st, wt, rfl, k, q⟩ := h
    obtain ⟨dx, e⟩ := k.ins
    refine ⟨_, (@pss_one _ _ _ (ps_ret (pe_ct (call_listG rfl) gm_Seekers_steps_list T.n_list bt_list (pa_cons (pe_fld (pvN 0 nm_Seekers_steps_self) rfl) pa_nil)))), ?_⟩
    walk_at "st"
    refine ⟨p, C, dx, _, _, rfl, e, k.cs.c.cls, k.cs.w, rfl, ?_⟩
    walk_at "st"
    exact Or.inl ⟨_, _, rfl, .inl (.of k.hw), fun l hl => q l hl⟩
theorem sc_Seekers___init__ : FnScope ["self", "many", "places"] ["self", "many", "places"] (defScope (inClass (top 9) 0)) := ⟨rfl, rfl, rfl, by decide +kernel, rfl, by decide +kernel, by decide +kernel⟩
theorem nm_Seekers___init___self : Nm (defScope (inClass (top 9) 0)) "self" := ⟨by decide +kernel, by decide +kernel, by decide +kernel⟩
theorem nm_Seekers___init___many : Nm (defScope (inClass (top 9) 0)) "many" := ⟨by decide +kernel, by decide +kernel, by decide +kernel⟩
theorem nm_Seekers___init___places : Nm (defScope (inClass (top 9) 0)) "places" := ⟨by decide +kernel, by decide +kernel, by decide +kernel⟩
theorem gm_Seekers___init___Switches : Gm (defScope (inClass (top 9) 0)) "Switches" := ⟨by decide +kernel, by decide +kernel, by decide +kernel⟩
theorem ok_initS {f : Addr} {fd : FuncData} (F : Fun K "__init__" "Seekers.__init__" (inClass (top 9) 0) f fd) (T : TxtK K mg a) {fi : Addr} {fdi : FuncData} (CF___init__ : CFn K a.Switches fi "__init__") (FO___init__ : FnOk P w K mg base CX0 1 fi fdi ["self", "many"] (spInit K a)) (B___init__ : Binds K fdi ["self", "many"] []) :
    FnOk P w K mg base CX0 2 f fd ["self", "many", "places"] (spInitS K a) := by
  refine F.ok sc_Seekers___init__ (fun vs H Q E h => ?_) (fun cdv A outer s H vs Q E hr h => ?_)
  · obtain ⟨p, many, places, C, dx, rfl, _⟩ := h
    rfl
  · obtain ⟨p, many, places, C, dx, rfl, hp, cs, h0, h1, q⟩ := h
    refine ⟨_, (@pss_cons _ _ _ _ _ (ps_expr (pe_cfn CF___init__ gm_Seekers___init___Switches T.g_Switches FO___init__ B___init__ (hr.mono (by decide)) pass0 (pa_cons (pvN 0 nm_Seekers___init___self) (pa_cons (pvN 1 nm_Seekers___init___many) pa_nil))))
        (pss_cons (ps_fld (pvN 0 nm_Seekers___init___self) (pvN 2 nm_Seekers___init___places) rfl)
        (pss_cons (ps_fld (pvN 0 nm_Seekers___init___self) (pe_op op_mulG (pe_lst (pa_cons pe_int pa_nil)) (pvN 1 nm_Seekers___init___many)) rfl)
        (pss_cons (ps_fld (pvN 0 nm_Seekers___init___self) (pe_op op_mulG (pe_lst (pa_cons pe_int pa_nil)) (pvN 1 nm_Seekers___init___many)) rfl)
        (pss_one (ps_fld (pvN 0 nm_Seekers___init___self) pe_int rfl)))))), ?_⟩
    walk_at "st"
    refine ⟨p, many, C, dx, rfl, hp, cs.c, h0, by omega, fun H1 ra rb rc x0 hp1 fa fb fc ha hb hc ab ac bc => ?_⟩
    walk_at "st"
    refine ⟨p, C, dx, _, rfl, hp1, cs.c.cls, cs.p, (by show 3 < 1000; decide), ?_⟩
    generalize hP : upd H1 p (.ins C dx (putF "places" (.int places) (rackF ra rb rc))) = H2
    have p0 : H2 p = some (.ins C dx ([("held_by", .ref ra), ("jammed", .ref rb), ("taken", .ref rc), ("places", .int places)])) := hP ▸ upd_same
    have x1' : SameX [p] H1 H2 := fun b o hb e => by rw [← hP, upd_ne (by simpa using hb)]; exact e
    walk_at "st"
    refine ⟨(by show 1 ≤ sizeLine; decide), fun l1 nl1 => ?_⟩
    walk_at "st"
    refine Or.inr (Or.inr ⟨l1, many, [.int 0], rfl, rfl, upd_same, by omega, by omega, (by rw [List.length_singleton, sizeLine_eq]; omega), fun l2 nl2 => ?_⟩)
    rw [rep_flat]
    generalize hA1 : upd H2 l1 (.lst [.int 0]) = HA1 at nl2 ⊢
    have sA1 : Same H2 HA1 := hA1 ▸ (Same.refl H2).upd nl1
    generalize hB1 : upd HA1 l2 (.lst (List.replicate many.toNat (V.int 0))) = HB1
    have sB1 : Same H2 HB1 := hB1 ▸ sA1.upd nl2
    have e1 : HB1 l2 = some (.lst (List.replicate many.toNat (V.int 0))) := hB1 ▸ upd_same
    have f1 : H2 l2 = none := sA1.free nl2
    walk_at "st"
    refine ⟨p, C, dx, ([("held_by", .ref ra), ("jammed", .ref rb), ("taken", .ref rc), ("places", .int places)]), rfl, sB1 _ _ p0, cs.c.cls, cs.s, (by show 4 < 1000; decide), ?_⟩
    generalize hC1 : upd HB1 p (.ins C dx (putF "stands" (.ref l2) ([("held_by", .ref ra), ("jammed", .ref rb), ("taken", .ref rc), ("places", .int places)]))) = HC1
    have p1 : HC1 p = some (.ins C dx ([("held_by", .ref ra), ("jammed", .ref rb), ("taken", .ref rc), ("places", .int places), ("stands", .ref l2)])) := hC1 ▸ upd_same
    have x1 : SameX [p] H2 HC1 := fun b o hb e => by rw [← hC1, upd_ne (by simpa using hb)]; exact sB1 b o e
    have np1 : l2 ≠ p := fun z => by rw [z, p0] at f1; cases f1
    have c1 : HC1 l2 = some (.lst (List.replicate many.toNat (V.int 0))) := by rw [← hC1, upd_ne np1]; exact e1
    walk_at "st"
    refine ⟨(by show 1 ≤ sizeLine; decide), fun l3 nl3 => ?_⟩
    walk_at "st"
    refine Or.inr (Or.inr ⟨l3, many, [.int 0], rfl, rfl, upd_same, by omega, by omega, (by rw [List.length_singleton, sizeLine_eq]; omega), fun l4 nl4 => ?_⟩)
    rw [rep_flat]
    generalize hA2 : upd HC1 l3 (.lst [.int 0]) = HA2 at nl4 ⊢
    have sA2 : Same HC1 HA2 := hA2 ▸ (Same.refl HC1).upd nl3
    generalize hB2 : upd HA2 l4 (.lst (List.replicate many.toNat (V.int 0))) = HB2
    have sB2 : Same HC1 HB2 := hB2 ▸ sA2.upd nl4
    have e2 : HB2 l4 = some (.lst (List.replicate many.toNat (V.int 0))) := hB2 ▸ upd_same
    have f2 : HC1 l4 = none := sA2.free nl4
    walk_at "st"
    refine ⟨p, C, dx, ([("held_by", .ref ra), ("jammed", .ref rb), ("taken", .ref rc), ("places", .int places), ("stands", .ref l2)]), rfl, sB2 _ _ p1, cs.c.cls, cs.w, (by show 5 < 1000; decide), ?_⟩
    generalize hC2 : upd HB2 p (.ins C dx (putF "went" (.ref l4) ([("held_by", .ref ra), ("jammed", .ref rb), ("taken", .ref rc), ("places", .int places), ("stands", .ref l2)]))) = HC2
    have p2 : HC2 p = some (.ins C dx ([("held_by", .ref ra), ("jammed", .ref rb), ("taken", .ref rc), ("places", .int places), ("stands", .ref l2), ("went", .ref l4)])) := hC2 ▸ upd_same
    have x2 : SameX [p] HC1 HC2 := fun b o hb e => by rw [← hC2, upd_ne (by simpa using hb)]; exact sB2 b o e
    have np2 : l4 ≠ p := fun z => by rw [z, p1] at f2; cases f2
    have c2 : HC2 l4 = some (.lst (List.replicate many.toNat (V.int 0))) := by rw [← hC2, upd_ne np2]; exact e2
    walk_at "st"
    refine ⟨p, C, dx, _, rfl, p2, cs.c.cls, cs.m, (by show 6 < 1000; decide), ?_⟩
    have one : ∀ {b : Addr}, b ≠ p → b ∉ [p] := fun h z => h (by simpa using z)
    have npa : ra ≠ p := fun z => by rw [z, hp] at fa; cases fa
    have npb : rb ≠ p := fun z => by rw [z, hp] at fb; cases fb
    have npc : rc ≠ p := fun z => by rw [z, hp] at fc; cases fc
    have up : SameX [p] HC2 (upd HC2 p (.ins C dx (putF "mark_at" (.int 0) ([("held_by", .ref ra), ("jammed", .ref rb), ("taken", .ref rc), ("places", .int places), ("stands", .ref l2), ("went", .ref l4)])))) := fun b o hb e => by rw [upd_ne (by simpa using hb)]; exact e
    have t1 : ∀ {b o}, b ≠ p → H1 b = some o → (upd HC2 p (.ins C dx (putF "mark_at" (.int 0) ([("held_by", .ref ra), ("jammed", .ref rb), ("taken", .ref rc), ("places", .int places), ("stands", .ref l2), ("went", .ref l4)])))) b = some o := fun h e => up _ _ (one h) (x2 _ _ (one h) (x1 _ _ (one h) (x1' _ _ (one h) e)))
    have back : ∀ {b}, b ≠ p → H2 b = none → H1 b = none := fun {b} h e => by
      cases z : H1 b with
      | none => rfl
      | some o => rw [x1' _ _ (one h) z] at e; cases e
    have back0 : ∀ {b}, b ≠ p → H1 b = none → H b = none := fun {b} h e => by
      cases z : H b with
      | none => rfl
      | some o => rw [x0 _ _ (one h) z] at e; cases e
    have back1 : ∀ {b}, b ≠ p → HC1 b = none → H2 b = none := fun {b} h e => by
      cases z : H2 b with
      | none => rfl
      | some o => rw [x1 _ _ (one h) z] at e; cases e
    have g2 := back np1 f1
    have g4 := back np2 (back1 np2 f2)
    have z2 : ∀ {b o}, H1 b = some o → b ≠ l2 := fun e => ne_of_none e g2
    have z4 : ∀ {b o}, H1 b = some o → b ≠ l4 := fun e => ne_of_none e g4
    refine q _ ra rb rc l2 l4 (fun b o hb e => up _ _ hb (x2 _ _ hb (x1 _ _ hb (x1' _ _ hb (x0 _ _ hb e))))) ⟨⟨dx, upd_same⟩, cs, t1 npa ha, t1 npb hb, t1 npc hc, ?_, ?_, ?_, by rw [List.length_replicate, List.length_replicate], by rw [List.length_replicate, List.length_replicate], by rw [List.length_replicate, List.length_replicate], by rw [List.length_replicate, List.length_replicate], by rw [List.length_replicate]; omega⟩ fa fb fc (back0 np1 g2) (back0 np2 g4)
    · rw [List.map_replicate]; exact up _ _ (one np1) (x2 _ _ (one np1) c1)
    · rw [List.map_replicate]; exact up _ _ (one np2) c2
    · simp only [List.nodup_cons, List.mem_cons, List.not_mem_nil, or_false, not_or, not_false_eq_true, List.nodup_nil, and_true]
      exact ⟨⟨ab, ac, z2 ha, z4 ha⟩, ⟨bc, z2 hb, z4 hb⟩, ⟨z2 hc, z4 hc⟩, ne_of_none c1 f2⟩
end
end Lw
set_option Elab.async false
set_option linter.all false
set_option maxRecDepth 100000
set_option maxHeartbeats 4000000
namespace Lw
open PySem L2
local macro_rules | `(tactic| walk_at "st") => `(tactic| repeat (first
  | refine ⟨_, rfl, ?_⟩
  | refine ⟨_, _, rfl, rfl, ?_⟩
  | refine ⟨_, _, rfl, ?_⟩
  | refine Or.inl ⟨_, _, rfl, rfl, ?_⟩
  | refine Or.inl ⟨rfl, ?_⟩
  | refine ⟨rfl, ?_⟩
  | refine Or.inl ⟨_, _, _, _, rfl, rfl, .of (by assumption), rfl, ?_⟩
  | (refine And.intro (show CMul _ _ from ?_) ?_; (first | exact Or.inr ⟨by omega, by omega⟩ | exact Or.inl ⟨by omega, by omega⟩))
  | (refine And.intro (show CDiv _ _ from ?_) ?_; exact ⟨by omega, by omega⟩)
  | (refine And.intro (show (0 : Int) < _ from ?_) ?_; first | decide | omega)))
theorem upd_some {H : Hp} {a b : Addr} {o : HO} (h : H b ≠ none) : upd H a o b ≠ none := by
  by_cases e : b = a
  · subst e; rw [upd_same]; simp
  · rw [upd_ne e]; exact h
section
variable {P : Program} {w : World} {K : PySem.W.Frag} {mg : Str → Option Value} {base : Heap} {a : Adr}
theorem sc_Seekers_take : FnScope ["self", "place", "k", "steps"] ["self", "place"] (defScope (inClass (top 9) 1)) := ⟨rfl, rfl, rfl, by decide +kernel, rfl, by decide +kernel, by decide +kernel⟩
theorem nm_Seekers_take_self : Nm (defScope (inClass (top 9) 1)) "self" := ⟨by decide +kernel, by decide +kernel, by decide +kernel⟩
theorem nm_Seekers_take_place : Nm (defScope (inClass (top 9) 1)) "place" := ⟨by decide +kernel, by decide +kernel, by decide +kernel⟩
theorem nm_Seekers_take_k : Nm (defScope (inClass (top 9) 1)) "k" := ⟨by decide +kernel, by decide +kernel, by decide +kernel⟩
theorem nm_Seekers_take_steps : Nm (defScope (inClass (top 9) 1)) "steps" := ⟨by decide +kernel, by decide +kernel, by decide +kernel⟩
theorem gm_Seekers_take_len : Gm (defScope (inClass (top 9) 1)) "len" := ⟨by decide +kernel, by decide +kernel, by decide +kernel⟩
theorem ok_takeS {f : Addr} {fd : FuncData} (F : Fun K "take" "Seekers.take" (inClass (top 9) 1) f fd) (T : TxtK K mg a) (DD_first : ∀ C ∈ a.racks, MthIn P w K mg base CX0 1 C "first_free" ["self", "start"] (spFirst K a)) (DD_hold : ∀ C ∈ a.racks, MthIn P w K mg base CX0 1 C "hold" ["self", "k", "who"] (spHold K a)) :
    FnOk P w K mg base CX0 2 f fd ["self", "place"] (spTakeS K a) := by
  refine F.ok sc_Seekers_take (fun vs H Q E h => ?_) (fun cdv A outer s H vs Q E hr h => ?_)
  · obtain ⟨p, C, ra, rb, rc, rs, rw, hs, js, ts, places, mark, st, wt, place, rfl, _⟩ := h
    rfl
  · obtain ⟨p, C, ra, rb, rc, rs, rw, hs, js, ts, places, mark, st, wt, place, rfl, k, h0, h1, hpl, q⟩ := h
    obtain ⟨dx, hp⟩ := k.ins
    have nd := sc_Seekers_take.nd
    have D_first_free := DD_first C k.cs.c.mem
    have D_hold := DD_hold C k.cs.c.mem
    have cls := k.cs.c.cls
    have hz := k.z
    have ls := k.ls
    have lw := k.lw
    have lt := k.lt
    have F3 := fs_sek ra rb rc places rs rw mark
    refine ⟨_, (@pss_cons _ _ _ _ _ (ps_nm 2 nd nm_Seekers_take_k (pe_md D_first_free cls (pvN 0 nm_Seekers_take_self) (hr.mono (by decide)) pass0 (pa_cons (pe_fld (pvN 0 nm_Seekers_take_self) rfl) pa_nil)))
        (pss_cons (ps_if (pt_cmpR op_isN (pvN 2 nm_Seekers_take_k) pe_non (nomark _)) (pss_one (ps_ret pe_non)) pss_nil)
        (pss_cons (ps_nm 3 nd nm_Seekers_take_steps (pe_op op_mod (pe_op op_sub (pvN 1 nm_Seekers_take_place) (pe_ix ix_seq (pe_fld (pvN 0 nm_Seekers_take_self) rfl) (pvN 2 nm_Seekers_take_k) (fun _ _ => rfl))) (pe_fld (pvN 0 nm_Seekers_take_self) rfl)))
        (pss_cons (ps_asg (pvN 1 nm_Seekers_take_place) (pg_sub (pe_fld (pvN 0 nm_Seekers_take_self) rfl) (pvN 2 nm_Seekers_take_k) set_list))
        (pss_cons (ps_augS (pe_fld (pvN 0 nm_Seekers_take_self) rfl) (pvN 2 nm_Seekers_take_k) get_list (pvN 3 nm_Seekers_take_steps) ip_add set_list)
        (pss_cons (ps_expr (pe_md D_hold cls (pvN 0 nm_Seekers_take_self) (hr.mono (by decide)) pass0 (pa_cons (pvN 2 nm_Seekers_take_k) (pa_cons (pvN 1 nm_Seekers_take_place) pa_nil))))
        (pss_cons (ps_fld (pvN 0 nm_Seekers_take_self) (pe_op op_mod (pe_op op_addG (pvN 2 nm_Seekers_take_k) pe_int) (pe_cb call_lenG gm_Seekers_take_len T.n_len bt_len (pa_cons (pe_fld (pvN 0 nm_Seekers_take_self) rfl) pa_nil))) rfl)
        (pss_one (ps_ret (pe_tup (pa_cons (pvN 2 nm_Seekers_take_k) (pa_cons (pvN 3 nm_Seekers_take_steps) pa_nil)))))))))))), ?_⟩
    walk_at "st"
    refine ⟨p, dx, _, rfl, hp, F3.m _ (by decide), ?_⟩
    walk_at "st"
    refine ⟨p, C, dx, _, _, rfl, hp, cls, k.cs.m, rfl, ?_⟩
    walk_at "st"
    refine ⟨p, mark, C, ra, rb, rc, hs, js, ts, rfl, k.r, h0, h1, fun H1 s1 => ?_⟩
    cases hf : ffree hs js mark with
    | none =>
      rw [hf] at q
      walk_at "st"
      exact q H1 s1
    | some kk =>
      rw [hf] at q
      obtain ⟨⟨k0, k1⟩, _⟩ := ffree_in h0 h1 hf
      have kS := k.same s1
      have hp1 := s1 _ _ hp
      have ap := k.ap
      simp only [List.nodup_cons, List.mem_cons, List.not_mem_nil, or_false, not_or, not_false_eq_true, List.nodup_nil, and_true] at ap
      obtain ⟨⟨a1, a2, a3, a4⟩, ⟨b1, b2, b3⟩, ⟨c1, c2⟩, d1⟩ := ap
      have np : ∀ {b xs}, H b = some (.lst xs) → p ≠ b := fun h => ne_of hp h (by intro z; cases z)
      walk_at "st"
      refine ⟨p, C, dx, _, _, rfl, hp1, cls, k.cs.s, rfl, ?_⟩
      walk_at "st"
      refine Or.inl ⟨rs, _, kk, _, rfl, rfl, .of kS.hs_, atI_int k0 (by omega), ?_⟩
      walk_at "st"
      refine ⟨p, C, dx, _, _, rfl, hp1, cls, k.cs.p, rfl, ?_⟩
      walk_at "st"
      refine ⟨p, C, dx, _, _, rfl, hp1, cls, k.cs.s, rfl, ?_⟩
      walk_at "st"
      refine ⟨rs, _, kk, _, rfl, rfl, kS.hs_, ixN_in k0 (by rw [List.length_map]; omega), ?_⟩
      rw [show (st.map V.int).set kk.toNat (.int place) = (st.set kk.toNat place).map V.int from (List.map_set ..).symm]
      generalize hH2 : upd H1 rs (.lst ((st.set kk.toNat place).map V.int)) = H2
      have x2 : ∀ {b o}, b ≠ rs → H1 b = some o → H2 b = some o := fun h e => by rw [← hH2, upd_ne h]; exact e
      have e2 : H2 rs = some (.lst ((st.set kk.toNat place).map V.int)) := hH2 ▸ upd_same
      have hp2 := x2 (np k.hs_) hp1
      walk_at "st"
      refine ⟨p, C, dx, _, _, rfl, hp2, cls, k.cs.w, rfl, ?_⟩
      walk_at "st"
      refine ⟨rw, _, kk, _, rfl, rfl, k0, .of (x2 (Ne.symm d1) kS.hw), atI_int k0 (by omega), ?_⟩
      walk_at "st"
      refine ⟨rw, _, kk, _, rfl, rfl, x2 (Ne.symm d1) kS.hw, ixN_in k0 (by rw [List.length_map]; omega), ?_⟩
      rw [show (wt.map V.int).set kk.toNat (.int (wt.getD kk.toNat 0 + (place - st.getD kk.toNat 0) % places)) = (wt.set kk.toNat (wt.getD kk.toNat 0 + (place - st.getD kk.toNat 0) % places)).map V.int from (List.map_set ..).symm]
      generalize hH3 : upd H2 rw (.lst ((wt.set kk.toNat (wt.getD kk.toNat 0 + (place - st.getD kk.toNat 0) % places)).map V.int)) = H3
      have x3 : ∀ {b o}, b ≠ rw → H2 b = some o → H3 b = some o := fun h e => by rw [← hH3, upd_ne h]; exact e
      have e3 : H3 rw = some (.lst ((wt.set kk.toNat (wt.getD kk.toNat 0 + (place - st.getD kk.toNat 0) % places)).map V.int)) := hH3 ▸ upd_same
      have hp3 := x3 (np k.hw) hp2
      have y3 : ∀ {b o}, b ≠ rs → b ≠ rw → H1 b = some o → H3 b = some o := fun h h' e => x3 h' (x2 h e)
      have R3 : Rack K a H3 p C ra rb rc hs js ts := ⟨⟨dx, _, hp3, F3⟩, k.cs.c, y3 a3 a4 kS.ha, y3 b2 b3 kS.hb, y3 c1 c2 kS.hc, a1, a2, b1, k.lj, k.lt, k.z⟩
      walk_at "st"
      refine ⟨p, dx, _, rfl, hp3, F3.m _ (by decide), ?_⟩
      walk_at "st"
      refine ⟨p, kk, .int place, C, ra, rb, rc, hs, js, ts, rfl, R3, k0, k1, ?_⟩
      generalize hH4 : upd (upd H3 ra (.lst (hs.set kk.toNat (.int place)))) rc (.lst ((ts.set kk.toNat (ts.getD kk.toNat 0 + 1)).map V.int)) = H4
      have x4 : ∀ {b o}, b ≠ ra → b ≠ rc → H3 b = some o → H4 b = some o := fun h h' e => by rw [← hH4, upd_ne h', upd_ne h]; exact e
      have e4a : H4 ra = some (.lst (hs.set kk.toNat (.int place))) := by rw [← hH4, upd_ne a2, upd_same]
      have e4c : H4 rc = some (.lst ((ts.set kk.toNat (ts.getD kk.toNat 0 + 1)).map V.int)) := hH4 ▸ upd_same
      have hp4 := x4 (np k.ha) (np k.hc) hp3
      have e4s := x4 (Ne.symm a3) (Ne.symm c1) (x3 d1 e2)
      have e4w := x4 (Ne.symm a4) (Ne.symm c2) e3
      walk_at "st"
      refine ⟨p, C, dx, _, _, rfl, hp4, cls, k.cs.s, rfl, ?_⟩
      walk_at "st"
      refine Or.inr ⟨_, _, rfl, .inl (.of e4s), ?_⟩
      rw [List.length_map, List.length_set, ls]
      walk_at "st"
      refine ⟨p, C, dx, _, rfl, hp4, cls, k.cs.m, (by show 7 < 1000; decide), ?_⟩
      walk_at "st"
      refine ⟨(by show 2 ≤ sizeLine; decide), fun t nt => ?_⟩
      have v5 : ∀ {b o}, b ≠ p → H4 b = some o → (upd (upd H4 p (.ins C dx (sekF ra rb rc places rs rw ((kk + 1) % hs.length)))) t (.tup [.int kk, .int ((place - st.getD kk.toNat 0) % places)])) b = some o := fun {b o} h e => by
        have e' : (upd H4 p (.ins C dx (sekF ra rb rc places rs rw ((kk + 1) % hs.length)))) b = some o := by rw [upd_ne h]; exact e
        rw [upd_ne (ne_of_none e' nt)]; exact e'
      have hpt : p ≠ t := ne_of_none (show (upd H4 p (.ins C dx (sekF ra rb rc places rs rw ((kk + 1) % hs.length)))) p = some _ from upd_same) nt
      refine q _ t (fun b o hb e => ?_) ?_ upd_same ⟨⟨dx, by rw [upd_ne hpt]; exact upd_same⟩, k.cs, v5 (np k.ha).symm e4a, v5 (np k.hb).symm (x4 (Ne.symm a1) b1 (y3 b2 b3 kS.hb)), v5 (np k.hc).symm e4c, v5 (np k.hs_).symm e4s, v5 (np k.hw).symm e4w, k.ap,
        by rw [List.length_set]; exact k.lj, by rw [List.length_set, List.length_set]; exact k.lt, by rw [List.length_set, List.length_set]; exact k.ls, by rw [List.length_set, List.length_set]; exact k.lw, by rw [List.length_set]; exact k.z⟩
      · simp only [List.mem_cons, List.not_mem_nil, or_false, not_or] at hb
        obtain ⟨n1, n2, n3, n4, n5⟩ := hb
        exact v5 n1 (x4 n2 n3 (y3 n4 n5 (s1 _ _ e)))
      · cases z : H t with
        | none => rfl
        | some o =>
          have e1 := s1 _ _ z
          exfalso
          have e4' : H4 t ≠ none := hH4 ▸ upd_some (upd_some (hH3 ▸ upd_some (hH2 ▸ upd_some (by rw [e1]; simp))))
          rw [upd_ne hpt.symm] at nt
          exact e4' nt
end
end Lw
set_option Elab.async false
set_option linter.all false
set_option maxRecDepth 100000
namespace L2
open PySem PySem.Spec PyProof.Rows
section
variable {X : Cx}
end
end L2
set_option Elab.async false
set_option linter.all false
set_option maxRecDepth 100000
namespace L2
open PySem PySem.Spec PyProof.Rows PySem.W
section
variable {n : Nat} {key : Nat → List Nat} {cmp : Nat → Nat → (Bool → Shared → Prop) → Shared → Prop} {s : Shared}
structure Pm (n : Nat) (p : Array Nat) : Prop where
  pm : p.toList.Perm (List.range n)
structure Ky (n : Nat) (key : Nat → List Nat) (cmp : Nat → Nat → (Bool → Shared → Prop) → Shared → Prop) (s : Shared) : Prop where
  df : ∀ i j, i < n → j < n → i ≠ j → key i ≠ key j
  ok : ∀ i j C, i < n → j < n → C (decide (key i < key j)) s → cmp i j C s
end
end L2
set_option Elab.async false
set_option linter.all false
set_option maxRecDepth 100000
namespace L2
open PySem PySem.Spec PyProof.Rows PySem.W
section
variable {prog : Program} {w : World} {A : Around} {E : Value → Shared → Prop} {s : Shared}
end
end L2
set_option Elab.async false
set_option linter.all false
set_option maxRecDepth 100000
namespace L2
open PySem PySem.Spec PyProof.Rows PySem.W
section
variable {X : Cx} {pins : List (Addr × Obj)} {σ : St} {H : Hp} {s : Shared}
end
end L2
set_option Elab.async false
set_option linter.all false
set_option maxRecDepth 100000
namespace L2
open PySem PySem.Spec PyProof.Rows
def byT (w : World) : Bool := w.params.followText "set-order"
def txtE (e : Int × Value) : Str := match e.2 with
  | .str z _ => z
  | _ => Str.empty
theorem or_led (t : SetTable) (n : Nat) : (t.orStandIn n).led = t.led := by unfold SetTable.orStandIn SetTable.standIn; split <;> rfl
theorem new_led (t : SetTable) (es : Array (Int × Value)) (h : Int) (x : Value) : (layNew t es h x).2.1.led = t.led := by
  unfold layNew
  split
  · exact or_led _ _
  · rfl
theorem relaid_led {t t' : SetTable} {hs : Array Int} {n : Nat} {o : Array Nat} (e : t.relaid hs n = some (t', o)) : t'.led = t.led ∧ t'.plain = t.plain := by
  unfold SetTable.relaid SetTable.laid at e
  cases q : SetTable.layClean (SetTable.sizeAbove n - 1) hs with
  | none => rw [q] at e; cases e
  | some x => rw [q] at e; cases e; exact ⟨rfl, rfl⟩
theorem all_led (t : SetTable) (es : Array (Int × Value)) (n : Nat) : (relayAll t es n).2.1.led = t.led := by
  unfold relayAll
  split
  · rename_i t' o e
    dsimp only
    split
    · exact (relaid_led e).1
    · rfl
  · rfl
section
variable {prog : Program} {w : World} {A : Around} {E : Value → Shared → Prop} {s : Shared}
theorem put_set {a : Addr} {o : Obj} {es es' : Array (Int × Value)} {ep : Nat} {t t' : SetTable} {h : Heap} (ho : h.get? a = some o) (hd : o.data = .set es ep t) : (h.update a (Obj.putSet es' t')).get? a = some { o with data := .set es' (ep + 1) t' } := by
  have e := Heap.get?_update_self (Obj.putSet es' t') ho (by rw [putSet_of es' t' hd]; rfl)
  rwa [putSet_of es' t' hd] at e
end
end L2
set_option Elab.async false
set_option linter.all false
set_option maxRecDepth 100000
set_option maxHeartbeats 4000000
namespace L2
open PySem PySem.Spec PyProof.Rows
section
variable {prog : Program} {w : World} {A : Around} {I : Addr} {fp wr : List Addr} {G : Array GenState → Array GenState → Prop} {n : Nat} {P : Nat → Value → Prop} {St : Nat → Shared → Prop}
end
section
variable {prog : Program} {w : World} {A : Around} {E : Value → Shared → Prop} {s : Shared}
theorem new_set1 (a : Value) {Q₁ : Value → Shared → Prop} (h : Q₁ (.ref s.heap.objs.size) { s with heap := s.heap.push { cls := .type "set", dict := none, data := .set #[] 0 (.fresh 0 0 (!byT w)) } }) :
    codeAny (model prog w) A (.call (.builtin "set.__new__") ⟨[.type "set", a], []⟩) (wants Q₁ E) s := by
  refine codeAny_of_tree ?_
  show wpAny _ A.in1 (do checkBuiltinCall "set.__new__" ⟨[.type "set", a], []⟩; again (.builtin "set.__new__" ⟨[.type "set", a], []⟩)) _ _ s
  refine wpAny_bind (wpAny_of_eq (F.newCall_set_1 a) (wpAny_pure ⟨plainId_quiet F.plain_set_new _, codeAny_builtin F.entry_set_new ?_⟩))
  rw [Around.under_plainId F.plain_set_new _]
  unfold Builtin.«set.__new__» Builtin.Frozenset.newClass
  have sub := sub_set_self
  obtain ⟨hp, g, d, tk, os⟩ := s
  dsimp only
  wp_walk
  refine wpAny_askSetting (wpAny_pure ?_)
  dsimp only
  simp only [newObj]
  exact wpAny_bind (wpAny_alloc (wpAny_pure (wpAny_pure h)))
end
end L2
set_option Elab.async false
set_option linter.all false
set_option maxRecDepth 100000
namespace L2
open PySem PySem.Spec PyProof.Rows
section
variable {X : Cx}
end
end L2
set_option Elab.async false
set_option linter.all false
set_option maxRecDepth 100000
set_option maxHeartbeats 4000000
namespace L2
open PySem PySem.Spec PyProof.Rows
section
variable {prog : Program} {w : World} {A : Around} {R : Result → Shared → Prop} {E : Value → Shared → Prop} {s : Shared}
end
section
variable {X : Cx} {N' : List Str} {sc : Scope} {srcs : List (Option Nat)} {cl : List (Str × Addr)} {C : Addr} {fp : List Addr} {pins : List (Addr × Obj)} {s₂ : Shared} {H₂ : Hp} {σ : St}
end
end L2
set_option Elab.async false
set_option linter.all false
set_option maxRecDepth 100000
set_option maxHeartbeats 4000000
namespace L2
open PySem PySem.Spec PyProof.Rows
theorem si_slot : Slot "set_iterator" "__next__" "set_iterator.__next__" := .of (owner := "set_iterator") (n := "__next__") (by rw [typeLookup_type, builtinLookup_eq_fast]; kernel_rfl) (by decide +kernel) (by decide +kernel) (by decide +kernel) (by first | exact .inl (by decide +kernel) | exact .inr (by decide +kernel)) (by rw [isSubtype_type]; kernel_rfl)
theorem si_entry : entryFor table "set_iterator.__next__" = some Builtin.«set_iterator.__next__» := entryFor_of_fast (by kernel_rfl)
theorem si_args (a : Value) : argsOk "set_iterator.__next__" ⟨[a], []⟩ := by unfold argsOk; kernel_rfl
theorem se_entry : entryFor table "set.__iter__" = some Builtin.«frozenset.__iter__» := entryFor_alias (id' := "frozenset.__iter__") (by kernel_rfl) rfl (by decide +kernel) (by kernel_rfl)
theorem erase_perm {α : Type} : ∀ {l : List α} {i : Nat} (h : i < l.length), (l[i] :: l.eraseIdx i).Perm l
  | x :: l, 0, _ => List.Perm.refl _
  | x :: l, i + 1, h => by
    have ih := erase_perm (l := l) (i := i) (by simpa using h)
    show (l[i]'(by simpa using h) :: x :: l.eraseIdx i).Perm (x :: l)
    exact (List.Perm.swap _ _ _).trans (List.Perm.cons _ ih)
section
variable {prog : Program} {w : World} {A : Around} {E : Value → Shared → Prop} {s : Shared}
theorem wp_choose' {src : Source} {n : Nat} {Q : Nat → Shared → Prop} (hn : n ≠ 0) (q : ∀ i d, i < n → Q i { s with drawn := d }) : wpAny (model prog w) A (choose src n) Q E s := fun Γ p hΓ =>
  ⟨hn, q _ _ (Nat.mod_lt _ (Nat.pos_of_ne_zero hn))⟩
theorem draw_perm {α : Type} : ∀ (n : Nat) (xs : List α) (s : Shared) {Q : List α → Shared → Prop}, xs.length = n → (∀ ys d, ys.Perm xs → Q ys { s with drawn := d }) → wpAny (model prog w) A (drawOrder n xs) Q E s
  | 0, xs, s, Q, e, q => by
    have e : xs = [] := List.length_eq_zero_iff.mp e
    subst e
    exact wpAny_pure (q [] s.drawn (List.Perm.refl _))
  | n + 1, [], s, Q, e, q => by simp at e
  | n + 1, x :: xs, s, Q, e, q => by
    show wpAny _ A (choose .order (x :: xs).length >>= _) _ _ s
    refine wpAny_bind (wp_choose' (by simp) fun i d hi => ?_)
    rw [List.getElem?_eq_getElem hi]
    dsimp only
    refine wpAny_bind (draw_perm n ((x :: xs).eraseIdx i) _ (by rw [List.length_eraseIdx_of_lt hi]; omega) fun ys d' hp => ?_)
    refine wpAny_pure (q _ d' ?_)
    exact (List.Perm.cons _ hp).trans (erase_perm hi)
theorem pick_go {α : Type} (next : Nat → Nat) : ∀ (n k : Nat) (left : List α) (out : Array α), left.length = n → ∃ ys : List α, ys.Perm left ∧ (pickOrder.go next n k left out).toList = out.toList ++ ys
  | 0, k, left, out, e => by
    have e : left = [] := List.length_eq_zero_iff.mp e
    subst e
    exact ⟨[], List.Perm.refl _, by unfold pickOrder.go; simp⟩
  | n + 1, k, left, out, e => by
    have hi : next k % left.length < left.length := Nat.mod_lt _ (by omega)
    obtain ⟨ys, h1, h2⟩ := pick_go next n (k + 1) (left.eraseIdx (next k % left.length)) (out.push left[next k % left.length]) (by rw [List.length_eraseIdx_of_lt hi]; omega)
    refine ⟨left[next k % left.length] :: ys, (List.Perm.cons _ h1).trans (erase_perm hi), ?_⟩
    unfold pickOrder.go
    rw [List.getElem?_eq_getElem hi]
    dsimp only
    rw [h2, Array.toList_push, List.append_assoc]
    rfl
theorem pick_perm {α : Type} (next : Nat → Nat) (xs : Array α) : (pickOrder next xs).toList.Perm xs.toList := by
  obtain ⟨ys, h1, h2⟩ := pick_go next xs.size 0 xs.toList #[] (by simp)
  unfold pickOrder
  rw [h2]
  simpa using h1
structure Sti (h : Heap) (I a : Addr) (o : Obj) (first : Value) (i n ep : Nat) : Prop where
  it : h.get? I = some { cls := .type "set_iterator", data := .fields #[first, .int i 0, .ref a, .int n 0, .int ep 0] }
  st : h.get? a = some o
theorem entries_at {a : Addr} {o : Obj} {es : Array (Int × Value)} {ep : Nat} {t : SetTable} {Q : Array (Int × Value) → Shared → Prop} (ho : s.heap.get? a = some o) (hd : o.data = .set es ep t) (hf : t.fits es.size = true) (h : Q es s) : wpAny (model prog w) A (setEntries a) Q E s := wpAny_setEntries_of ho hd hf h
theorem next_int {I a : Addr} {o : Obj} {es : Array (Int × Value)} {ep i f f' : Nat} {t : SetTable} {v : Value} {Q : Option Value → Shared → Prop} (x : Sti s.heap I a o (.int f 0) i es.size ep) (hIa : I ≠ a) (hd : o.data = .set es ep t) (hf : t.fits es.size = true)
    (nx : ∀ {A' : Around} {E'} {Q' : Option (Value × Nat) → Shared → Prop}, Q' (some (v, f')) s → wpAny (model prog w) A' (setNext a f i ep) Q' E' s)
    (q : ∀ h', Sti h' I a o (.int f' 0) (i + 1) es.size ep → Heap.SameBut I s.heap h' → Q (some v) { s with heap := h' }) : wpAny (model prog w) A (pyNext (.ref I)) Q E s := by
  have ty : s.TypeIs (.ref I) "set_iterator" := ⟨_, x.it, rfl⟩
  unfold pyNext
  refine wpAny_bind (wpAny_attempt (wpAny_callSpecial?_slot (name := Str.ofString "__next__") ty si_slot (wpAny_call_entry si_slot ty si_entry ?_ (si_args _))))
  show wpAny _ _ (fieldsOf (.ref I) >>= _) _ _ s
  unfold fieldsOf
  refine wpAny_bind (wpAny_bind (wpAny_load x.it (wpAny_pure ?_)))
  show wpAny _ _ (setEntries a >>= _) _ _ s
  refine wpAny_bind (entries_at x.st hd hf ?_)
  rw [if_neg (by simp)]
  show wpAny _ _ (setNext a (Int.toNat (f : Int)) (Int.toNat (i : Int)) (Int.toNat (ep : Int)) >>= _) _ _ s
  rw [Int.toNat_natCast, Int.toNat_natCast, Int.toNat_natCast]
  refine wpAny_bind (nx ?_)
  dsimp only
  refine wpAny_bind (wpAny_setField x.it rfl (by simp) ?_)
  have g1 := Heap.get?_update_self (Obj.mapFields (·.setIfInBounds 0 (rawInt f'))) x.it rfl
  refine wpAny_bind (wpAny_setField (s := { s with heap := s.heap.update I (Obj.mapFields (·.setIfInBounds 0 (rawInt f'))) }) g1 rfl (by simp) ?_)
  have g2 := Heap.get?_update_self (Obj.mapFields (·.setIfInBounds 1 (rawInt ((i : Int) + 1)))) g1 rfl
  refine wpAny_pure ⟨v, rfl, wpAny_pure (q _ ⟨?_, ?_⟩ ((Heap.SameBut.update ..).trans (Heap.SameBut.update ..)))⟩
  · rw [g2]; rfl
  · rw [Heap.get?_update_other _ _ hIa, Heap.get?_update_other _ _ hIa]; exact x.st
end
end L2
set_option Elab.async false
set_option linter.all false
set_option maxRecDepth 100000
set_option maxHeartbeats 4000000
namespace L2
open PySem PySem.Spec PyProof.Rows
section
variable {prog : Program} {w : World} {A : Around} {E : Value → Shared → Prop} {s : Shared}
theorem stop_raise {Qr : Fin → Shared → Prop} {Er : Value → Shared → Prop} (hh : A.handled = none) (q : ∀ h' e, (∀ b o, s.heap.get? b = some o → h'.get? b = some o) → Shared.TypeIs { s with heap := h' } e "StopIteration" → Er e { s with heap := h' }) :
    wpAny (model prog w) A (newExc (.type "StopIteration") [] >>= fun e => raiseNew e) Qr Er s := by
  refine wpAny_bind ?_
  simp only [newExc, newTuple]
  refine wpAny_bind (wpAny_newObj_type ?_ (by size_fits))
  refine wpAny_bind (m := firstArgMember _ _) (wpAny_of_eq (a := Value.none) (by first | rfl | (simp only [firstArgMember]; rfl)) (wpAny_newObj_type ?_ (by size_fits)))
  simp only [raiseNew]
  refine wpAny_bind (wpAny_handled ?_)
  rw [hh]
  refine wpAny_bind (wpAny_pure (wpAny_throw (q _ (.ref _) (fun b o e => Heap.get?_push_of_some _ (Heap.get?_push_of_some _ e)) ⟨_, Heap.get?_push_size _ rfl, rfl⟩)))
theorem end_int {I a : Addr} {o : Obj} {es : Array (Int × Value)} {ep i f : Nat} {t : SetTable} {Q : Option Value → Shared → Prop} (hh : A.handled = none) (x : Sti s.heap I a o (.int f 0) i es.size ep) (hd : o.data = .set es ep t) (hf : t.fits es.size = true)
    (nx : ∀ {A' : Around} {E'} {Q' : Option (Value × Nat) → Shared → Prop}, Q' none s → wpAny (model prog w) A' (setNext a f i ep) Q' E' s)
    (q : ∀ h', (∀ b o, b ≠ I → s.heap.get? b = some o → h'.get? b = some o) → Q none { s with heap := h' }) : wpAny (model prog w) A (pyNext (.ref I)) Q E s := by
  have ty : s.TypeIs (.ref I) "set_iterator" := ⟨_, x.it, rfl⟩
  unfold pyNext
  refine wpAny_bind (wpAny_attempt (wpAny_callSpecial?_slot (name := Str.ofString "__next__") ty si_slot (wpAny_call_entry si_slot ty si_entry ?_ (si_args _))))
  show wpAny _ _ (fieldsOf (.ref I) >>= _) _ _ s
  unfold fieldsOf
  refine wpAny_bind (wpAny_bind (wpAny_load x.it (wpAny_pure ?_)))
  show wpAny _ _ (setEntries a >>= _) _ _ s
  refine wpAny_bind (entries_at x.st hd hf ?_)
  rw [if_neg (by simp)]
  show wpAny _ _ (setNext a (Int.toNat (f : Int)) (Int.toNat (i : Int)) (Int.toNat (ep : Int)) >>= _) _ _ s
  rw [Int.toNat_natCast, Int.toNat_natCast, Int.toNat_natCast]
  refine wpAny_bind (nx ?_)
  dsimp only
  refine wpAny_bind (wpAny_setField x.it rfl (by simp) ?_)
  refine stop_raise (A := A.in1) (s := { s with heap := s.heap.update I (Obj.mapFields (·.setIfInBounds 2 Value.none)) }) (by simpa using hh) fun h' e k te => ?_
  refine wpAny_bind (wpAny_isInstance (T := "StopIteration") (b := true) te isSubtype_stop ?_)
  exact wpAny_pure (q h' fun b o hb e => k b o (by rw [Heap.get?_update_other _ _ (Ne.symm hb)]; exact e))
theorem next_tup {I a T : Addr} {o oT : Obj} {es : Array (Int × Value)} {ep i nT pl : Nat} {t : SetTable} {ps : Array Value} {e0 : Int × Value} {Q : Option Value → Shared → Prop} (x : Sti s.heap I a o (.ref T) i es.size ep) (hIa : I ≠ a) (hd : o.data = .set es ep t) (hf : t.fits es.size = true)
    (hT : s.heap.get? T = some oT) (dT : oT.data = .seq ps nT) (hp : ps[i]? = some (.int pl 0)) (he : es[pl]? = some e0)
    (q : ∀ h', Sti h' I a o (.ref T) (i + 1) es.size ep → Heap.SameBut I s.heap h' → Q (some e0.2) { s with heap := h' }) : wpAny (model prog w) A (pyNext (.ref I)) Q E s := by
  have ty : s.TypeIs (.ref I) "set_iterator" := ⟨_, x.it, rfl⟩
  unfold pyNext
  refine wpAny_bind (wpAny_attempt (wpAny_callSpecial?_slot (name := Str.ofString "__next__") ty si_slot (wpAny_call_entry si_slot ty si_entry ?_ (si_args _))))
  show wpAny _ _ (fieldsOf (.ref I) >>= _) _ _ s
  unfold fieldsOf
  refine wpAny_bind (wpAny_bind (wpAny_load x.it (wpAny_pure ?_)))
  show wpAny _ _ (setEntries a >>= _) _ _ s
  refine wpAny_bind (entries_at x.st hd hf ?_)
  rw [if_neg (by simp)]
  show wpAny _ _ (seqItems? (.ref T) >>= _) _ _ s
  refine wpAny_bind (wpAny_seqItems hT dT ?_)
  dsimp only
  rw [show (i : Int).toNat = i from Int.toNat_natCast i, hp]
  dsimp only
  unfold setNextDrawn
  refine wpAny_bind (wpAny_bind (wpAny_setState_of x.st hd hf ?_))
  dsimp only
  rw [show (ep : Int).toNat = ep from Int.toNat_natCast ep, show (pl : Int).toNat = pl from Int.toNat_natCast pl, if_neg (by simp), he]
  obtain ⟨hh, v⟩ := e0
  refine wpAny_pure ?_
  refine wpAny_bind (wpAny_setField x.it rfl (by simp) ?_)
  have g2 := Heap.get?_update_self (Obj.mapFields (·.setIfInBounds 1 (rawInt ((i : Int) + 1)))) x.it rfl
  refine wpAny_pure ⟨v, rfl, wpAny_pure (q _ ⟨?_, ?_⟩ (Heap.SameBut.update ..))⟩
  · rw [g2]; rfl
  · rw [Heap.get?_update_other _ _ hIa]; exact x.st
theorem end_tup {I a T : Addr} {o oT : Obj} {es : Array (Int × Value)} {ep i nT : Nat} {t : SetTable} {ps : Array Value} {Q : Option Value → Shared → Prop} (hh : A.handled = none) (x : Sti s.heap I a o (.ref T) i es.size ep) (hd : o.data = .set es ep t) (hf : t.fits es.size = true)
    (hT : s.heap.get? T = some oT) (dT : oT.data = .seq ps nT) (hp : ps[i]? = none)
    (q : ∀ h', (∀ b o, b ≠ I → s.heap.get? b = some o → h'.get? b = some o) → Q none { s with heap := h' }) : wpAny (model prog w) A (pyNext (.ref I)) Q E s := by
  have ty : s.TypeIs (.ref I) "set_iterator" := ⟨_, x.it, rfl⟩
  unfold pyNext
  refine wpAny_bind (wpAny_attempt (wpAny_callSpecial?_slot (name := Str.ofString "__next__") ty si_slot (wpAny_call_entry si_slot ty si_entry ?_ (si_args _))))
  show wpAny _ _ (fieldsOf (.ref I) >>= _) _ _ s
  unfold fieldsOf
  refine wpAny_bind (wpAny_bind (wpAny_load x.it (wpAny_pure ?_)))
  show wpAny _ _ (setEntries a >>= _) _ _ s
  refine wpAny_bind (entries_at x.st hd hf ?_)
  rw [if_neg (by simp)]
  show wpAny _ _ (seqItems? (.ref T) >>= _) _ _ s
  refine wpAny_bind (wpAny_seqItems hT dT ?_)
  dsimp only
  rw [show (i : Int).toNat = i from Int.toNat_natCast i, hp]
  dsimp only
  refine wpAny_bind (wpAny_setField x.it rfl (by simp) ?_)
  have g1 := Heap.get?_update_self (Obj.mapFields (·.setIfInBounds 0 (rawInt 0))) x.it rfl
  refine wpAny_bind (wpAny_setField (s := { s with heap := s.heap.update I (Obj.mapFields (·.setIfInBounds 0 (rawInt 0))) }) g1 rfl (by simp) ?_)
  refine stop_raise (A := A.in1) (s := { s with heap := (s.heap.update I (Obj.mapFields (·.setIfInBounds 0 (rawInt 0)))).update I (Obj.mapFields (·.setIfInBounds 2 Value.none)) }) (by simpa using hh) fun h' e k te => ?_
  refine wpAny_bind (wpAny_isInstance (T := "StopIteration") (b := true) te isSubtype_stop ?_)
  exact wpAny_pure (q h' fun b o hb e => k b o (by rw [Heap.get?_update_other _ _ (Ne.symm hb), Heap.get?_update_other _ _ (Ne.symm hb)]; exact e))
theorem next_text {a : Addr} {o : Obj} {es : Array (Int × Value)} {ep f i : Nat} {t : SetTable} {Q : Option (Value × Nat) → Shared → Prop} (ho : s.heap.get? a = some o) (hd : o.data = .set es ep t) (hf : t.fits es.size = true) (hb : byT w = true)
    (q : Q (((pickOrder (w.params.setOrder a ep) es)[i]?).map fun e => (e.2, f)) s) : wpAny (model prog w) A (setNext a f i ep) Q E s := by
  unfold setNext setsByText
  refine wpAny_bind (wpAny_setState_of ho hd hf (wpAny_bind (wpAny_bind (wpAny_askSetting (wpAny_pure ?_)))))
  dsimp only
  rw [show (model prog w).w.params.followText "set-order" = true from hb, if_pos rfl, if_neg (by simp)]
  unfold setWalk setsByText
  refine wpAny_bind (wpAny_bind (wpAny_setState_of ho hd hf (wpAny_bind (wpAny_bind (wpAny_askSetting (wpAny_pure ?_))))))
  dsimp only
  rw [show (model prog w).w.params.followText "set-order" = true from hb, if_pos rfl]
  refine wpAny_bind (wpAny_askSetting (wpAny_pure (wpAny_pure q)))
end
end L2
set_option Elab.async false
set_option linter.all false
set_option maxRecDepth 100000
set_option maxHeartbeats 4000000
namespace L2
open PySem PySem.Spec PyProof.Rows
theorem si_islot : Slot "set_iterator" "__iter__" "set_iterator.__iter__" := .of (owner := "set_iterator") (n := "__iter__") (by rw [typeLookup_type, builtinLookup_eq_fast]; kernel_rfl) (by decide +kernel) (by decide +kernel) (by decide +kernel) (by first | exact .inl (by decide +kernel) | exact .inr (by decide +kernel)) (by rw [isSubtype_type]; kernel_rfl)
theorem si_ientry : entryFor table "set_iterator.__iter__" = some Builtin.«dict_keyiterator.__iter__» := entryFor_alias (id' := "dict_keyiterator.__iter__") (by kernel_rfl) rfl (by decide +kernel) (by kernel_rfl)
theorem si_iargs (a : Value) : argsOk "set_iterator.__iter__" ⟨[a], []⟩ := by unfold argsOk; kernel_rfl
section
variable {prog : Program} {w : World} {A : Around} {E : Value → Shared → Prop} {s : Shared}
theorem self_si {I : Addr} {Q : Value → Shared → Prop} (ty : s.TypeIs (.ref I) "set_iterator") (h : Q (.ref I) s) : wpAny (model prog w) A (pyIter (.ref I)) Q E s := by
  refine wpAny_pyIter_slot ty si_islot (wpAny_call_entry si_islot ty si_ientry ?_ (si_iargs _))
  show wpAny _ _ (ret (.ref I)) _ _ s
  exact wpAny_pure ⟨_, rfl, "set_iterator", _, ty, si_slot.lookup, h⟩
theorem sti_frame {h h' : Heap} {I a : Addr} {o : Obj} {first : Value} {i n ep : Nat} (x : Sti h I a o first i n ep) (k : ∀ b ∈ [I, a], ∀ o, h.get? b = some o → h'.get? b = some o) : Sti h' I a o first i n ep := ⟨k I (by simp) _ x.it, k a (by simp) _ x.st⟩
end
end L2
set_option Elab.async false
set_option linter.all false
set_option maxRecDepth 100000
set_option maxHeartbeats 4000000
namespace L2
open PySem PySem.Spec PyProof.Rows
section
variable {prog : Program} {w : World} {A : Around} {E : Value → Shared → Prop} {s : Shared}
theorem hint_set {a : Addr} {Q : Bool → Shared → Prop} (ty : s.TypeIs (.ref a) "set") (q : Q false s) : wpAny (model prog w) A (Builtin.List.listLengthHint (.ref a)) Q E s := by
  unfold Builtin.List.listLengthHint
  refine wpAny_bind (wpAny_specialOf ty F.slot_set_len.lookup ?_)
  have e1 : splitId "set.__len__" = some ("set", "__len__") := by kernel_rfl
  dsimp only
  rw [e1]
  dsimp only
  refine wpAny_bind (wpAny_isInstance ty sub_set_self ?_)
  simp only [Bool.not_true, Bool.false_eq_true, if_false]
  rw [if_pos (by decide +kernel)]
  exact wpAny_bind (wpAny_typeOf ty (wpAny_pure q))
end
section
variable {X : Cx}
theorem Inv.drawnAt {pins : List (Addr × Obj)} {σ : St} {H : Hp} {s : Shared} (I : Inv X pins σ H s) (d : Drawn) : Inv X pins σ H { s with drawn := d } :=
  I.step (g' := s.gens) (t' := s.toks) (d' := d) (h' := s.heap) (ch := []) (fun _ z => nomatch z) (fun _ _ _ _ _ e _ => e) (fun _ o _ _ _ e _ => ⟨o.slots, e⟩) (fun _ _ _ _ n => n) (fun _ o _ e => ⟨o, e⟩) (fun _ _ e => e) (fun _ _ _ e => e) (fun _ ps e => ⟨#[], by rw [e]; simp⟩) (fun _ h => h) I.hok I.bare
end
end L2
set_option Elab.async false
set_option linter.all false
set_option maxRecDepth 100000
namespace L2
open PySem PySem.Spec PyProof.Rows
section
variable {K : PySem.W.Frag} {D : Addr} {z : Str} {g : TG} {tt : TT} {te : TE} {σ0 : St} {H : Hp} {Q : Hp → Prop}
end
section
variable {X : Cx} {CX : CXT} {k : Nat} {f C : Addr} {fd : FuncData} {ps : List Str} {sp : Sp} {x : Str} {p pos : Pos} {e : Expr} {es : List Expr} {t : TA} {W : St → XK}
end
section
variable {X : Cx}
end
end L2
set_option Elab.async false
set_option linter.all false
set_option maxRecDepth 100000
namespace L2
open PySem PySem.Spec PyProof.Rows
structure CompSc1 (sc osc : Scope) (N' N : List Str) (srcs : List (Option Nat)) (k : Str) : Prop where
  kind : sc.kind = .function
  own : ∀ n cl, cellsFrom n sc.names cl = (k, n) :: cl
  push : ∀ h : Heap, pushCells h sc.names = h.push { cls := .type "cell", data := .cell none }
  cells : ∀ y ∈ sc.names, y.2 = .cell → y.1 = k
  kc : sc.names.lookup k = some .cell
  one : ∀ y ∈ sc.names, y.2 = .local → sc.names.lookup y.1 = some .local
  frees : ∀ y ∈ sc.names, y.2 = .free → osc.names.lookup y.1 = some .cell ∨ osc.names.lookup y.1 = some .free
  nd : N'.Nodup
  len : srcs.length = N'.length
  out : ∀ i j : Nat, srcs[i]? = some (some j) → ∃ x, N'[i]? = some x ∧ N[j]? = some x ∧ sc.names.lookup x = some .free ∧ (osc.names.lookup x = some .cell ∨ osc.names.lookup x = some .free)
theorem relab_back1 {sc : Scope} {env : Env} {x k : Str} (hn : ∀ y ∈ sc.names, y.2 = .cell → y.1 = k) (h : (relabel sc env).names.lookup x = some .cell ∨ (relabel sc env).names.lookup x = some .free) : sc.names.lookup x = some .free ∨ x = k := by
  have e : (relabel sc env).names.lookup x = _ := relab
  cases q : sc.names.lookup x with
  | none => rw [q] at e; rw [e] at h; rcases h with z | z <;> cases z
  | some kk =>
    rw [q, Option.map_some] at e
    cases kk with
    | free => exact .inl rfl
    | cell => exact .inr (hn _ (PySem.mem_of_lookup q) rfl)
    | _ => rw [e] at h; rcases h with z | z <;> cases z
theorem newEnv_own {M : Model} {A : Around} {E : Value → Shared → Prop} {s : Shared} {scope : Scope} {globals : Addr} {cl : List (Str × Addr)} {qual : Str} {env0 : Env} {k : Str} {Q : Env → Shared → Prop}
    (own : ∀ n cl, cellsFrom n scope.names cl = (k, n) :: cl) (push : ∀ h : Heap, pushCells h scope.names = h.push { cls := .type "cell", data := .cell none })
    (hQ : Q (newEnv scope s.heap.objs.size globals ((k, s.heap.objs.size + 1) :: cl) qual none .none (some env0) builtinsNs) { s with heap := (s.heap.push { cls := .type "dict", data := .dict #[] }).push { cls := .type "cell", data := .cell none } }) :
    wpAny M A (newFunctionEnv scope globals cl [] qual none .none (some env0)) Q E s := by
  simp only [newFunctionEnv, Option.isSome_some, if_true]
  refine wpAny_bind (wpAny_alloc ?_)
  refine wpAny_bind (wpAny_layCells _ (fun name kind cells => by cases hkc : kind == NameKind.cell <;> simp [hkc]) _ _ _ _ ?_)
  rw [own, push]
  rw [show ({ s with heap := s.heap.push { cls := .type "dict", data := .dict #[] } } : Shared).heap.objs.size = s.heap.objs.size + 1 from Heap.size_push ..]
  rw [List.forIn_nil]
  exact wpAny_bind (wpAny_pure (wpAny_pure hQ))
def cxComp1 (X : Cx) (N' : List Str) (sc : Scope) (cl : List (Str × Addr)) (k : Str) (c0 C : Addr) (fp : List Addr) (pins : List (Addr × Obj)) (s₂ : Shared) (H₂ : Hp) : Cx :=
  { prog := X.prog, w := X.w, K := X.K, mg := X.mg, base := X.base, A := X.A, N := N', s₀ := s₂, H₀ := H₂, env := compEnvC sc ((k, c0) :: cl) C X.env, outer := X.stack, stack := X.stack, ex := fp, fn := fun y => y == k, calm := X.calm, pn := X.pn ++ pins, xe := fun _ _ => False }
theorem look_own {k x : Str} {c0 c : Addr} {cl : List (Str × Addr)} (e : ((k, c0) :: cl).lookup x = some c) : (x = k ∧ c = c0) ∨ (x ≠ k ∧ cl.lookup x = some c) := by
  rw [List.lookup_cons] at e
  cases q : x == k with
  | true => rw [q] at e; cases e; exact .inl ⟨beq_iff_eq.mp q, rfl⟩
  | false => rw [q] at e; exact .inr ⟨fun z => (by rw [z, beq_self_eq_true] at q; cases q), e⟩
theorem own_look {k : Str} {c0 : Addr} {cl : List (Str × Addr)} : ((k, c0) :: cl).lookup k = some c0 := by rw [List.lookup_cons, beq_self_eq_true]
theorem own_other {k x : Str} {c0 c : Addr} {cl : List (Str × Addr)} (h : x ≠ k) (e : cl.lookup x = some c) : ((k, c0) :: cl).lookup x = some c := by
  rw [List.lookup_cons, beq_eq_false_iff_ne.mpr h]; exact e
section
variable {X : Cx} {N' : List Str} {sc : Scope} {srcs : List (Option Nat)} {cl : List (Str × Addr)} {k : Str} {c0 C : Addr} {fp : List Addr} {pins : List (Addr × Obj)} {s₂ : Shared} {H₂ : Hp} {σ : St}
theorem cx_ok1 (S : CompSc1 sc X.env.scope N' X.N srcs k) (I : Inv X pins σ H₂ s₂) (hcl : ∀ x c, cl.lookup x = some c → X.env.cells.lookup x = some c) (hcl2 : ∀ y ∈ sc.names, y.2 = .free → ∃ c, cl.lookup y.1 = some c)
    (hC : s₂.heap.objs.size ≤ C) (hc0 : s₂.heap.objs.size ≤ c0) (hfp : ∀ b ∈ fp, FpOk X pins H₂ b) (hfo : ∀ b ∈ fp, ∃ o, s₂.heap.get? b = some o) : (cxComp1 X N' sc cl k c0 C fp pins s₂ H₂).Ok where
  mod := I.ok.mod
  kind := S.kind
  glob := I.ok.glob
  blt := I.ok.blt
  above := hC
  inj := fun x y c h1 h2 => by
    have old : ∀ z, cl.lookup z = some c0 → False := fun z e => by
      obtain ⟨v, q⟩ := I.cell z c0 (hcl z c0 e)
      exact absurd (Nat.lt_of_lt_of_le q.lt hc0) (Nat.lt_irrefl _)
    rcases look_own h1 with ⟨a1, b1⟩ | ⟨a1, b1⟩ <;> rcases look_own h2 with ⟨a2, b2⟩ | ⟨a2, b2⟩
    · rw [a1, a2]
    · subst b1; exact (old _ b2).elim
    · subst b2; exact (old _ b1).elim
    · exact I.ok.inj x y c (hcl x c b1) (hcl y c b2)
  has := fun x hx => by
    by_cases hxk : x = k
    · subst hxk; exact ⟨c0, own_look⟩
    · rcases relab_back1 S.cells hx with z | z
      · obtain ⟨c, e⟩ := hcl2 _ (PySem.mem_of_lookup z) rfl
        exact ⟨c, own_other hxk e⟩
      · exact absurd z hxk
  cab := fun x c hf e => by
    have hxk : x = k := beq_iff_eq.mp hf
    rcases look_own e with ⟨_, b⟩ | ⟨a, _⟩
    · rw [b]; exact hc0
    · exact absurd hxk a
  hd := I.ok.hd
  frames := I.ok.frames
  stk := .inl rfl
  exf := fun b hb => by
    obtain ⟨o, ho⟩ := hfo b hb
    refine ⟨Nat.ne_of_lt (Nat.lt_of_lt_of_le (Heap.lt_size ho) hC), fun x c e => ?_⟩
    rcases look_own e with ⟨_, z⟩ | ⟨_, z⟩
    · rw [z]; exact Nat.ne_of_gt (Nat.lt_of_lt_of_le (Heap.lt_size ho) hc0)
    · exact (hfp b hb).2.2.2.2.1 x c (hcl x c z)
  bs := I.bs
  bsz := Nat.le_trans I.ok.bsz I.sz
  noex := fun b o e hb => by
    rcases (hfp b hb).2.2.2.1 with z | z
    · exact I.ok.noex b o e z
    · exact absurd (Nat.lt_of_lt_of_le (Heap.lt_size (I.ok.bs b o e).1) z) (Nat.lt_irrefl _)
  exfs := fun b hb z => (List.mem_cons.mp (I.stkSub b z)).elim (hfp b hb).2.1 (hfp b hb).2.2.1
  funs := I.stack
  frf := I.stkFree
theorem comp_begin1 {D : Addr} {h₁ : Heap} {tk : Nat} {m : Str → Option Value} (S : CompSc1 sc X.env.scope N' X.N srcs k) (I : Inv X pins σ H₂ s₂) (hcl : ∀ x c, cl.lookup x = some c → X.env.cells.lookup x = some c) (hcl2 : ∀ y ∈ sc.names, y.2 = .free → ∃ c, cl.lookup y.1 = some c)
    (hfp : ∀ b ∈ fp, FpOk X pins H₂ b) (hfo : ∀ b ∈ fp, ∃ o, s₂.heap.get? b = some o) (hD : D = s₂.heap.objs.size) (hC : C = s₂.heap.objs.size + 1) (hc0 : c0 = s₂.heap.objs.size + 2) (hcell : h₁.IsCell c0 none) (hk : ∀ b o, (s₂.heap.push { cls := .type "list", data := .seq #[] }).get? b = some o → h₁.get? b = some o) (hns : h₁.Ns C m) :
    Inv (cxComp1 X N' sc cl k c0 C fp pins s₂ H₂) [] (srcSt srcs σ) (upd H₂ D (.lst [])) { s₂ with heap := h₁, toks := tk } := by
  subst hD
  have hCle : s₂.heap.objs.size ≤ C := by rw [hC]; exact Nat.le_succ _
  have hc0le : s₂.heap.objs.size ≤ c0 := by rw [hc0]; exact Nat.le_add_right _ _
  have ok := cx_ok1 S I hcl hcl2 hCle hc0le hfp hfo
  have I3 := I.lnew (ys := []) (its := []) (t' := tk) .nil (Nat.zero_le _)
  have I4 : Inv X pins σ (upd H₂ s₂.heap.objs.size (.lst [])) { s₂ with heap := h₁, toks := tk } := I3.kept (t' := tk) hk
  have old : ∀ b o, s₂.heap.get? b = some o → h₁.get? b = some o := fun b o e => hk b o (Heap.get?_push_of_some _ e)
  have neD : ∀ b o, s₂.heap.get? b = some o → b ≠ s₂.heap.objs.size := fun b o e => Nat.ne_of_lt (Heap.lt_size e)
  have cellOld : ∀ x c, cl.lookup x = some c → ∃ v o, s₂.heap.get? c = some o ∧ o.data = .cell v := fun x c e => by
    obtain ⟨v, o, ho, hd⟩ := I.cell x c (hcl x c e)
    exact ⟨v, o, ho, hd⟩
  refine ⟨ok, rfl, I.bare, Un.laid old (Nat.le_refl _) I.fresh, ⟨m, hns, fun i x v e1 e2 e3 => ?_⟩, fun x c e => ?_, ?_, fun x c e => ?_, fun p hp => ?_, I4.hok, ?_⟩
  · have e2' : (srcs[i]?).map (fun o => o.bind fun j => (σ[j]?).join) = some (some v) := by
      have := e2
      unfold srcSt at this
      rwa [List.getElem?_map] at this
    cases q : srcs[i]? with
    | none => rw [q] at e2'; cases e2'
    | some oj =>
      rw [q, Option.map_some] at e2'
      cases oj with
      | none => cases e2'
      | some j =>
        have e4 : (σ[j]?).join = some v := by simpa using e2'
        have e5 : σ[j]? = some (some v) := by
          cases z : σ[j]? with
          | none => rw [z] at e4; cases e4
          | some w => rw [z] at e4; rw [← e4]; rfl
        obtain ⟨x', n1, n2, n3, n4⟩ := S.out i j q
        have e1' : N'[i]? = some x := e1
        rw [n1] at e1'; cases e1'
        obtain ⟨m2, hn2, hl⟩ := I.loc
        have hv : Vis X.env.scope x := n4.elim (fun z => .inr (.inl z)) fun z => .inr (.inr z)
        obtain ⟨u, r, l⟩ := hl j x v n2 e5 hv
        refine ⟨u, r, .inr ⟨relab_free n3, ?_⟩⟩
        rcases l with ⟨k, _⟩ | ⟨_, c, ec, z⟩
        · have k' : X.env.scope.names.lookup x = some .local := k
          rcases n4 with z | z <;> rw [k'] at z <;> cases z
        · obtain ⟨c', ec'⟩ := hcl2 _ (PySem.mem_of_lookup n3) rfl
          have := hcl x c' ec'
          rw [ec] at this; cases this
          obtain ⟨o, ho, hd⟩ := z
          have hxk : x ≠ k := fun z => by rw [z, S.kc] at n3; cases n3
          exact ⟨c, own_other hxk ec', o, old c o ho, hd⟩
  · rcases look_own e with ⟨_, z⟩ | ⟨_, z⟩
    · rw [z]; exact ⟨none, hcell⟩
    · obtain ⟨v, o, ho, hd⟩ := cellOld x c z
      exact ⟨v, o, old c o ho, hd⟩
  · show upd H₂ s₂.heap.objs.size (.lst []) C = none
    rw [upd_ne (by rw [hC]; exact Nat.succ_ne_self _)]
    exact I.hok.fresh hCle
  · rcases look_own e with ⟨_, z⟩ | ⟨_, e⟩
    · show upd H₂ s₂.heap.objs.size (.lst []) c = none
      rw [z, upd_ne (by rw [hc0]; exact Nat.ne_of_gt (Nat.lt_add_of_pos_right (by decide)))]
      exact I.hok.fresh hc0le
    obtain ⟨v, o, ho, hd⟩ := cellOld x c e
    show upd H₂ s₂.heap.objs.size (.lst []) c = none
    rw [upd_ne (neD c o ho)]
    exact I.freeC x c (hcl x c e)
  · have hp' : p ∈ X.pn ++ pins := by simpa [cxComp1] using hp
    obtain ⟨e, n, ne, nf, d⟩ := I.pin p hp'
    obtain ⟨_, n4, _⟩ := I4.pin p hp'
    exact ⟨old _ _ e, n4, Nat.ne_of_lt (Nat.lt_of_lt_of_le (Heap.lt_size e) hCle), fun z => (List.mem_cons.mp (I.stkSub _ z)).elim ne nf, d⟩
  · show (srcs.map _).length = N'.length
    rw [List.length_map]
    exact S.len
theorem comp_end1 {H' : Hp} {σ' : St} {s' : Shared} (I : Inv X pins σ H₂ s₂) (hfp : ∀ b ∈ fp, FpOk X pins H₂ b) (J : Inv (cxComp1 X N' sc cl k c0 C fp pins s₂ H₂) [] σ' H' s') : Inv X pins σ H' s' :=
  I.call' J.os J.base J.hok J.bare fun b hb => ⟨(hfp b hb).2.2.2.1, (hfp b hb).2.1, (hfp b hb).2.2.2.2.1, (hfp b hb).2.2.2.2.2⟩
theorem comp_block1 {elt tg iter : Expr} {ifs : List Expr} {sc : Scope} {srcs : List (Option Nat)} {N' : List Str} {pos : Pos} {wi : TI} {g : TG} {tt : TT} {te : TE} {s : Shared} {H : Hp} {use : Option (Value → Sem Unit)} {Qv : Value → Shared → Prop} {Q : VK}
    (hc : X.calm = true) (S : CompSc1 sc X.env.scope N' X.N srcs k) (hi : PI X tg iter wi)
    (hg : ∀ cl c0 C fp pins s₂ H₂, PG (cxComp1 X N' sc cl k c0 C fp pins s₂ H₂) tg g) (ht : ∀ cl c0 C fp pins s₂ H₂, PTs (cxComp1 X N' sc cl k c0 C fp pins s₂ H₂) ifs tt) (he : ∀ cl c0 C fp pins s₂ H₂, PE (cxComp1 X N' sc cl k c0 C fp pins s₂ H₂) elt te)
    (hs : ∀ x, foldedSetIterable iter X.env x = pure x) (I : Inv X pins σ H s) (h : tComp srcs wi g tt te σ H Q)
    (post : ∀ D C H' s' m, (∀ h', Heap.SameBut C s'.heap h' → Inv X pins σ H' { s' with heap := h' }) → Inv X pins σ H' s' → s'.heap.Ns C m → (∀ x c, X.env.cells.lookup x = some c → c ≠ C) → X.env.locals ≠ C → H' C = none →
      (∀ σ' s'' h', Inv X pins σ' H' s'' → Heap.SameBut C s''.heap h' → Inv X pins σ' H' { s'' with heap := h' }) → Q (.ref D) H' → compPost (model X.prog X.w) X.A X.xe use Qv (.ref D) C (.ok .next) s') :
    wpAny (model X.prog X.w) X.A (comprehension (.ListComp elt [⟨tg, iter, ifs, 0⟩] sc pos) sc X.env (firstIterPos [⟨tg, iter, ifs, 0⟩] pos) (newList []) false (eval iter X.env) use) Qv X.xe s := by
  obtain ⟨cl, hclos, hcl, hcl2⟩ := clos_mk (env := X.env) (sc := sc) fun y hy hf => I.ok.has y.1 (S.frees y hy hf)
  refine wpAny_comprehension_free rfl hs hclos S.kind S.one (thn (hi pins s σ H _ I h) fun xv s₁ h₁ => thn h₁ fun itv s₂ h₂ => ?_)
  obtain ⟨it, fp, tn, J, H₂, e, I₂, T, st₂, f₂, rd⟩ := h₂
  subst e
  refine wpAny_newObj_type (newEnv_own S.own S.push ?_)
  dsimp only
  have hfo : ∀ b ∈ fp, ∃ o, s₂.heap.get? b = some o := fun b hb => let ⟨o, e, _⟩ := T.obj _ _ st₂ b hb; ⟨o, e⟩
  have hCe : (s₂.heap.push { cls := .type "list", dict := none, data := .seq ([] : List Value).toArray }).objs.size = s₂.heap.objs.size + 1 := Heap.size_push ..
  have hns := ((Heap.Ns.new (s₂.heap.push { cls := .type "list", dict := none, data := .seq ([] : List Value).toArray }) (.type "dict")).keeps fun b o e => Heap.get?_push_of_some { cls := .type "cell", data := .cell none } e)
  have hcell : (((s₂.heap.push { cls := .type "list", dict := none, data := .seq ([] : List Value).toArray }).push { cls := .type "dict", data := .dict #[] }).push { cls := .type "cell", data := .cell none }).IsCell (s₂.heap.objs.size + 2) none := by
    have e : ((s₂.heap.push { cls := .type "list", dict := none, data := .seq ([] : List Value).toArray }).push { cls := .type "dict", data := .dict #[] }).objs.size = s₂.heap.objs.size + 2 := by rw [Heap.size_push, Heap.size_push]
    have q := Heap.get?_push_size ((s₂.heap.push { cls := .type "list", dict := none, data := .seq ([] : List Value).toArray }).push { cls := .type "dict", data := .dict #[] }) (o := { cls := .type "cell", data := .cell none }) rfl
    rw [e] at q
    exact ⟨_, q, rfl⟩
  have hk : ∀ b o, (s₂.heap.push { cls := .type "list", data := .seq #[] }).get? b = some o → (((s₂.heap.push { cls := .type "list", dict := none, data := .seq ([] : List Value).toArray }).push { cls := .type "dict", data := .dict #[] }).push { cls := .type "cell", data := .cell none }).get? b = some o := fun b o e => Heap.get?_push_of_some _ (Heap.get?_push_of_some _ e)
  generalize ((s₂.heap.push { cls := .type "list", dict := none, data := .seq ([] : List Value).toArray }).push { cls := .type "dict", data := .dict #[] }).push { cls := .type "cell", data := .cell none } = h₁ at hns hcell hk ⊢
  have IB := comp_begin1 (tk := s₂.toks) S I₂ hcl hcl2 f₂ hfo rfl hCe rfl hcell hk hns
  generalize (s₂.heap.push { cls := .type "list", dict := none, data := .seq ([] : List Value).toArray }).objs.size = C at hCe hns IB ⊢
  have hc0le : s₂.heap.objs.size ≤ s₂.heap.objs.size + 2 := Nat.le_add_right _ _
  have hc0e : C + 1 = s₂.heap.objs.size + 2 := by rw [hCe]
  rw [hc0e]
  generalize s₂.heap.objs.size + 2 = c0 at hc0le hcell IB ⊢
  clear hc0e
  generalize hD : s₂.heap.objs.size = D at IB hCe ⊢
  have hCle : s₂.heap.objs.size ≤ C := by rw [hD, hCe]; exact Nat.le_succ _
  obtain ⟨W, ⟨m0, w0⟩, turn⟩ := rd D (by rw [← hD]; exact I₂.fresh)
  have fpB : ∀ {H' : Hp}, (∀ b ∈ fp, H' b = none) → ∀ b ∈ fp, FpOk (cxComp1 X N' sc cl k c0 C fp pins s₂ H₂) [] H' b := fun hn b hb => by
    obtain ⟨z1, z2⟩ := (cx_ok1 S I₂ hcl hcl2 hCle hc0le f₂ hfo).exf b hb
    exact ⟨hn b hb, z1, (cx_ok1 S I₂ hcl hcl2 hCle hc0le f₂ hfo).exfs b hb, .inl hb, z2, fun p hp => (f₂ b hb).2.2.2.2.2 p (by simpa [cxComp1] using hp)⟩
  have fr0 : ∀ b ∈ fp, (upd H₂ D (.lst [])) b = none := fun b hb => by
    obtain ⟨o, ho⟩ := hfo b hb
    rw [upd_ne (by rw [← hD]; exact Nat.ne_of_lt (Heap.lt_size ho))]
    exact (f₂ b hb).1
  have st0 : tn 0 h₁ := T.keep _ _ _ st₂ fun b hb o e => hk b o (Heap.get?_push_of_some _ e)
  have loop : codeAny (model X.prog X.w) X.A (.compLoop (.ListComp elt [⟨tg, iter, ifs, 0⟩] sc pos) 0 (.ref it) (.ref D) (compEnvC sc ((k, c0) :: cl) C X.env)) (compPost (model X.prog X.w) X.A X.xe use Qv (.ref D) C) { s₂ with heap := h₁ } := by
    refine comp_turns (fun n s' => ∃ i σ' H', Inv (cxComp1 X N' sc cl k c0 C fp pins s₂ H₂) [] σ' H' s' ∧ tn i s'.heap ∧ (∀ b ∈ fp, H' b = none) ∧ W i n σ' H') ?_ m0 ⟨0, _, _, IB, st0, fr0, w0⟩
    rintro n s3 ⟨i, σ3, H3, I3, st3, fr3, w3⟩
    rcases turn i n σ3 H3 w3 with ⟨stop, qn⟩ | ⟨go, N, hN, step⟩
    · refine thn (T.done (cxComp1 X N' sc cl k c0 C fp pins s₂ H₂) rfl rfl rfl hc i [] s3 σ3 H3 _ I3 (fpB fr3) st3 stop) fun r s4 ⟨hr, I4⟩ => ?_
      subst hr
      have JX := comp_end1 I₂ f₂ I4
      obtain ⟨m, hn, _⟩ := I4.loc
      have cn : ∀ x c, X.env.cells.lookup x = some c → c ≠ C := fun x c e z => by
        obtain ⟨v, q⟩ := I₂.cell x c e
        exact absurd (Nat.lt_of_lt_of_le q.lt (by rw [z]; exact hCle)) (Nat.lt_irrefl _)
      have gone : ∀ σ' s'' h', Inv X pins σ' H3 s'' → Heap.SameBut C s''.heap h' → Inv X pins σ' H3 { s'' with heap := h' } := fun σ' s'' h' K3 hs3 =>
        K3.turned (t' := s''.toks) (it := C) (fun b o hb e => (hs3.2 b hb).trans e) I4.free (Nat.ne_of_gt (Nat.lt_of_lt_of_le I₂.lt hCle)) (.inr (Nat.le_trans I₂.sz hCle)) cn fun p hp z => by
          exact absurd (Nat.lt_of_lt_of_le (Heap.lt_size (I₂.pin p hp).1) (by rw [z]; exact hCle)) (Nat.lt_irrefl _)
      exact post D C H3 s4 m (fun h' hs' => gone σ s4 h' JX hs') JX hn cn (Nat.ne_of_lt (Nat.lt_of_lt_of_le I₂.lt hCle)) I4.free gone qn
    · refine thn (T.item (cxComp1 X N' sc cl k c0 C fp pins s₂ H₂) rfl rfl rfl hc i [] s3 σ3 H3 _ I3 (fpB fr3) st3 go) fun r s4 ⟨u, hr, h4⟩ => ?_
      subst hr
      refine thn h4 fun _ s5 ⟨x, H5, I5, r5, y5, st5, fr5⟩ => ?_
      have I5' := I5.pinned (fpB fr5) (T.obj _ _ st5)
      refine thn (hg cl c0 C fp pins s₂ H₂ _ s5 σ3 H5 x u _ I5' r5 (step x H5 y5)) fun _ s6 ⟨σ6, H6, I6, q6⟩ => ?_
      refine thn (ht cl c0 C fp pins s₂ H₂ _ s6 σ6 H6 _ I6 q6) fun ok s7 ⟨H7, I7, q7⟩ => ?_
      have again : ∀ {H8 : Hp} {s8 : Shared}, Inv (cxComp1 X N' sc cl k c0 C fp pins s₂ H₂) ([] ++ pinsAt fp s5.heap) σ6 H8 s8 → N σ6 H8 → ∃ m, m < n ∧ ∃ i σ' H', Inv (cxComp1 X N' sc cl k c0 C fp pins s₂ H₂) [] σ' H' s8 ∧ tn i s8.heap ∧ (∀ b ∈ fp, H' b = none) ∧ W i m σ' H' := fun {H8 s8} I8 n8 => by
        obtain ⟨m', hm, w8⟩ := hN σ6 H8 n8
        refine ⟨m', hm, i + 1, σ6, H8, I8.unpinned, T.keep _ _ _ st5 fun b hb o e => (I8.pin (b, o) (List.mem_append_right _ (List.mem_append_right _ (mem_pinsAt hb e)))).1, fun b hb => ?_, w8⟩
        obtain ⟨o, e, d⟩ := T.obj _ _ st5 b hb
        exact (I8.pin (b, o) (List.mem_append_right _ (List.mem_append_right _ (mem_pinsAt hb e)))).2.1
      cases ok with
      | false => exact again I7 q7
      | true =>
        refine thn (he cl c0 C fp pins s₂ H₂ _ s7 σ6 H7 _ I7 q7) fun y s8 ⟨v, H8, I8, r8, q8⟩ => ?_
        obtain ⟨ys, hy, hz, n8⟩ := q8
        refine thn (mt_append _ s8 σ6 H8 (.ref D) [v] (.ref D) [y] (fun _ H9 => N σ6 H9) I8 rfl (.cons r8 .nil) ⟨D, ys, v, rfl, rfl, hy, hz, n8⟩) fun _ s9 ⟨_, H9, I9, _, q9⟩ => ?_
        exact again I9 q9
  exact codeAny_compStart_list loop (T.self _ 0 _ _ _ st0 loop)
theorem ps_setC1 {elt tg iter : Expr} {ifs : List Expr} {sc : Scope} {srcs : List (Option Nat)} {N' : List Str} {pos spos pos' : Pos} {wi : TI} {g : TG} {tt : TT} {te : TE} {j : Nat} {y : Str} (hc : X.calm = true) (nd : X.N.Nodup) (hj : X.N[j]? = some y) (hy : Loc X.env.scope y) (S : CompSc1 sc X.env.scope N' X.N srcs k) (hi : PI X tg iter wi)
    (hg : ∀ cl c0 C fp pins s₂ H₂, PG (cxComp1 X N' sc cl k c0 C fp pins s₂ H₂) tg g) (ht : ∀ cl c0 C fp pins s₂ H₂, PTs (cxComp1 X N' sc cl k c0 C fp pins s₂ H₂) ifs tt) (he : ∀ cl c0 C fp pins s₂ H₂, PE (cxComp1 X N' sc cl k c0 C fp pins s₂ H₂) elt te)
    (hsw : swapsWith (.ListComp elt [⟨tg, iter, ifs, 0⟩] sc pos) (some (.Name y pos')) spos.line X.env = pure true) (hs : ∀ x, foldedSetIterable iter X.env x = pure x := by intro _; rfl)
    (hf : X.fn y = true ∨ X.env.scope.names.lookup y = some .local := by first | exact .inl rfl | exact .inr rfl | assumption) :
    PS X (.Assign [.Name y pos'] (.ListComp elt [⟨tg, iter, ifs, 0⟩] sc pos) spos) (tAsg (tComp srcs wi g tt te) (gName j)) := by
  intro pins s σ H D I h
  rw [exec_Assign_Name_used _ _ _ _ hsw]
  refine wpAny_bind (wpAny_standAt (wpAny_bind ?_))
  show wpAny _ X.A (do let _ ← comprehension (.ListComp elt [⟨tg, iter, ifs, 0⟩] sc pos) sc X.env _ (newList []) false (eval iter X.env) (some (assign (.Name y pos') X.env))) _ _ s
  refine wpAny_bind (thn (comp_block1 (use := some (assign (.Name y pos') X.env)) (Qv := fun _ s' => SP X pins D .next s') hc S hi hg ht he hs I h fun L C H' s' m g1 J hn cn ln fr g2 q => ?_) fun _ s' hq => wpAny_pure (wpAny_pure hq))
  show wpAny _ X.A (assign (.Name y pos') X.env (.ref L)) _ _ _
  refine wpAny_assign_Name (store_ok2 J nd hj hy (v := .ref L) rfl (fun s'' K hsame => ?_) hf)
  obtain ⟨a, hsm, ha⟩ := hsame
  have hac : C ≠ a := by
    rcases ha with z | z
    · rw [z]; exact Ne.symm ln
    · exact Ne.symm (cn y a z)
  exact ⟨m, hn.sameBut hsm hac, fun h' hs' => ⟨_, H', g2 _ s'' h' K hs', q⟩⟩
end
end L2
set_option Elab.async false
set_option linter.all false
set_option maxRecDepth 100000
namespace L2
open PySem PySem.Spec PyProof.Rows
theorem fm_map {α β : Type} {f : α → Option β} {g : α → β} : ∀ {l : List α}, (∀ x ∈ l, f x = some (g x)) → l.filterMap f = l.map g
  | [], _ => rfl
  | x :: l, h => by
    rw [List.filterMap_cons, h x List.mem_cons_self, List.map_cons, fm_map fun y hy => h y (List.mem_cons_of_mem _ hy)]
theorem slice_rev (items : Array Value) : slicePick items none none (some (-1)) = items.toList.reverse.toArray := by
  have hb : sliceBounds none none (some (-1)) items.size = ((items.size : Int) - 1, -1, -1) := by simp [sliceBounds]
  unfold slicePick
  rw [hb]
  have hr : sliceRange ((items.size : Int) - 1) (-1) (-1) = (List.range items.size).map fun k => items.size - 1 - k := by
    unfold sliceRange
    have hc : (if (-1 : Int) > 0 then (if (items.size : Int) - 1 < -1 then ((-1 : Int) - ((items.size : Int) - 1) + -1 - 1) / -1 else 0) else (if (items.size : Int) - 1 > -1 then ((items.size : Int) - 1 - -1 - -1 - 1) / (- -1) else 0)).toNat = items.size := by
      rw [if_neg (by decide)]
      by_cases h : (items.size : Int) - 1 > -1
      · rw [if_pos h, show (-(-1 : Int)) = 1 from rfl, Int.ediv_one]; omega
      · rw [if_neg h]; omega
    simp only [hc]
    refine List.map_congr_left fun k hk => ?_
    have := List.mem_range.mp hk
    omega
  rw [hr, List.filterMap_map]
  congr 1
  rw [fm_map (g := fun k => items.toList.getD (items.size - 1 - k) .none)]
  · refine List.ext_getElem (by simp) fun i h1 h2 => ?_
    have hi : i < items.size := by simpa using h1
    rw [List.getElem_map, List.getElem_range, List.getElem_reverse, List.getD_eq_getElem?_getD, List.getElem?_eq_getElem (by simp; omega)]
    simp
  · intro k hk
    have := List.mem_range.mp hk
    show items[items.size - 1 - k]? = _
    rw [List.getD_eq_getElem?_getD, ← Array.getElem?_toList, List.getElem?_eq_getElem (by simp; omega)]
    rfl
section
variable {X : Cx} {e st : Expr} {te : TE} {ts : TO} {pos p2 : Pos}
def tRev (K : PySem.W.Frag) (te : TE) (ts : TO) : TE := fun σ H Q => te σ H fun x H1 => ts σ H1 fun u H2 => u = some (-1) ∧ ∃ p xs, x = .ref p ∧ SqL K H2 p xs ∧ ∀ l, H2 l = none → Q (.ref l) (upd H2 l (.lst xs.reverse))
theorem pe_rev (he : PE X e te) (hst : PO X (some st) ts) : PE X (.Subscript e (.Slice none none (some st) p2) pos) (tRev X.K te ts) := by
  intro pins s σ H Q I h
  refine Subscript_ (thn (he pins s σ H _ I h) fun v s1 ⟨x, H1, I1, r1, q1⟩ => ?_)
  refine wpAny_Slice ?_
  rw [evalPart_none]
  refine wpAny_pure ?_
  refine wpAny_pure ?_
  refine thn (hst pins s1 σ H1 _ I1 q1) fun vs s3 ⟨u, H3, I3, ps, q3⟩ => ?_
  obtain ⟨rfl, p, xs, rfl, hx, q⟩ := q3
  cases r1
  have I4 : Inv X pins σ H3 { s3 with heap := s3.heap.push { cls := .type "slice", data := .fields #[.none, .none, vs] } } := I3.kept (t' := s3.toks) fun b ob q => Heap.get?_push_of_some _ q
  obtain ⟨its, r, ht, hz⟩ := I4.list hx
  have hlen := r.length
  show wpAny (model X.prog X.w) X.A (subscriptTail e (.Slice none none (some st) p2) (.ref p) (.ref s3.heap.objs.size)) (EP X pins σ Q) X.xe { s3 with heap := s3.heap.push { cls := .type "slice", data := .fields #[.none, .none, vs] } }
  refine tail_any (ops := [.ref p, .ref s3.heap.objs.size]) ht.isList.typeIs slot_list_getitem.lookup ?_ (by with_unfolding_all rfl)
  refine wpAny_getItem_list_slice ht.isList (Heap.IsSliceOf.new ..) .none .none ps (by simp) ?_ (by rw [List.size_toArray] <;> omega)
  rw [slice_rev]
  have fr : H3 (s3.heap.push { cls := .type "slice", data := .fields #[.none, .none, vs] }).objs.size = none := I4.hok.fresh (Nat.le_refl _)
  refine ⟨.ref _, _, I4.laid (t' := s3.toks) (o := .lst xs.reverse) (fun b ob q => Heap.get?_push_of_some _ q) (Nat.le_refl _) ?_, rfl, q _ fr⟩
  exact ⟨by rw [List.length_reverse]; exact hz, _, 0, r.reverse, Heap.get?_push_size _ rfl⟩
end
end L2
set_option Elab.async false
set_option linter.all false
set_option maxRecDepth 100000
namespace L2
open PySem PySem.Spec PyProof.Rows
def Ri (xs : Array Nat) : Prop := ∀ i j, i < j → j < xs.size → xs.getD i 0 < xs.getD j 0
def Bel (xs : Array Nat) (j p : Nat) : Prop := p ≤ xs.size ∧ (∀ i, i < p → xs.getD i 0 < j) ∧ ∀ i, p ≤ i → i < xs.size → j ≤ xs.getD i 0
theorem getD_any {xs : Array Nat} {i : Nat} (d : Nat) (h : i < xs.size) : xs.getD i d = xs.getD i 0 := by
  simp [Array.getD, h]
theorem go_spec {xs : Array Nat} {j : Nat} (r : Ri xs) : ∀ (fuel lo hi : Nat), lo ≤ hi → hi ≤ xs.size → hi - lo ≤ fuel → (∀ i, i < lo → xs.getD i 0 < j) → (∀ i, hi ≤ i → i < xs.size → j ≤ xs.getD i 0) → Bel xs j (SetTable.below.go xs j fuel lo hi)
  | 0, lo, hi, h1, h2, h3, h4, h5 => by
    unfold SetTable.below.go
    exact ⟨by omega, h4, fun i a b => h5 i (by omega) b⟩
  | fuel + 1, lo, hi, h1, h2, h3, h4, h5 => by
    unfold SetTable.below.go
    by_cases h : lo < hi
    · rw [if_pos h]
      dsimp only
      have hm : (lo + hi) / 2 < hi ∧ lo ≤ (lo + hi) / 2 := by omega
      rw [getD_any j (by omega)]
      by_cases q : xs.getD ((lo + hi) / 2) 0 < j
      · rw [if_pos q]
        refine go_spec r fuel _ _ (by omega) h2 (by omega) (fun i hi' => ?_) h5
        by_cases e : i = (lo + hi) / 2
        · rw [e]; exact q
        · exact Nat.lt_trans (r i _ (by omega) (by omega)) q
      · rw [if_neg q]
        refine go_spec r fuel _ _ hm.2 (by omega) (by omega) h4 (fun i a b => ?_)
        by_cases e : i = (lo + hi) / 2
        · rw [e]; omega
        · have := r _ i (show (lo + hi) / 2 < i by omega) b
          omega
    · rw [if_neg h]
      exact ⟨by omega, h4, fun i a b => h5 i (by omega) b⟩
theorem below_spec {xs : Array Nat} (r : Ri xs) (j : Nat) : Bel xs j (SetTable.below xs j) := go_spec r _ _ _ (Nat.zero_le _) (Nat.le_refl _) (by omega) (fun i h => absurd h (Nat.not_lt_zero _)) fun i a b => by omega
theorem below_zero {xs : Array Nat} (r : Ri xs) : SetTable.below xs 0 = 0 := by
  obtain ⟨_, b, _⟩ := below_spec r 0
  by_cases h : SetTable.below xs 0 = 0
  · exact h
  · exact absurd (b 0 (by omega)) (Nat.not_lt_zero _)
theorem below_next {xs : Array Nat} (r : Ri xs) {i : Nat} (h : i < xs.size) : SetTable.below xs (xs.getD i 0 + 1) = i + 1 := by
  obtain ⟨a, b, c⟩ := below_spec r (xs.getD i 0 + 1)
  generalize SetTable.below xs (xs.getD i 0 + 1) = p at a b c
  rcases Nat.lt_trichotomy p (i + 1) with q | q | q
  · have := c i (by omega) h
    omega
  · exact q
  · have := b (i + 1) q
    have := r i (i + 1) (by omega) (by omega)
    omega
theorem ri_range (n : Nat) : Ri (Array.range n) := fun i j h1 h2 => by
  have h2 : j < n := by simpa using h2
  simp [Array.getD, h2, show i < n by omega, h1]
theorem ri_list {l : List Nat} (h : l.Pairwise (· < ·)) : Ri l.toArray := fun i j h1 h2 => by
  have h2 : j < l.length := by simpa using h2
  have := List.pairwise_iff_getElem.mp h i j (by omega) h2 h1
  simpa [Array.getD, h2, show i < l.length by omega] using this
theorem ri_pair {xs : Array Nat} (r : Ri xs) : xs.toList.Pairwise (· < ·) := List.pairwise_iff_getElem.mpr fun i j hi hj h => by
  have hj' : j < xs.size := by simpa using hj
  have := r i j h hj'
  simpa [Array.getD, hj', show i < xs.size by omega] using this
theorem ri_insert {xs : Array Nat} (r : Ri xs) {j : Nat} (hn : xs[SetTable.below xs j]? ≠ some j) : Ri (SetTable.insertAt xs (SetTable.below xs j) j) := by
  obtain ⟨a, b, c⟩ := below_spec r j
  generalize SetTable.below xs j = p at a b c hn
  have e := SetTable.toList_insertAt xs p j
  have rp := ri_pair r
  have h2 : (SetTable.insertAt xs p j).toList.Pairwise (· < ·) := by
    rw [e]
    refine List.pairwise_append.mpr ⟨rp.sublist (List.take_sublist _ _), List.pairwise_cons.mpr ⟨fun y hy => ?_, rp.sublist (List.drop_sublist _ _)⟩, fun x hx y hy => ?_⟩
    · obtain ⟨i, hi, ei⟩ := List.getElem_of_mem hy
      rw [List.length_drop, Array.length_toList] at hi
      rw [List.getElem_drop] at ei
      have h1 := c (p + i) (by omega) (by omega)
      have e1 : xs.getD (p + i) 0 = y := by rw [← ei]; simp [Array.getD, show p + i < xs.size by omega]
      rw [e1] at h1
      by_cases z : j = y
      · subst z
        by_cases i0 : i = 0
        · subst i0
          exfalso
          apply hn
          rw [Array.getElem?_eq_getElem (by omega : p < xs.size)]
          have e2 : xs.getD (p + 0) 0 = xs[p]'(by omega) := by simp [Array.getD, show p < xs.size by omega]
          rw [← e2, e1]
        · have h3 := c p (Nat.le_refl _) (by omega)
          have h4 := r p (p + i) (by omega) (by omega)
          rw [e1] at h4
          omega
      · omega
    · obtain ⟨i, hi, ei⟩ := List.getElem_of_mem hx
      rw [List.length_take, Array.length_toList] at hi
      rw [List.getElem_take] at ei
      have h1 := b i (by omega)
      have e1 : xs.getD i 0 = x := by rw [← ei]; simp [Array.getD, show i < xs.size by omega]
      rw [e1] at h1
      rcases List.mem_cons.mp hy with e' | m
      · rw [e']; exact h1
      · obtain ⟨k, hk, ek⟩ := List.getElem_of_mem m
        rw [List.length_drop, Array.length_toList] at hk
        rw [List.getElem_drop] at ek
        have h2 := c (p + k) (by omega) (by omega)
        have e2 : xs.getD (p + k) 0 = y := by rw [← ek]; simp [Array.getD, show p + k < xs.size by omega]
        rw [e2] at h2
        omega
  have := ri_list h2
  simpa using this
theorem slot_not {t : SetTable} {j : Nat} (h : t.slot j = .empty ∨ t.slot j = .dummy) : t.place[SetTable.below t.place j]? ≠ some j := fun e => by
  unfold SetTable.slot at h
  simp only [e, beq_self_eq_true, if_true] at h
  rcases h with h | h <;> cases h
theorem adv_dummy (t : SetTable) (p : SetTable.Probe) : (t.advance p).dummy = p.dummy := by
  unfold SetTable.advance
  split <;> rfl
theorem probe_free {t : SetTable} {f : Nat → Int} {h : Int} {j : Nat} {d : Option Nat} : ∀ (fuel : Nat) (p : SetTable.Probe), (∀ x, p.dummy = some x → t.slot x = .dummy) → SetTable.probe.go t f h fuel p = some (.empty j d) → t.slot j = .empty ∧ ∀ x, d = some x → t.slot x = .dummy
  | 0, p, _, e => by unfold SetTable.probe.go at e; cases e
  | fuel + 1, p, hp, e => by
    unfold SetTable.probe.go at e
    cases q : t.slot p.j with
    | empty =>
      rw [q] at e
      simp only [Option.some.injEq, SetTable.Met.empty.injEq] at e
      rw [← e.1, ← e.2]
      exact ⟨q, hp⟩
    | dummy =>
      rw [q] at e
      exact probe_free fuel _ (fun x hx => by rw [adv_dummy] at hx; cases hx; exact q) e
    | live i =>
      rw [q] at e
      simp only at e
      split at e
      · cases e
      · exact probe_free fuel _ (fun x hx => by rw [adv_dummy] at hx; exact hp x hx) e
theorem free_not {t : SetTable} {h : Int} {j : Nat} {b : Bool} (e : t.freeSlot h = some (j, b)) : t.place[SetTable.below t.place j]? ≠ some j := by
  unfold SetTable.freeSlot at e
  split at e
  · rename_i j' d q
    obtain ⟨a1, a2⟩ := probe_free _ _ (fun x hx => by cases hx) q
    simp only [Option.some.injEq, Prod.mk.injEq] at e
    rw [← e.1]
    cases d with
    | none => exact slot_not (.inl a1)
    | some x => exact slot_not (.inr (a2 x rfl))
  · cases e
theorem or_ri {t : SetTable} {n : Nat} (r : Ri t.place) : Ri (t.orStandIn n).place := by
  unfold SetTable.orStandIn
  split
  · exact r
  · exact ri_range n
theorem new_ri {t : SetTable} {es : Array (Int × Value)} {h : Int} {x : Value} (r : Ri t.place) : Ri (layNew t es h x).2.1.place := by
  unfold layNew
  split
  · rename_i slot b e
    exact or_ri (ri_insert r (free_not e))
  · exact ri_range _
theorem laid_ri {mask finger moves : Nat} {led plain : Bool} {hs : Array Int} {t' : SetTable} {o : Array Nat} (e : SetTable.laid mask finger moves led plain hs = some (t', o)) : Ri t'.place := by
  unfold SetTable.laid at e
  cases q : SetTable.layClean mask hs with
  | none => rw [q] at e; cases e
  | some owner =>
    rw [q] at e
    simp only [Option.bind_eq_bind, Option.bind_some, Option.pure_def, Option.some.injEq, Prod.mk.injEq] at e
    rw [← e.1]
    refine ri_list ?_
    have : ∀ l : List Nat, l.Pairwise (· < ·) → ((l.filterMap fun j => (owner.getD j none).map fun k => (j, k)).map (·.1)).Pairwise (· < ·) := fun l hl => by
      refine List.pairwise_map.mpr (List.Pairwise.filterMap _ (fun a a' hlt b hb b' hb' => ?_) hl)
      obtain ⟨k, _, ek⟩ := Option.map_eq_some_iff.mp hb
      obtain ⟨k', _, ek'⟩ := Option.map_eq_some_iff.mp hb'
      rw [← ek, ← ek']
      exact hlt
    exact this _ List.pairwise_lt_range
theorem all_ri {t : SetTable} {es : Array (Int × Value)} {n : Nat} (r : Ri t.place) : Ri (relayAll t es n).2.1.place := by
  unfold relayAll
  split
  · rename_i t' o e
    dsimp only
    split
    · exact laid_ri e
    · exact ri_range _
  · exact ri_range _
end L2
set_option Elab.async false
set_option linter.all false
set_option maxRecDepth 100000
set_option maxHeartbeats 4000000
namespace L2
open PySem PySem.Spec PyProof.Rows
def EntI (e : Int × Value) : Prop := ∃ z tk, e = (hashInt z, Value.int z tk)
def intE (e : Int × Value) : Int := match e.2 with
  | .int z _ => z
  | _ => 0
def SetI (w : World) (h : Heap) (a : Addr) (zs : List Int) : Prop := ∃ o es ep t, h.get? a = some o ∧ o.ExactSet ∧ o.data = .set es ep t ∧ zs = es.toList.map intE ∧ (∀ e ∈ es.toList, EntI e) ∧ zs.Nodup ∧ zs.length < 3000 ∧ t.fits es.size = true ∧ t.led = !byT w ∧ Ri t.place
theorem SetI.at {w : World} {h h' : Heap} {a : Addr} {zs : List Int} (x : SetI w h a zs) (k : ∀ o, h.get? a = some o → h'.get? a = some o) : SetI w h' a zs := by
  obtain ⟨o, es, ep, t, e, r⟩ := x
  exact ⟨o, es, ep, t, k _ e, r⟩
theorem ent_int {e : Int × Value} (h : EntI e) : ∃ tk, e = (hashInt (intE e), Value.int (intE e) tk) := by
  obtain ⟨z, tk, rfl⟩ := h
  exact ⟨tk, rfl⟩
theorem ent_elemsI {prog : Program} {w : World} {l : List (Int × Value)} (h : ∀ e ∈ l, EntI e) : ElemsOf (mixKind prog w) l := fun e m => by
  obtain ⟨z, tk, rfl⟩ := h e m
  exact ⟨⟨Sum.inl z, mixKind_int prog w z tk, rfl⟩, rfl⟩
theorem ent_isI {e : Int × Value} {z : Int} (h : EntI e) : keyIs (Sum.inl z) e.2 = true ↔ intE e = z := by
  obtain ⟨y, tk, rfl⟩ := h
  show Value.isInt z (.int y tk) = true ↔ y = z
  constructor
  · intro q
    obtain ⟨t, e⟩ := Value.isInt_shape q
    injection e
  · rintro rfl; exact keyIs_int y tk
section
variable {prog : Program} {w : World} {A : Around} {E : Value → Shared → Prop} {s : Shared}
theorem add_int {a : Addr} {zs : List Int} {z : Int} {tk : Tok} {Q : Bool → Shared → Prop} (hS : SetI w s.heap a zs) (room : zs.length + 1 < 3000)
    (q : ∀ h' zs' b, Heap.SameBut a s.heap h' → SetI w h' a zs' → (if z ∈ zs then zs' = zs else zs'.Perm (zs ++ [z])) → Q b { s with heap := h' }) : wpAny (model prog w) A (setAddHashed a (.int z tk) (hashInt z)) Q E s := by
  obtain ⟨o, es, ep, t, ho, hex, hd, rfl, hent, nd, few, hf, led, ri⟩ := id hS
  rw [List.length_map, Array.length_toList] at few room
  have sb : scanBound = 4096 := rfl
  have hel := ent_elemsI (prog := prog) (w := w) hent
  unfold setAddHashed setAddHashedIn
  refine wpAny_holding (wpAny_bind (wpAny_setState_of ho hd hf ?_))
  dsimp only
  rw [byScan_of (knd := mixKind prog w) (x := Value.int z tk) rfl (by omega) hel]
  simp only [↓reduceIte]
  unfold setAddByScan
  refine wpAny_bind (wpAny_bind (wpAny_rule (wpAny_bind (wpAny_setScan_of (knd := mixKind prog w) (k := Sum.inl z) (mixKind_int prog w z tk) ho hd hf hel ?_))))
  cases fnd : List.findIdx? (fun e => (mixKind prog w).is (Sum.inl z) e.2) es.toList with
  | some j =>
    obtain ⟨hj, hp, _⟩ := List.findIdx?_eq_some_iff_getElem.mp fnd
    have mem : z ∈ es.toList.map intE := List.mem_map.mpr ⟨_, List.getElem_mem hj, (ent_isI (hent _ (List.getElem_mem hj))).mp hp⟩
    dsimp only
    exact wpAny_pure (wpAny_pure (q s.heap _ _ (Heap.SameBut.refl a s.heap) hS (by rw [if_pos mem])))
  | none =>
    have nmem : z ∉ es.toList.map intE := fun m => by
      obtain ⟨e, me, rfl⟩ := List.mem_map.mp m
      have := List.findIdx?_eq_none_iff.mp fnd e me
      rw [show (mixKind prog w).is (Sum.inl (intE e)) e.2 = true from (ent_isI (hent e me)).mpr rfl] at this
      cases this
    have pm := layNew_perm t es (hashInt z) (.int z tk)
    have hf1 := layNew_fits t es (hashInt z) (.int z tk)
    have l1 := new_led t es (hashInt z) (.int z tk)
    have p1 : Ri (layNew t es (hashInt z) (.int z tk)).2.1.place := new_ri ri
    dsimp only
    have ek : keyH w (Sum.inl z) = hashInt z := rfl
    have ek2 : (mixKind prog w).hash (Sum.inl z) = hashInt z := rfl
    try rw [ek2]
    generalize layNew t es (hashInt z) (.int z tk) = L at pm hf1 l1 p1 ⊢
    obtain ⟨es1, t1, wd, gave⟩ := L
    dsimp only at pm hf1 l1 p1 ⊢
    rw [Array.toList_push] at pm
    have ent1 : ∀ e ∈ es1.toList, EntI e := fun e m => by
      rcases List.mem_append.mp (pm.mem_iff.mp m) with y | y
      · exact hent e y
      · rw [List.mem_singleton.mp y]; exact ⟨z, tk, rfl⟩
    have pz : (es1.toList.map intE).Perm (es.toList.map intE ++ [z]) := by
      have := pm.map intE
      rwa [List.map_append] at this
    have sz1 : es1.size = es.size + 1 := by rw [← Array.length_toList, pm.length_eq, List.length_append, Array.length_toList]; rfl
    have nd1 : (es1.toList.map intE).Nodup := pz.nodup_iff.mpr (List.nodup_append.mpr ⟨nd, List.nodup_cons.mpr ⟨by simp, List.nodup_nil⟩, fun x hx y hy e => by rw [List.mem_singleton.mp hy] at e; exact nmem (e ▸ hx)⟩)
    have fin : ∀ (h' : Heap) (o' : Obj) (es2 : Array (Int × Value)) (ep2 : Nat) (t2 : SetTable), Heap.SameBut a s.heap h' → h'.get? a = some o' → o'.ExactSet → o'.data = .set es2 ep2 t2 → es2.toList.Perm es1.toList → t2.fits es2.size = true → t2.led = t.led → Ri t2.place → ∀ b, Q b { s with heap := h' } := fun h' o' es2 ep2 t2 sm e1 e2 e3 pm2 f2 l2 p2 b => by
      have pz2 := pm2.map intE
      refine q h' (es2.toList.map intE) b sm ⟨o', es2, ep2, t2, e1, e2, e3, rfl, fun e m => ent1 e (pm2.mem_iff.mp m), pz2.nodup_iff.mpr nd1, ?_, f2, l2.trans led, p2⟩ (by rw [if_neg nmem]; exact pz2.trans pz)
      rw [List.length_map, pm2.length_eq, Array.length_toList, sz1]
      omega
    have quiet : ∀ (b : Bool) {s₁ : Shared} {Q' : Unit → Shared → Prop}, Q' () s₁ → wpAny (model prog w) A (match b with | true => rule "set.scan.the-table-gave-way" | false => pure ()) Q' E s₁ := fun b s₁ Q' h => by
      cases b
      · exact wpAny_pure h
      · exact wpAny_rule h
    refine wpAny_bind (quiet gave ?_)
    have key : ∀ t2 : SetTable, t2.fits es1.size = true → t2.led = t.led → Ri t2.place → ∀ (K : Option Bool → Sem Bool), (∀ h' b, (∀ b, Q b { s with heap := h' }) → wpAny (model prog w) A (K (some b)) Q E { s with heap := h' }) →
        wpAny (model prog w) A (do
          storeSet a es1 t2
          if (!wd && t2.tooFull) = true then do
              (match (relayAll t2 es1 (SetTable.grown es1.size)).2.2 with | true => rule "set.scan.the-table-gave-way" | false => pure ())
              storeSet a (relayAll t2 es1 (SetTable.grown es1.size)).1 (relayAll t2 es1 (SetTable.grown es1.size)).2.1
              pure (some true)
            else pure (some true)) (fun r s' => wpAny (model prog w) A (K r) Q E s') E s := by
      intro t2 f2 l2 p2 K hK
      refine wpAny_bind (wpAny_storeSet_of ho hd ?_ (by rw [sizeLine_eq]; omega))
      have g1 := put_set (es' := es1) (t' := t2) ho hd
      have s1 := Heap.SameBut.update s.heap a (Obj.putSet es1 t2)
      split
      · have pm2 := relayAll_perm t2 es1 (SetTable.grown es1.size)
        have f3 := relayAll_fits t2 es1 (SetTable.grown es1.size)
        have l3 := all_led t2 es1 (SetTable.grown es1.size)
        have p3 := all_ri (es := es1) (n := SetTable.grown es1.size) p2
        generalize relayAll t2 es1 (SetTable.grown es1.size) = R at pm2 f3 l3 p3 ⊢
        obtain ⟨es2, t3, g2⟩ := R
        dsimp only at pm2 f3 l3 p3 ⊢
        have sz2 : es2.size = es1.size := by rw [← Array.length_toList, pm2.length_eq, Array.length_toList]
        refine wpAny_bind (quiet g2 (wpAny_bind (wpAny_storeSet_of (s := { s with heap := s.heap.update a (Obj.putSet es1 t2) }) g1 rfl ?_ (by rw [sizeLine_eq]; omega))))
        have g3 := put_set (es' := es2) (t' := t3) g1 rfl
        exact wpAny_pure (hK _ true (fin _ _ es2 _ t3 (s1.trans (Heap.SameBut.update _ a _)) g3 hex rfl pm2 f3 (l3.trans l2) p3))
      · exact wpAny_pure (hK _ true (fin _ _ es1 _ t2 s1 g1 hex rfl (List.Perm.refl _) f2 l2 p2))
    by_cases hp : t1.plain = true
    · rw [if_pos hp]
      refine wpAny_bind ?_
      rw [hashByValue_scannable 8 (x := Value.int z tk) rfl]
      refine wpAny_pure ?_
      exact key t1 hf1 l1 p1 (fun r => match r with | some added => pure added | none => setAddHashedIn a (.int z tk) (hashInt z) 99999) fun h' b hq => wpAny_pure (hq b)
    · have hp : t1.plain = false := by simpa using hp
      rw [if_neg (by rw [hp]; decide)]
      refine wpAny_bind (wpAny_pure ?_)
      exact key t1 hf1 l1 p1 (fun r => match r with | some added => pure added | none => setAddHashedIn a (.int z tk) (hashInt z) 99999) fun h' b hq => wpAny_pure (hq b)
end
end L2
set_option Elab.async false
set_option linter.all false
set_option maxRecDepth 100000
set_option maxHeartbeats 4000000
namespace L2
open PySem PySem.Spec PyProof.Rows
section
variable {prog : Program} {w : World} {A : Around} {I : Addr} {fp wr : List Addr} {G : Array GenState → Array GenState → Prop} {n : Nat} {P : Nat → Value → Prop} {St : Nat → Shared → Prop}
theorem fill_ints {R : Result → Shared → Prop} (W : WalksS prog w A.in1 I fp wr G n P St) (S : Addr) (hS : S ∉ fp) (val : Nat → Int) (hv : ∀ i v, P i v → ∃ t, v = Value.int (val i) t) (few : n + 1 < 3000) :
    ∀ (k i : Nat) (s : Shared) (zs : List Int), n - i = k → i ≤ n → St i s → SetI w s.heap S zs → (∀ z, z ∈ zs ↔ ∃ j, j < i ∧ val j = z) → zs.length ≤ i →
      (∀ s' zs', Moved (S :: wr) G s s' → SetI w s'.heap S zs' → (∀ z, z ∈ zs' ↔ ∃ j, j < n ∧ val j = z) → R (.ok (.ret .none)) s') → codeAny (model prog w) A (.builtin "set.update.loop" ⟨[.ref S, .ref I], []⟩) R s := by
  have nw : S ∉ wr := fun h => hS (W.sub _ h)
  have sub : ∀ b ∈ wr, b ∈ S :: wr := fun b h => List.mem_cons_of_mem _ h
  intro k
  induction k with
  | zero =>
    intro i s zs hk hi st x mem _ q
    have e : i = n := by omega
    subst e
    refine codeAny_builtin F.entry_set_update_loop ?_
    rw [Around.under_plainId F.plain_set_update_loop _]
    show wpAny _ A.in1 (pyNext (.ref I) >>= _) _ _ s
    refine wpAny_bind (W.done s _ _ st fun s' m => ?_)
    exact wpAny_pure (q s' zs (m.mono sub) (x.at fun o e => m.heap S o nw e) mem)
  | succ k ih =>
    intro i s zs hk hi st x mem len q
    refine codeAny_builtin F.entry_set_update_loop ?_
    rw [Around.under_plainId F.plain_set_update_loop _]
    show wpAny _ A.in1 (pyNext (.ref I) >>= _) _ _ s
    refine wpAny_bind (W.item i s _ _ (by omega) st fun v s' hP st' m => ?_)
    obtain ⟨t, rfl⟩ := hv i v hP
    have x' := x.at fun o e => m.heap S o nw e
    show wpAny _ A.in1 (holding [Value.int (val i) t] (setAdd S (.int (val i) t)) >>= _) _ _ s'
    refine wpAny_bind (wpAny_holding ?_)
    unfold setAdd
    refine wpAny_holding (wpAny_bind ((mixKind prog w).pyHash (k := Sum.inl (val i)) (mixKind_int _ _ _ _) ?_))
    refine add_int (s := { s' with toks := s'.toks + 1 }) x' (by omega) fun h' zs' b sb x2 hz => ?_
    have mem2 : ∀ z, z ∈ zs' ↔ ∃ j, j < i + 1 ∧ val j = z := fun z => by
      have e : z ∈ zs' ↔ z ∈ zs ∨ z = val i := by
        by_cases y : val i ∈ zs
        · rw [if_pos y] at hz
          rw [hz]
          exact ⟨.inl, fun h => h.elim id fun e => e ▸ y⟩
        · rw [if_neg y] at hz
          rw [hz.mem_iff, List.mem_append, List.mem_singleton]
      rw [e, mem]
      constructor
      · rintro (⟨j, h1, h2⟩ | h)
        · exact ⟨j, by omega, h2⟩
        · exact ⟨i, by omega, h.symm⟩
      · rintro ⟨j, h1, h2⟩
        by_cases h : j < i
        · exact .inl ⟨j, h, h2⟩
        · have : j = i := by omega
          subst this
          exact .inr h2.symm
    have len2 : zs'.length ≤ i + 1 := by
      by_cases y : val i ∈ zs
      · rw [if_pos y] at hz
        rw [hz]; omega
      · rw [if_neg y] at hz
        rw [hz.length_eq, List.length_append, List.length_singleton]; omega
    refine wpAny_pure ⟨plainId_quiet F.plain_set_update_loop _, ih (i + 1) _ zs' (by omega) (by omega) (W.frame _ s' _ _ st' (Nat.le_succ _) fun b hb o e => ?_) x2 mem2 len2 fun s'' zs'' m2 x3 mem3 => ?_⟩
    · exact (sb.2 b fun h => hS (h ▸ hb)).trans e
    · refine q s'' zs'' (Moved.trans W.gtrans ((m.mono sub).then_heap (Nat.le_succ _) fun b o hb e => ?_) m2) x3 mem3
      exact (sb.2 b fun h => hb (h ▸ List.mem_cons_self)).trans e
end
section
variable {prog : Program} {w : World} {A : Around} {E : Value → Shared → Prop} {s : Shared}
theorem setI_fresh {h : Heap} {a : Addr} (e : h.get? a = some { cls := .type "set", dict := none, data := .set #[] 0 (.fresh 0 0 (!byT w)) }) : SetI w h a [] :=
  ⟨_, #[], 0, _, e, ⟨rfl, rfl, rfl⟩, rfl, rfl, fun e m => by simp at m, List.nodup_nil, by decide, rfl, rfl, fun i j h1 h2 => absurd h2 (Nat.not_lt_zero _)⟩
theorem set_of_ints {l : Addr} {items : Array Value} {zs : List Int} {Q : Value → Shared → Prop} (hh : A.handled = none) (hl : s.heap.IsList l items) (hi : IntsAre items.toList zs) (few : items.size + 1 < 3000)
    (q : ∀ (h' : Heap) (tk : Nat) (zs' : List Int), SetI w h' s.heap.objs.size zs' → (∀ z, z ∈ zs' ↔ z ∈ zs) → (∀ b o, b < s.heap.objs.size → s.heap.get? b = some o → h'.get? b = some o) → Q (.ref s.heap.objs.size) { s with heap := h', toks := tk }) :
    wpAny (model prog w) A (call (.type "set") [.ref l]) Q E s := by
  obtain ⟨c, tl, hmro⟩ := F.called_set.mro
  have made := F.called_set.made
  have sub := F.called_set.sub
  refine wpAny_call (codeAny_of_tree ?_)
  show wpAny _ _ (callAny (.type "set") _) _ _ _
  refine wpAny_pure ⟨Code.quiet_builtin _ (by decide +kernel), codeAny_builtin F.entry_type_call ?_⟩
  rw [Around.under_plain (weight_type_call_type "set" [.ref l] []) rfl]
  have c1 := F.called_set.notType
  have c2 := F.called_set.canCreate
  have c3 := F.typeCall_set_1 (.ref l)
  repeat (any_goals (first | assumption | wp_step))
  refine codeAny_mono (new_set1 (.ref l) (E := E) (Q₁ := fun obj s₁ => obj = .ref s.heap.objs.size ∧ s₁ = { s with heap := s.heap.push { cls := .type "set", dict := none, data := .set #[] 0 (.fresh 0 0 (!byT w)) } }) ⟨rfl, rfl⟩) fun r s₁ hr => ?_
  cases r with
  | error e => exact hr
  | ok fl =>
    cases fl with
    | ret obj =>
      obtain ⟨rfl, rfl⟩ := hr
      have atS : (s.heap.push { cls := .type "set", dict := none, data := .set #[] 0 (.fresh 0 0 (!byT w)) }).get? s.heap.objs.size = some { cls := .type "set", dict := none, data := .set #[] 0 (.fresh 0 0 (!byT w)) } := Heap.get?_push_size _ rfl
      have ty : Shared.TypeIs { s with heap := s.heap.push { cls := .type "set", dict := none, data := .set #[] 0 (.fresh 0 0 (!byT w)) } } (.ref s.heap.objs.size) "set" := ⟨_, atS, rfl⟩
      have i1 := F.called_set.init.lookup
      have i2 := F.called_set.init.bind (.ref s.heap.objs.size)
      repeat (any_goals (first | assumption | wp_step))
      refine codeAny_mono (codeAny_call_builtin (R := wants (fun r s₂ => r = .none ∧ ∃ h' tk zs', s₂ = { s with heap := h', toks := tk } ∧ SetI w h' s.heap.objs.size zs' ∧ (∀ z, z ∈ zs' ↔ z ∈ zs) ∧
          (∀ b o, b < s.heap.objs.size → s.heap.get? b = some o → h'.get? b = some o)) E) F.called_set.init.plain F.entry_set_init (check_set_init_1 ty ?_)) fun r₂ s₂ hr₂ => ?_
      · obtain ⟨⟨ocls, odict, odata, oslots⟩, e1, e2, nl, e3⟩ := hl
        simp only at e2 e3
        subst e2 e3
        have e1' : (s.heap.push { cls := .type "set", dict := none, data := .set #[] 0 (.fresh 0 0 (!byT w)) }).get? l = some { cls := .type "list", dict := odict, data := .seq items nl, slots := oslots } := Heap.get?_push_of_some _ e1
        have s1 := F.sub_list_set
        have s2 := F.sub_list_frozenset
        have s3 : (Value.type "list" == Value.type "dict") = false := by decide
        have l1 : (s.heap.push { cls := .type "set", dict := none, data := .set #[] 0 (.fresh 0 0 (!byT w)) }).IsList l items := ⟨_, e1', rfl, nl, rfl⟩
        unfold Builtin.«set.__init__» noKeywords Builtin.Frozenset.updateFrom
        generalize hPI : pyIter = PI
        wp_walk
        subst hPI
        refine wpAny_pyIter_list l1 (wpAny_bind (wpAny_runValue ?_))
        have lt : l < s.heap.objs.size := Heap.lt_size e1
        have ns : l ≠ (s.heap.push { cls := .type "set", dict := none, data := .set #[] 0 (.fresh 0 0 (!byT w)) }).objs.size := by rw [Heap.size_push]; exact Nat.ne_of_lt (Nat.lt_succ_of_lt lt)
        have nf : s.heap.objs.size ∉ [(s.heap.push { cls := .type "set", dict := none, data := .set #[] 0 (.fresh 0 0 (!byT w)) }).objs.size, l] := by
          rw [Heap.size_push]
          simp only [List.mem_cons, List.not_mem_nil, or_false, not_or]
          exact ⟨Nat.ne_of_lt (Nat.lt_succ_self _), Nat.ne_of_gt lt⟩
        have ze : zs.length = items.size := by have := (ints_vals hi).length; rw [List.length_map] at this; simpa using this
        have val : ∀ (i : Nat) (v : Value), items[i]? = some v → ∃ t, v = Value.int (zs.getD i 0) t := fun i v hv => by
          have hv' : items.toList[i]? = some v := by rw [Array.getElem?_toList]; exact hv
          have il : i < zs.length := by rw [ze]; exact (Array.getElem?_eq_some_iff.mp hv).1
          obtain ⟨u, g1, g2⟩ := (ints_vals hi).get (i := i) (x := .int zs[i]) (by rw [List.getElem?_map, List.getElem?_eq_getElem il]; rfl)
          rw [hv'] at g1
          cases g1
          obtain ⟨t, rfl⟩ := g2
          exact ⟨t, by rw [List.getD, List.getElem?_eq_getElem il]; rfl⟩
        have nh : A.in1.in1.in1.handled = none := by simp [hh]
        refine fill_ints ((Walks.list nh _ l ns items).toS) s.heap.objs.size nf (fun i => zs.getD i 0) val few (items.size - 0) 0 _ [] (by omega) (Nat.zero_le _) ⟨⟨_, Heap.get?_push_size _ rfl, rfl, rfl⟩, l1.push _⟩ (setI_fresh (Heap.get?_push_of_some _ atS)) (fun z => ⟨fun h => absurd h List.not_mem_nil, fun ⟨j, h, _⟩ => absurd h (Nat.not_lt_zero _)⟩) (Nat.le_refl _) ?_
        intro s' zs' m x mem
        obtain ⟨h', g', d', tk', os'⟩ := s'
        have eg : g' = s.gens := m.gens
        have ed : d' = s.drawn := m.drawn
        have eo : os' = s.os := m.os
        subst eg ed eo
        show wpAny _ _ _ _ _ _
        refine wpAny_pure ?_
        show wpAny _ _ (ret Value.none) _ _ _
        refine wpAny_pure ⟨rfl, h', tk', zs', rfl, x, fun z => ?_, fun b o hb e => ?_⟩
        · rw [mem]
          constructor
          · rintro ⟨j, h1, rfl⟩
            have jl : j < zs.length := by omega
            rw [List.getD, List.getElem?_eq_getElem jl]
            exact List.getElem_mem jl
          · intro h
            obtain ⟨j, jl, rfl⟩ := List.getElem_of_mem h
            exact ⟨j, by omega, by rw [List.getD, List.getElem?_eq_getElem jl]; rfl⟩
        · have b2 : b ≠ (s.heap.push { cls := .type "set", dict := none, data := .set #[] 0 (.fresh 0 0 (!byT w)) }).objs.size := by rw [Heap.size_push]; exact Nat.ne_of_lt (Nat.lt_succ_of_lt hb)
          exact m.heap b o (by simp only [List.mem_cons, List.not_mem_nil, or_false, not_or]; exact ⟨Nat.ne_of_lt hb, b2⟩) (Heap.get?_push_of_some _ (Heap.get?_push_of_some _ e))
      · cases r₂ with
        | error e => exact hr₂
        | ok fl₂ =>
          cases fl₂ with
          | ret r =>
            obtain ⟨rfl, h', tk, zs', rfl, x, mem, hk⟩ := hr₂
            repeat (any_goals (first | assumption | wp_step))
            exact q _ _ _ x mem hk
          | _ => exact hr₂.elim
    | _ => exact hr.elim
end
end L2
set_option Elab.async false
set_option linter.all false
set_option maxRecDepth 100000
set_option maxHeartbeats 4000000
namespace L2
open PySem PySem.Spec PyProof.Rows
theorem get_int {ts : List Int} {i : Nat} {z : Int} (h : ts[i]? = some z) : ts.getD i 0 = z := by rw [List.getD, h]; rfl
section
variable {prog : Program} {w : World} {A : Around} {E : Value → Shared → Prop} {s : Shared}
theorem next_place {a : Addr} {o : Obj} {es : Array (Int × Value)} {ep f i : Nat} {t : SetTable} {Q : Option (Value × Nat) → Shared → Prop} (ho : s.heap.get? a = some o) (hd : o.data = .set es ep t) (hf : t.fits es.size = true) (hb : byT w = false) (led : t.led = true) (e1 : (!t.plain && decide (es.size > 1)) = false)
    (q : Q (match es[SetTable.below t.place f]?, t.place[SetTable.below t.place f]? with | some (_, x), some j => some (x, j + 1) | _, _ => none) s) : wpAny (model prog w) A (setNext a f i ep) Q E s := by
  unfold setNext setsByText
  refine wpAny_bind (wpAny_setState_of ho hd hf (wpAny_bind (wpAny_bind (wpAny_askSetting (wpAny_pure ?_)))))
  dsimp only
  rw [show (model prog w).w.params.followText "set-order" = false from hb, if_neg (by decide)]
  show wpAny _ _ (if (!t.plain && decide (es.size > 1)) = true then _ else _) _ _ _
  rw [e1, if_neg (by decide)]
  have e2 : (!t.led && !es.isEmpty) = false := by rw [led]; rfl
  show wpAny _ _ ((if (!t.led && !es.isEmpty) = true then unsupported "set:maker-not-led" else pure ()) >>= _) _ _ _
  rw [e2, if_neg (by decide)]
  exact wpAny_bind (wpAny_pure (wpAny_pure q))
def GivesI (prog : Program) (w : World) (A : Around) (zs : List Int) (I a n0 : Addr) (s : Shared) : Prop := ∃ (fp : List Addr) (ts : List Int) (St : Nat → Heap → Prop), ts.Perm zs ∧ Walks prog w A I fp [I] zs.length (fun i v => ∃ tk, v = Value.int (ts.getD i 0) tk) St ∧ St 0 s.heap ∧ (∀ b ∈ fp, b < s.heap.objs.size ∧ (b = a ∨ n0 ≤ b)) ∧ I ∈ fp
theorem iter_setI {a : Addr} {zs : List Int} {Q : Value → Shared → Prop} (hh : A.handled = none) (x : SetI w s.heap a zs)
    (q : ∀ h' d I, (∀ b o, s.heap.get? b = some o → h'.get? b = some o) → s.heap.objs.size ≤ I → I < h'.objs.size → (∀ tk, Shared.TypeIs ⟨h', s.gens, d, tk, s.os⟩ (.ref I) "set_iterator") → GivesI prog w A zs I a s.heap.objs.size { s with heap := h', drawn := d } → Q (.ref I) { s with heap := h', drawn := d }) : wpAny (model prog w) A (pyIter (.ref a)) Q E s := by
  obtain ⟨o, es, ep, t, ho, hex, hd, rfl, hent, nd, few, hf, led, ri⟩ := id x
  have ty : s.TypeIs (.ref a) "set" := ⟨o, ho, hex.1⟩
  have lt : a < s.heap.objs.size := Heap.lt_size ho
  have sz : (es.toList.map intE).length = es.size := by rw [List.length_map, Array.length_toList]
  refine wpAny_pyIter_slot ty F.slot_set_iter (wpAny_call_entry F.slot_set_iter ty se_entry ?_ (F.args_set_iter_1 _))
  unfold Builtin.«frozenset.__iter__» Builtin.Frozenset.slot0 Builtin.Frozenset.addrOf
  show wpAny _ _ (Builtin.Frozenset.sizeOf a >>= _) _ _ s
  unfold Builtin.Frozenset.sizeOf
  refine wpAny_bind (wpAny_bind (entries_at ho hd hf (wpAny_pure ?_)))
  show wpAny _ _ (setDrawn a >>= _) _ _ s
  unfold setDrawn setsByText
  refine wpAny_bind (wpAny_bind (wpAny_setState_of ho hd hf (wpAny_bind (wpAny_bind (wpAny_askSetting (wpAny_pure (wpAny_pure ?_)))))))
  show wpAny _ _ (if (!byT w && (!t.plain && decide (es.size > 1))) = true then _ else _) _ _ _
  by_cases dr : (!byT w && (!t.plain && decide (es.size > 1))) = true
  · rw [if_pos dr]
    refine wpAny_bind (draw_perm es.size (List.range es.size) s (by simp) fun ys d hp => ?_)
    refine wpAny_bind (wpAny_newTuple (s := { s with drawn := d }) ?_ (by rw [List.length_map, hp.length_eq, List.length_range, sizeLine_eq]; omega))
    have hoT : (s.heap.push (seqObj "tuple" (ys.map fun (i : Nat) => rawInt i).toArray 0)).get? a = some o := Heap.get?_push_of_some _ ho
    refine wpAny_bind ?_
    unfold setEpoch
    refine wpAny_bind (wpAny_setState_of (s := { s with heap := s.heap.push (seqObj "tuple" (ys.map fun (i : Nat) => rawInt i).toArray 0), drawn := d }) hoT hd hf (wpAny_pure ?_))
    refine wpAny_bind (wpAny_newObj_type (wpAny_pure ⟨_, rfl, "set_iterator", _, ⟨_, Heap.get?_push_size _ rfl, rfl⟩, si_slot.lookup, ?_⟩))
    dsimp only
    have zT : (s.heap.push (seqObj "tuple" (ys.map fun (i : Nat) => rawInt i).toArray 0)).objs.size = s.heap.objs.size + 1 := Heap.size_push ..
    rw [zT]
    have gT : ∀ ob : Obj, ((s.heap.push (seqObj "tuple" (ys.map fun (i : Nat) => rawInt i).toArray 0)).push ob).get? s.heap.objs.size = some (seqObj "tuple" (ys.map fun (i : Nat) => rawInt i).toArray 0) := fun ob => Heap.get?_push_of_some _ (Heap.get?_push_size _ rfl)
    have gI : ∀ ob : Obj, ob.isFreed = false → ((s.heap.push (seqObj "tuple" (ys.map fun (i : Nat) => rawInt i).toArray 0)).push ob).get? (s.heap.objs.size + 1) = some ob := fun ob hob => by rw [← zT]; exact Heap.get?_push_size _ hob
    have mem : ∀ p ∈ ys, p < es.size := fun p m => List.mem_range.mp (hp.mem_iff.mp m)
    have ly : ys.length = es.size := by rw [hp.length_eq, List.length_range]
    refine q _ d (s.heap.objs.size + 1) (fun b o e => Heap.get?_push_of_some _ (Heap.get?_push_of_some _ e)) (Nat.le_succ _) (by rw [Heap.size_push, zT]; exact Nat.lt_succ_self _) (fun tk => ⟨_, gI _ rfl, rfl⟩) ?_
    refine ⟨[s.heap.objs.size + 1, a, s.heap.objs.size], ys.map fun p => ((es.toList.map intE).getD p 0), fun i h => Sti h (s.heap.objs.size + 1) a o (.ref s.heap.objs.size) i es.size ep ∧ h.get? s.heap.objs.size = some (seqObj "tuple" (ys.map fun (i : Nat) => rawInt i).toArray 0), ?_, ?_, ⟨⟨gI _ rfl, Heap.get?_push_of_some _ (Heap.get?_push_of_some _ ho)⟩, gT _⟩, ?_, by simp⟩
    · refine (hp.map _).trans (List.Perm.of_eq ?_)
      refine List.ext_getElem (by simp) fun i h1 h2 => ?_
      have hi : i < es.size := by simpa using h2
      simp [List.getD, Array.getElem?_eq_getElem hi]
    · refine ⟨fun b hb => by simp at hb; simp [hb], fun i h h' st k => ⟨sti_frame st.1 fun b hb => k b (by simp at hb ⊢; rcases hb with e | e <;> simp [e]), k _ (by simp) _ st.2⟩, fun i s1 Q1 E1 hi st q1 => ?_, fun s1 Q1 E1 st q1 => ?_, fun i s1 Q1 E1 st q1 => self_si ⟨_, st.1.it, rfl⟩ q1⟩
      · rw [sz] at hi
        have il : i < ys.length := by omega
        have pm : ys[i] < es.size := mem _ (List.getElem_mem il)
        refine next_tup (pl := ys[i]) (e0 := es[ys[i]]) st.1 (Nat.ne_of_gt (Nat.lt_succ_of_lt lt)) hd hf st.2 rfl (by simp [il, rawInt]) (Array.getElem?_eq_getElem pm) fun h' st' sb => ?_
        refine q1 _ h' s1.toks ?_ ⟨st', (sb.2 _ (Nat.ne_of_lt (Nat.lt_succ_self _))).trans st.2⟩ fun b o hb e => (sb.2 b (fun z => hb (by simp [z]))).trans e
        obtain ⟨tk, et⟩ := ent_int (hent _ (Array.getElem_mem_toList pm))
        refine ⟨tk, ?_⟩
        rw [get_int (z := intE es[ys[i]]) (by rw [List.getElem?_map, List.getElem?_eq_getElem il]; simp [List.getD, pm])]
        rw [et]; rfl
      · have e0 : (ys.map fun (i : Nat) => rawInt i).toArray[(es.toList.map intE).length]? = none := by simp [ly]
        exact end_tup hh st.1 hd hf st.2 rfl e0 fun h' k => q1 h' s1.toks fun b o hb e => k b o (fun z => hb (by simp [z])) e
    · intro b hb
      rw [Heap.size_push, zT]
      simp only [List.mem_cons, List.not_mem_nil, or_false] at hb
      rcases hb with e | e | e
      · rw [e]; exact ⟨Nat.lt_succ_self _, .inr (Nat.le_succ _)⟩
      · rw [e]; exact ⟨Nat.lt_succ_of_lt (Nat.lt_succ_of_lt lt), .inl rfl⟩
      · rw [e]; exact ⟨Nat.lt_succ_of_lt (Nat.lt_succ_self _), .inr (Nat.le_refl _)⟩
  · rw [if_neg dr]
    refine wpAny_bind (wpAny_pure ?_)
    refine wpAny_bind ?_
    unfold setEpoch
    refine wpAny_bind (wpAny_setState_of ho hd hf (wpAny_pure ?_))
    refine wpAny_bind (wpAny_newObj_type (wpAny_pure ⟨_, rfl, "set_iterator", _, ⟨_, Heap.get?_push_size _ rfl, rfl⟩, si_slot.lookup, ?_⟩))
    dsimp only
    have gI : ∀ ob : Obj, ob.isFreed = false → (s.heap.push ob).get? s.heap.objs.size = some ob := fun ob hob => Heap.get?_push_size _ hob
    have key : GivesI prog w A (es.toList.map intE) s.heap.objs.size a s.heap.objs.size { s with heap := s.heap.push { cls := .type "set_iterator", data := .fields #[.int 0 0, .int 0 0, .ref a, .int es.size 0, .int ep 0] } } := by
      cases hb : byT w with
      | true =>
        have pk := pick_perm (w.params.setOrder a ep) es
        have pz : (pickOrder (w.params.setOrder a ep) es).size = es.size := by have := pk.length_eq; simpa using this
        refine ⟨[s.heap.objs.size, a], (pickOrder (w.params.setOrder a ep) es).toList.map intE, fun i h => Sti h s.heap.objs.size a o (.int (0 : Nat) 0) i es.size ep, pk.map _, ?_, ⟨gI _ rfl, Heap.get?_push_of_some _ ho⟩, ?_, by simp⟩
        · refine ⟨fun b hb => by simp at hb; simp [hb], fun i h h' st k => sti_frame st k, fun i s1 Q1 E1 hi st q1 => ?_, fun s1 Q1 E1 st q1 => ?_, fun i s1 Q1 E1 st q1 => self_si ⟨_, st.it, rfl⟩ q1⟩
          · rw [sz] at hi
            have il : i < (pickOrder (w.params.setOrder a ep) es).size := by omega
            refine next_int (f := 0) (f' := 0) (v := (pickOrder (w.params.setOrder a ep) es)[i].2) st (Nat.ne_of_gt lt) hd hf (fun {A' E' Q'} hq => next_text st.st hd hf hb (by rw [Array.getElem?_eq_getElem il]; exact hq)) fun h' st' sb => ?_
            refine q1 _ h' s1.toks ?_ st' fun b o hb e => (sb.2 b (fun z => hb (by simp [z]))).trans e
            obtain ⟨tk, et⟩ := ent_int (hent _ (pk.mem_iff.mp (Array.getElem_mem_toList il)))
            refine ⟨tk, ?_⟩
            rw [get_int (z := intE (pickOrder (w.params.setOrder a ep) es)[i]) (by simp [il])]
            rw [et]; rfl
          · exact end_int (f := 0) hh st hd hf (fun {A' E' Q'} hq => next_text st.st hd hf hb (by rw [Array.getElem?_eq_none (by rw [sz]; omega)]; exact hq)) fun h' k => q1 h' s1.toks fun b o hb e => k b o (fun z => hb (by simp [z])) e
        · intro b hb
          rw [Heap.size_push]
          simp only [List.mem_cons, List.not_mem_nil, or_false] at hb
          rcases hb with e | e
          · rw [e]; exact ⟨Nat.lt_succ_self _, .inr (Nat.le_refl _)⟩
          · rw [e]; exact ⟨Nat.lt_succ_of_lt lt, .inl rfl⟩
      | false =>
        have nd' : (!t.plain && decide (es.size > 1)) = false := by
          rw [hb] at dr
          simpa using dr
        have lt1 : t.led = true := by rw [led, hb]; rfl
        have pz : t.place.size = es.size := by
          have := hf
          simp only [SetTable.fits, Bool.and_eq_true, beq_iff_eq] at this
          exact this.1
        refine ⟨[s.heap.objs.size, a], es.toList.map intE, fun i h => Sti h s.heap.objs.size a o (.int ((if i = 0 then 0 else t.place.getD (i - 1) 0 + 1 : Nat) : Nat) 0) i es.size ep, List.Perm.refl _, ?_, ⟨gI _ rfl, Heap.get?_push_of_some _ ho⟩, ?_, by simp⟩
        · refine ⟨fun b hb => by simp at hb; simp [hb], fun i h h' st k => sti_frame st k, fun i s1 Q1 E1 hi st q1 => ?_, fun s1 Q1 E1 st q1 => ?_, fun i s1 Q1 E1 st q1 => self_si ⟨_, st.it, rfl⟩ q1⟩
          · rw [sz] at hi
            have eb : SetTable.below t.place (if i = 0 then 0 else t.place.getD (i - 1) 0 + 1) = i := by
              by_cases i0 : i = 0
              · rw [if_pos i0, below_zero ri, i0]
              · rw [if_neg i0, below_next ri (by omega)]; omega
            have hip : i < t.place.size := by omega
            refine next_int (f := (if i = 0 then 0 else t.place.getD (i - 1) 0 + 1)) (f' := t.place.getD i 0 + 1) (v := es[i].2) st (Nat.ne_of_gt lt) hd hf (fun {A' E' Q'} hq => next_place st.st hd hf hb lt1 nd' (by
              rw [eb, Array.getElem?_eq_getElem hi, Array.getElem?_eq_getElem hip]
              have e2 : t.place.getD i 0 = t.place[i] := by simp [Array.getD, hip]
              rw [e2] at hq
              exact hq)) fun h' st' sb => ?_
            refine q1 _ h' s1.toks ?_ (by rw [if_neg (Nat.succ_ne_zero i), Nat.add_sub_cancel]; exact st') fun b o hb e => (sb.2 b (fun z => hb (by simp [z]))).trans e
            obtain ⟨tk, et⟩ := ent_int (hent es[i] (Array.getElem_mem_toList hi))
            refine ⟨tk, ?_⟩
            rw [get_int (z := intE es[i]) (by simp [hi])]
            rw [et]; rfl
          · rw [sz] at st
            refine end_int (f := (if es.size = 0 then 0 else t.place.getD (es.size - 1) 0 + 1)) hh st hd hf (fun {A' E' Q'} hq => next_place st.st hd hf hb lt1 nd' ?_) fun h' k => q1 h' s1.toks fun b o hb e => k b o (fun z => hb (by simp [z])) e
            have eb : SetTable.below t.place (if es.size = 0 then 0 else t.place.getD (es.size - 1) 0 + 1) = es.size := by
              by_cases i0 : es.size = 0
              · rw [if_pos i0, below_zero ri, i0]
              · rw [if_neg i0, below_next ri (by omega)]; omega
            rw [eb, Array.getElem?_eq_none (Nat.le_refl _)]
            exact hq
        · intro b hb
          rw [Heap.size_push]
          simp only [List.mem_cons, List.not_mem_nil, or_false] at hb
          rcases hb with e | e
          · rw [e]; exact ⟨Nat.lt_succ_self _, .inr (Nat.le_refl _)⟩
          · rw [e]; exact ⟨Nat.lt_succ_of_lt lt, .inl rfl⟩
    exact q _ s.drawn s.heap.objs.size (fun b o e => Heap.get?_push_of_some _ e) (Nat.le_refl _) (by rw [Heap.size_push]; exact Nat.lt_succ_self _) (fun tk => ⟨_, gI _ rfl, rfl⟩) key
end
end L2
set_option Elab.async false
set_option linter.all false
set_option maxRecDepth 100000
set_option maxHeartbeats 4000000
namespace L2
open PySem PySem.Spec PyProof.Rows
section
variable {prog : Program} {w : World} {A : Around} {E : Value → Shared → Prop} {s : Shared}
theorem collect_setI {a : Addr} {zs : List Int} {Q : List Value → Shared → Prop} (hh : A.handled = none) (x : SetI w s.heap a zs)
    (q : ∀ h' d tk vs ts, (∀ b o, s.heap.get? b = some o → h'.get? b = some o) → s.heap.objs.size < h'.objs.size → IntsAre vs ts → ts.Perm zs → Q vs { s with heap := h', drawn := d, toks := tk }) : wpAny (model prog w) A (collect (.ref a)) Q E s := by
  obtain ⟨o, es, ep, t, ho, hex, _, _, _, _, few, _⟩ := id x
  have lt : a < s.heap.objs.size := Heap.lt_size ho
  unfold collect
  refine wpAny_bind (wpAny_runValue (codeAny_builtin F.entry_proto_collect ?_))
  rw [Around.under_plainId F.plain_proto_collect _]
  show wpAny _ A.in1 (newList [] >>= fun l => again (.builtin "list.__iadd__" ⟨[l, .ref a], []⟩)) _ _ s
  refine wpAny_bind (wpAny_newObj_type (wpAny_pure ⟨plainId_quiet F.plain_list_iadd _, codeAny_builtin F.entry_list_iadd ?_⟩))
  rw [Around.under_plainId F.plain_list_iadd _]
  show wpAny _ A.in1 (Builtin.List.listExtendWith (.ref s.heap.objs.size) (.ref a) (.ref s.heap.objs.size)) _ _ _
  have k0 : ∀ b o, s.heap.get? b = some o → (s.heap.push { cls := .type "list", data := .seq ([] : List Value).toArray }).get? b = some o := fun b o e => Heap.get?_push_of_some _ e
  have atS : (s.heap.push { cls := .type "list", data := .seq ([] : List Value).toArray }).get? s.heap.objs.size = some { cls := .type "list", data := .seq ([] : List Value).toArray } := Heap.get?_push_size _ rfl
  have zL : (s.heap.push { cls := .type "list", data := .seq ([] : List Value).toArray }).objs.size = s.heap.objs.size + 1 := Heap.size_push ..
  generalize s.heap.push { cls := .type "list", data := .seq ([] : List Value).toArray } = L1 at k0 atS zL ⊢
  have x1 : SetI w L1 a zs := x.at fun o e => k0 a o e
  have ty1 : Shared.TypeIs { s with heap := L1 } (.ref a) "set" := ⟨o, k0 _ _ ho, hex.1⟩
  unfold Builtin.List.listExtendWith
  refine wpAny_bind (wpAny_typeOf ty1 ?_)
  have h1 : Builtin.List.listSameRef (.ref s.heap.objs.size) (.ref a) = false := by simp [Builtin.List.listSameRef, Nat.ne_of_gt lt]
  have h2 : (Value.type "set" == Value.type "list") = false := by decide
  have h3 : (Value.type "set" == Value.type "tuple") = false := by decide
  simp only [h1, h2, h3, Bool.or_false, Bool.false_eq_true, if_false]
  refine wpAny_bind (iter_setI (A := A.in1) (s := { s with heap := L1 }) (by simpa using hh) x1 fun h' d I k ge ltI tyI gv => ?_)
  dsimp only at k ge
  obtain ⟨fp, ts, St, pt, W, st, hfp, hI⟩ := gv
  have ty2 : Shared.TypeIs { s with heap := h', drawn := d } (.ref a) "set" := ⟨o, k _ _ (k0 _ _ ho), hex.1⟩
  refine wpAny_bind (wpAny_holding (hint_set (s := { s with heap := h', drawn := d }) ty2 ?_))
  rw [if_pos (by decide +kernel)]
  refine wpAny_bind (wpAny_rule ?_)
  have gS : h'.get? s.heap.objs.size = some { cls := .type "list", data := .seq ([] : List Value).toArray } := k _ _ atS
  have nS : s.heap.objs.size ∉ fp := fun m => by
    rcases (hfp _ m).2 with e | e
    · exact absurd e (Nat.ne_of_gt lt)
    · dsimp only at e; rw [zL] at e; exact absurd e (Nat.not_succ_le_self _)
  refine wpAny_bind ?_
  show wpAny _ A.in1 (updateSeq s.heap.objs.size (·.push .none) >>= fun _ => updateSeq s.heap.objs.size (·.pop)) _ _ _
  refine wpAny_bind (wpAny_updateSeq (s := { s with heap := h', drawn := d }) gS rfl ?_)
  have g2 := Heap.get?_update_self (Obj.mapSeq (·.push Value.none)) gS rfl
  refine wpAny_updateSeq (s := { s with heap := h'.update s.heap.objs.size (Obj.mapSeq (·.push Value.none)), drawn := d }) g2 rfl ?_
  have g3 := Heap.get?_update_self (Obj.mapSeq (·.pop)) g2 rfl
  have oth : ∀ b o, b ≠ s.heap.objs.size → h'.get? b = some o → ((h'.update s.heap.objs.size (Obj.mapSeq (·.push Value.none))).update s.heap.objs.size (Obj.mapSeq (·.pop))).get? b = some o := fun b o hb e =>
    (Heap.get?_update_other _ _ (Ne.symm hb)).trans ((Heap.get?_update_other _ _ (Ne.symm hb)).trans e)
  refine wpAny_pure ⟨plainId_quiet F.plain_extend_loop _, codeAny_extend_loopS (A := A) W.toS (by rw [sizeLine_eq]; omega) _ nS _ zs.length 0 _ _ _ rfl (Nat.zero_le _) (W.frame 0 h' _ st fun b hb o e => oth b o (fun z => nS (z ▸ hb)) e) g3 (ItemsOf.nil _) fun s' acc' c' m hS' hacc => ?_⟩
  show wpAny _ A (load s.heap.objs.size >>= _) _ _ s'
  refine wpAny_bind (wpAny_load hS' (wpAny_pure ?_))
  obtain ⟨hp, gp, dp, tp, op⟩ := s'
  have eg : gp = s.gens := m.gens
  have ed : dp = d := m.drawn
  have eo : op = s.os := m.os
  subst eg ed eo
  refine q hp _ tp acc'.toList ts (fun b o e => ?_) (Heap.lt_size hS') ?_ pt
  · have bl : b < s.heap.objs.size := Heap.lt_size e
    refine m.heap b o (fun z => ?_) (oth b o (Nat.ne_of_lt bl) (k _ _ (k0 _ _ e)))
    rcases List.mem_cons.mp z with z | z
    · exact Nat.ne_of_lt bl z
    · rw [List.mem_singleton.mp z] at bl
      rw [zL] at ge
      exact absurd (Nat.lt_of_lt_of_le bl (Nat.le_of_succ_le ge)) (Nat.lt_irrefl _)
  · have hl : acc'.toList.length = ts.length := by rw [Array.length_toList, hacc.1, pt.length_eq]
    have key : ∀ (vs : List Value) (us : List Int), vs.length = us.length → (∀ i v, vs[i]? = some v → ∃ tk, v = Value.int (us.getD i 0) tk) → IntsAre vs us := fun vs => by
      induction vs with
      | nil => intro us h _; cases us with | nil => exact .nil | cons _ _ => simp at h
      | cons v vs ih =>
        intro us h g
        cases us with
        | nil => simp at h
        | cons u us =>
          obtain ⟨tk, e⟩ := g 0 v rfl
          have e : v = Value.int u tk := e
          subst e
          exact .cons u tk (ih us (by simpa using h) fun i v hv => g (i + 1) v (by simpa using hv))
    exact key _ _ hl fun i v hv => hacc.2 i v (by simpa using hv)
end
def setIO (w : World) (a : Addr) (zs : List Int) : HO := .ext fun h => ∃ zs', SetI w h a zs' ∧ ∀ z, z ∈ zs' ↔ z ∈ zs
theorem setIO_ok {P : Program} {w : World} {H : Hp} {h : Heap} {a : Addr} {zs zs' : List Int} (x : SetI w h a zs') (m : ∀ z, z ∈ zs' ↔ z ∈ zs) : ObjOk P w H h a (setIO w a zs) := by
  refine ⟨⟨zs', x, m⟩, ?_, fun h1 h2 ⟨y, x1, m1⟩ k => ⟨y, x1.at k, m1⟩⟩
  obtain ⟨o, _, _, _, e, _⟩ := x
  exact ⟨o, e⟩
section
variable {X : Cx}
theorem call_setLI {w : World} (hw : X.w = w) (hc : X.calm = true) : CallR X (.type "set") (fun xs H Q => ∃ (p : Addr) (zs : List Int), xs = [.ref p] ∧ SqL X.K H p (zs.map V.int) ∧ zs.length < 2000 ∧ ∀ l, H l = none → Q (.ref l) (upd H l (setIO w l zs))) := by
  subst hw
  intro pins s σ H xs us Q I r h
  obtain ⟨p, zs, rfl, hq, few, q⟩ := h
  obtain ⟨u, rfl, rx⟩ := vals1 r
  cases rx
  obtain ⟨its, rv, pl, hz⟩ := I.list hq
  have e := rv.length
  rw [List.length_map] at e
  refine set_of_ints (items := its.toArray) (zs := zs) (I.ok.hd hc) pl.isList (by simpa using vals_intsA rv) (by rw [List.size_toArray]; omega) fun h' tk zs' x m k => ?_
  exact ⟨.ref s.heap.objs.size, _, I.laid (t' := tk) (fun b o e => k b o (Heap.lt_size e) e) (Nat.le_refl _) (setIO_ok x m), rfl, q _ I.fresh⟩
theorem call_sortedSetI {w : World} (hw : X.w = w) (hc : X.calm = true) : CallR X (.builtin "sorted") (fun xs H Q => ∃ (p : Addr) (zs : List Int), xs = [.ref p] ∧ H p = some (setIO w p zs) ∧ (∀ zs' : List Int, zs'.Nodup → (∀ z ∈ zs', z ∈ zs) → zs'.length < 64) ∧ ∀ (l : Addr) (ts : List Int), H l = none → ts.Nodup → (∀ z, z ∈ ts ↔ z ∈ zs) → ts.Pairwise (· ≤ ·) → Q (.ref l) (upd H l (.lst (ts.map V.int)))) := by
  subst hw
  intro pins s σ H xs us Q I r h
  obtain ⟨p, zs, rfl, hp, few, q⟩ := h
  obtain ⟨u, rfl, rx⟩ := vals1 r
  cases rx
  obtain ⟨⟨zs', x, m⟩, _⟩ := (show ObjOk X.prog X.w H s.heap p (setIO X.w p zs) from I.hok p _ hp)
  have nd : zs'.Nodup := by obtain ⟨_, _, _, _, _, _, _, _, _, nd, _⟩ := id x; exact nd
  have le := few zs' nd fun z hz => (m z).mp hz
  refine Calls.call_function_entry kind_sorted plain_sorted entry_sorted (args_sorted1 _) ?_
  unfold Builtin.«sorted»
  refine wpAny_bind (m := checkCount "sorted" 1 1 _) (wpAny_pure (wpAny_bind (collect_setI (by simpa using I.ok.hd hc) x fun h1 d tk vs ts k hsz r pt => ?_)))
  have el : ts.length = vs.length := by have := (ints_vals r).length; rwa [List.length_map] at this
  have lz := pt.length_eq
  refine wpAny_bind (wpAny_newList ?_ (by rw [sizeLine_eq]; omega))
  have atL : (h1.push (seqObj "list" vs.toArray 0)).get? h1.objs.size = some (seqObj "list" vs.toArray 0) := Heap.get?_push_size _ rfl
  refine wpAny_bind (wpAny_holding (wpAny_call_entry slot_list_sort ⟨_, atL, rfl⟩ entry_list_sort (list_sort_tree atL r (by omega) fun out ns' a1 a2 a3 => ⟨_, rfl, ?_⟩) (args_list_sort _)))
  refine wpAny_pure ⟨_, rfl, ?_⟩
  have I1 : Inv X pins σ H { s with heap := h1, drawn := d, toks := tk } := (I.kept (t' := tk) k).drawnAt d
  obtain ⟨c, ho⟩ := sortedHeap_at (out := out) atL
  have fr : H h1.objs.size = none := I1.fresh
  have old : ∀ b o, h1.get? b = some o → (sortedHeap (h1.push (seqObj "list" vs.toArray 0)) h1.objs.size vs out).get? b = some o := fun b o e => by
    have bl := Heap.lt_size e
    rw [sortedHeap_old (Nat.ne_of_lt bl) (by rw [Heap.size_push]; exact Nat.lt_succ_of_lt bl)]
    exact Heap.get?_push_of_some _ e
  have pz := a2.trans pt
  refine ⟨.ref h1.objs.size, _, I1.laid (t' := tk) old (Nat.le_refl _) (show ObjOk X.prog X.w _ _ _ (.lst (ns'.map V.int)) from ⟨?_, out.toList, c, ints_vals a1, by simpa using ho⟩), rfl, q _ _ fr (pz.nodup_iff.mpr nd) (fun z => ?_) a3⟩
  · rw [List.length_map, pz.length_eq, sizeLine_eq]; omega
  · rw [pz.mem_iff]; exact m z
end
end L2
set_option Elab.async false
set_option linter.all false
set_option maxRecDepth 100000
namespace L2
open PySem PySem.Spec PyProof.Rows
theorem NmC.comp {sc : Scope} {env : Env} {x : Str} (n : NmC sc x) : NmC (relabel sc env) x := ⟨relab_other n.loc rfl, n.db, n.cd⟩
theorem vis_comp {sc : Scope} {env : Env} {x : Str} (h : sc.names.lookup x = some .cell ∨ sc.names.lookup x = some .free) : (relabel sc env).names.lookup x = some .cell ∨ (relabel sc env).names.lookup x = some .free := h.elim (fun z => .inl (relab_other z rfl)) relab_free
theorem CompSc.comp {sc osc : Scope} {N' N : List Str} {srcs : List (Option Nat)} {env : Env} (S : CompSc sc osc N' N srcs) : CompSc sc (relabel osc env) N' N srcs :=
  ⟨S.kind, S.nocell, S.one, fun y hy hf => vis_comp (S.frees y hy hf), S.nd, S.len, fun i j e => let ⟨x, a, b, c, d⟩ := S.out i j e; ⟨x, a, b, c, vis_comp d⟩⟩
theorem CompSc1.mk' {sc osc : Scope} {N' N : List Str} {srcs : List (Option Nat)} {k : Str} (h1 : sc.kind = .function) (o1 : ∀ n cl, cellsFrom n sc.names cl = (k, n) :: cl) (o2 : ∀ h : Heap, pushCells h sc.names = h.push { cls := .type "cell", data := .cell none })
    (h2 : ∀ y ∈ sc.names, y.2 = .cell → y.1 = k) (hk : sc.names.lookup k = some .cell) (h3 : ∀ y ∈ sc.names, y.2 = .local → sc.names.lookup y.1 = some .local)
    (h4 : ∀ y ∈ sc.names, y.2 = .free → osc.names.lookup y.1 = some .cell ∨ osc.names.lookup y.1 = some .free) (h5 : N'.Nodup) (h6 : srcs.length = N'.length)
    (h7 : ∀ p ∈ srcs.zip N', ∀ j ∈ p.1, N[j]? = some p.2 ∧ sc.names.lookup p.2 = some .free ∧ (osc.names.lookup p.2 = some .cell ∨ osc.names.lookup p.2 = some .free)) : CompSc1 sc osc N' N srcs k :=
  ⟨h1, o1, o2, h2, hk, h3, h4, h5, h6, fun i j e => by
    have hi : i < srcs.length := (List.getElem?_eq_some_iff.mp e).1
    obtain ⟨x, hx⟩ : ∃ x, N'[i]? = some x := ⟨N'[i]'(by omega), List.getElem?_eq_getElem (by omega)⟩
    have hz : (srcs.zip N')[i]? = some (some j, x) := by rw [List.getElem?_zip_eq_some]; exact ⟨e, hx⟩
    obtain ⟨a, b, c⟩ := h7 _ (List.mem_of_getElem? hz) j rfl
    exact ⟨x, hx, a, b, c⟩⟩
section
variable {X : Cx} (K : PySem.W.Frag) (h : X.K = K)
include h
theorem pi_listB {tg l : Expr} {tl : TE} (hl : PE X l tl) : PI X tg l (iList K tl) := h ▸ pi_list hl
end
end L2
set_option Elab.async false
set_option linter.all false
set_option maxRecDepth 100000
set_option maxHeartbeats 4000000
set_option pp.deepTerms false
set_option pp.deepTerms.threshold 8
set_option pp.maxSteps 1500
namespace Lw
open PySem L2
local macro_rules | `(tactic| walk_at "st") => `(tactic| repeat (first
  | refine ⟨_, rfl, ?_⟩
  | refine ⟨_, _, rfl, rfl, ?_⟩
  | refine ⟨_, _, rfl, ?_⟩
  | refine Or.inl ⟨_, _, rfl, rfl, ?_⟩
  | refine Or.inl ⟨rfl, ?_⟩
  | refine ⟨rfl, ?_⟩
  | refine Or.inl ⟨_, _, _, _, rfl, rfl, .of (by assumption), rfl, ?_⟩
  | (refine And.intro (show CMul _ _ from ?_) ?_; (first | exact Or.inr ⟨by omega, by omega⟩ | exact Or.inl ⟨by omega, by omega⟩))
  | (refine And.intro (show CDiv _ _ from ?_) ?_; exact ⟨by omega, by omega⟩)
  | (refine And.intro (show (0 : Int) < _ from ?_) ?_; first | decide | omega)))
structure TxtF (K : PySem.W.Frag) (mg : Str → Option Value) (a : Adr) : Prop extends TxtK K mg a where
  n_sorted : mg "sorted" = none
  n_set : mg "set" = none
abbrev Gn := Addr × Int × Addr × List Int
def gnV (t : Gn) : V := .ref t.1
def LayG (H : Hp) (gs : List Gn) : Prop := ∀ t ∈ gs, H t.1 = some (.tup [.int t.2.1, .ref t.2.2.1]) ∧ H t.2.2.1 = some (.lst (t.2.2.2.map V.int))
theorem LayG.same {H H' : Hp} {gs : List Gn} (h : LayG H gs) (s : Same H H') : LayG H' gs := fun t m => ⟨s _ _ (h t m).1, s _ _ (h t m).2⟩
def FairP (k many : Int) : List Int → List (Int × List Int) → Prop
  | _, [] => True
  | p, (who, s) :: r => if who = k ∧ p ≠ [] then ∀ x, x ∈ p ↔ 0 ≤ x ∧ x < many else FairP k many (p ++ s ++ [who]) r
def gnP (t : Gn) : Int × List Int := (t.2.1, t.2.2.2)
def spFair : Sp := fun vs H Q _ => ∃ (g : Addr) (k many : Int) (gs : List Gn), vs = [.ref g, .int k, .int many] ∧ H g = some (.lst (gs.map gnV)) ∧ LayG H gs ∧ gs.length ≤ 120 ∧ (∀ t ∈ gs, t.2.2.2.length ≤ 12) ∧ 0 ≤ many ∧ many ≤ 12 ∧ FairP k many [] (gs.map gnP).reverse ∧ ∀ H', Same H H' → Q (.bl true) H'
theorem rangeL_mem {n x : Int} (h : 0 ≤ n) : x ∈ rangeL 0 n ↔ 0 ≤ x ∧ x < n := by
  unfold rangeL
  constructor
  · intro m
    obtain ⟨i, hi, rfl⟩ := List.mem_map.mp m
    have := List.mem_range.mp hi
    omega
  · intro m
    exact List.mem_map.mpr ⟨x.toNat, List.mem_range.mpr (by omega), by omega⟩
theorem rangeL_up (n : Int) : (rangeL 0 n).Pairwise (· < ·) := by
  unfold rangeL
  refine List.pairwise_map.mpr (List.Pairwise.imp (fun {a b} h => ?_) List.pairwise_lt_range)
  omega
theorem ints_lay (ns : List Int) : PyData.canLayAll0 (ns.map PyData.int) = true ∧ PyData.depthAll (ns.map PyData.int) ≤ 1 := by
  induction ns with
  | nil => exact ⟨rfl, by decide⟩
  | cons n ns ih =>
    refine ⟨?_, ?_⟩
    · show (PyData.canLay0 (.int n) && PyData.canLayAll0 (ns.map PyData.int)) = true
      rw [ih.1]; rfl
    · show max (PyData.depth (.int n)) (PyData.depthAll (ns.map PyData.int)) ≤ 1
      refine Nat.max_le.mpr ⟨by simp [PyData.depth], ih.2⟩
theorem isAll_ints {K : PySem.W.Frag} {H : Hp} : ∀ ns : List Int, IsAll K H (ns.map V.int) (ns.map PyData.int)
  | [] => .nil
  | n :: ns => .cons (.int n) (isAll_ints ns)
theorem dep_lst' (ds : List PyData) : PyData.depth (.list ds) = PyData.depthAll ds + 1 := by simp [PyData.depth]
theorem eqv_nil' (ds : List PyData) : PyData.eqv (.list ds) (.list []) = decide (ds.length = 0) := by
  cases ds with
  | nil => rfl
  | cons d ds => rfl
theorem nn (b : Bool) : (if true = true then !b else b) = !b := rfl
theorem len_subI : ∀ {a b : List Int}, a.Nodup → (∀ z ∈ a, z ∈ b) → a.length ≤ b.length
  | [], _, _, _ => Nat.zero_le _
  | x :: a, b, nd, h => by
    have n1 := List.nodup_cons.mp nd
    have ih := len_subI (a := a) (b := b.erase x) n1.2 fun z hz => (List.mem_erase_of_ne (a := z) (b := x) fun e => n1.1 (by rw [← e]; exact hz)).mpr (h z (List.mem_cons_of_mem _ hz))
    have e := List.length_erase_of_mem (h x List.mem_cons_self)
    have := List.length_pos_of_mem (h x List.mem_cons_self)
    rw [List.length_cons]; omega
theorem nodup_le {many : Int} (h0 : 0 ≤ many) {l : List Int} (nd : l.Nodup) (h : ∀ z ∈ l, 0 ≤ z ∧ z < many) : l.length ≤ many.toNat := by
  have := len_subI (b := rangeL 0 many) nd fun z hz => (rangeL_mem h0).mpr (h z hz)
  simpa [rangeL] using this
section
variable {P : Program} {w : World} {K : PySem.W.Frag} {mg : Str → Option Value} {base : Heap} {a : Adr}
theorem sc_law_fair : FnScope ["gone", "k", "many", "passed", "who", "some"] ["gone", "k", "many"] (defScope (top 13)) := ⟨rfl, rfl, rfl, by decide +kernel, rfl, by decide +kernel, by decide +kernel⟩
theorem nm_law_fair_gone : Nm (defScope (top 13)) "gone" := ⟨by decide +kernel, by decide +kernel, by decide +kernel⟩
theorem nm_law_fair_k : Nm (defScope (top 13)) "k" := ⟨by decide +kernel, by decide +kernel, by decide +kernel⟩
theorem nm_law_fair_many : Nm (defScope (top 13)) "many" := ⟨by decide +kernel, by decide +kernel, by decide +kernel⟩
theorem nm_law_fair_passed : Nm (defScope (top 13)) "passed" := ⟨by decide +kernel, by decide +kernel, by decide +kernel⟩
theorem nm_law_fair_who : Nm (defScope (top 13)) "who" := ⟨by decide +kernel, by decide +kernel, by decide +kernel⟩
theorem nm_law_fair_some : Nm (defScope (top 13)) "some" := ⟨by decide +kernel, by decide +kernel, by decide +kernel⟩
theorem gm_law_fair_sorted : Gm (defScope (top 13)) "sorted" := ⟨by decide +kernel, by decide +kernel, by decide +kernel⟩
theorem gm_law_fair_set : Gm (defScope (top 13)) "set" := ⟨by decide +kernel, by decide +kernel, by decide +kernel⟩
theorem gm_law_fair_list : Gm (defScope (top 13)) "list" := ⟨by decide +kernel, by decide +kernel, by decide +kernel⟩
theorem gm_law_fair_range : Gm (defScope (top 13)) "range" := ⟨by decide +kernel, by decide +kernel, by decide +kernel⟩
theorem ok_fair {f : Addr} {fd : FuncData} (F : Fun K "_law_fair" "_law_fair" (top 13) f fd) (T : TxtF K mg a) : FnOk P w K mg base CX0 1 f fd ["gone", "k", "many"] spFair := by
  refine F.ok sc_law_fair (fun vs H Q E h => ?_) (fun cdv A outer s H vs Q E hr h => ?_)
  · obtain ⟨g, k, many, gs, rfl, _⟩ := h
    rfl
  · obtain ⟨g, k, many, gs, rfl, hg, lay, lg, la, m0, m1, fp, q⟩ := h
    have hu := hr.units
    have nd := sc_law_fair.nd
    refine ⟨_, (@pss_cons _ _ _ _ _ (ps_nm 3 nd nm_law_fair_passed (pe_lst pa_nil))
        (pss_cons (ps_for PassesOwn.never rfl (pi_list (pe_rev (pvN 0 nm_law_fair_gone) (po_some (pe_un un_neg pe_int)))) (pg_tup rfl (pgs_cons (pg_nm 4 nd nm_law_fair_who) (pgs_cons (pg_nm 5 nd nm_law_fair_some) pgs_nil))) (pss_cons (ps_if (PW.pt (pw_and (pt_cmpR (op_eqG hu) (pvN 4 nm_law_fair_who) (pvN 1 nm_law_fair_k) (nomark _)) (pw_and1 (pt_cmpR (op_neG hu) (pvN 3 nm_law_fair_passed) (pe_lst pa_nil) (nomark _))))) (pss_one (ps_ret (pe_cmpR (op_eqG hu) (pe_cb (call_sortedSetI (w := w) rfl rfl) gm_law_fair_sorted T.n_sorted bt_sorted (pa_cons (pe_ct (call_setLI (w := w) rfl rfl) gm_law_fair_set T.n_set bt_set (pa_cons (pvN 3 nm_law_fair_passed) pa_nil)) pa_nil)) (pe_ct (call_listG rfl) gm_law_fair_list T.n_list bt_list (pa_cons (pe_ct call_rangeV gm_law_fair_range T.n_range bt_range (pa_cons (pvN 2 nm_law_fair_many) pa_nil)) pa_nil)) (nomark _)))) pss_nil)
          (pss_one (ps_nm 3 nd nm_law_fair_passed (pe_op op_addG (pe_op op_addG (pvN 3 nm_law_fair_passed) (pvN 5 nm_law_fair_some)) (pe_lst (pa_cons (pvN 4 nm_law_fair_who) pa_nil)))))))
        (pss_one (ps_ret pe_bl)))), ?_⟩
    walk_at "st"
    refine ⟨(by show 0 ≤ sizeLine; decide), fun p0 np0 => ?_⟩
    have t1 := (Same.refl H).upd (o := .lst []) np0
    have h1 : (upd H p0 (.lst [])) p0 = some (.lst (([] : List Int).map V.int)) := upd_same
    generalize upd H p0 (.lst []) = H1 at t1 h1 ⊢
    walk_at "st"
    refine ⟨g, _, rfl, .of (t1 _ _ hg), fun rl nrl => ?_⟩
    have t2 := (Same.refl H1).upd (o := .lst (gs.map gnV).reverse) nrl
    have h2 : (upd H1 rl (.lst (gs.map gnV).reverse)) rl = some (.lst (gs.reverse.map gnV)) := by rw [upd_same, List.map_reverse]
    have h12 := t2 _ _ h1
    generalize upd H1 rl (.lst (gs.map gnV).reverse) = H2 at t2 h2 h12 ⊢
    have s2 := t1.trans t2
    have lay2 := lay.same s2
    rw [← List.map_reverse] at fp
    have layr : LayG H2 gs.reverse := fun t m => lay2 t (List.mem_reverse.mp m)
    have lar : ∀ t ∈ gs.reverse, t.2.2.2.length ≤ 12 := fun t m => la t (List.mem_reverse.mp m)
    have lgr : gs.reverse.length ≤ 120 := by rw [List.length_reverse]; exact lg
    generalize gs.reverse = rs at fp layr lar lgr h2 ⊢
    walk_at "st"
    refine ⟨⟨_, .of h2⟩, for_list (K := K) (a := rl) (xs := rs.map gnV) (fun i σ H' => ∃ x4 x5 pl, σ = [some (.ref g), some (.int k), some (.int many), some (.ref pl), x4, x5] ∧ Same H2 H' ∧ ∃ p : List Int, H' pl = some (.lst (p.map V.int)) ∧ FairP k many p ((rs.drop i).map gnP) ∧ p.length ≤ 13 * i)
      ⟨none, none, p0, rfl, Same.refl H2, [], h12, fp, Nat.zero_le _⟩ (fun i σ H' _ ⟨_, _, _, _, sm, _⟩ => .of (sm _ _ h2)) ?_ ?_⟩
    · rintro i y σ H' hi ⟨x4, x5, pl, rfl, sm, p, hp, fpi, lp⟩
      have ilt : i < rs.length := by have := (List.getElem?_eq_some_iff.mp hi).1; rwa [List.length_map] at this
      rw [List.getElem?_map, List.getElem?_eq_getElem ilt] at hi
      cases hi
      have mt : rs[i] ∈ rs := List.getElem_mem ilt
      have ed : rs.drop i = rs[i] :: rs.drop (i + 1) := List.drop_eq_getElem_cons ilt
      rw [ed] at fpi
      obtain ⟨ht, hs⟩ := layr _ mt
      have lt := lar _ mt
      generalize rs[i] = t at ht hs lt fpi ⊢
      obtain ⟨ta, who, sa, sm'⟩ := t
      dsimp only at ht hs lt
      have ht' := sm _ _ ht
      have hs' := sm _ _ hs
      walk_at "st"
      refine ⟨ta, _, rfl, .of ht', rfl, ?_⟩
      walk_at "st"
      have fpi' : FairP k many p ((who, sm') :: (rs.drop (i + 1)).map gnP) := fpi
      unfold FairP at fpi'
      by_cases hw : who = k
      · rw [decide_eq_true (congrArg V.int hw)]
        refine iteT ?_
        walk_at "st"
        refine ⟨(by show 0 ≤ sizeLine; decide), fun em nem => ?_⟩
        have te := (Same.refl H').upd (o := .lst []) nem
        have hpe := te _ _ hp
        have li := ints_lay p
        refine Or.inr ⟨.list (p.map PyData.int), .list [], .lst (.of hpe) (isAll_ints p), .lst (.of upd_same) .nil, li.1, rfl, (by rw [dep_lst']; have := li.2; omega), ?_⟩
        rw [eqv_nil', List.length_map, nn]
        generalize upd H' em (.lst []) = HE at te hpe ⊢
        walk_at "st"
        by_cases hp0 : p.length = 0
        · rw [decide_eq_true hp0]
          refine iteF ?_
          have e0 : p = [] := List.eq_nil_of_length_eq_zero hp0
          rw [if_neg (fun z => z.2 e0)] at fpi'
          walk_at "st"
          have hpx := (te) _ _ hp
          have hsx := (te) _ _ hs'
          refine Or.inr (Or.inr ⟨pl, sa, _, _, rfl, rfl, hpx, hsx, (by rw [List.length_map, List.length_map, sizeLine_eq]; omega), fun l6 n6 => ?_⟩)
          rw [← List.map_append]
          have t6 := (Same.refl HE).upd (o := .lst ((p ++ sm').map V.int)) n6
          have h6 : (upd HE l6 (.lst ((p ++ sm').map V.int))) l6 = some (.lst ((p ++ sm').map V.int)) := upd_same
          generalize upd HE l6 (.lst ((p ++ sm').map V.int)) = H6 at t6 h6 ⊢
          walk_at "st"
          refine ⟨(by show 1 ≤ sizeLine; decide), fun l7 n7 => ?_⟩
          have t7 := (Same.refl H6).upd (o := .lst [V.int who]) n7
          refine Or.inr (Or.inr ⟨l6, l7, _, _, rfl, rfl, t7 _ _ h6, upd_same, (by rw [List.length_map, List.length_append, sizeLine_eq]; simp; omega), fun l8 n8 => ?_⟩)
          have t8 := t7.upd (o := .lst ((p ++ sm').map V.int ++ [V.int who])) n8
          refine ⟨_, _, l8, rfl, sm.trans ((te).trans (t6.trans t8)), p ++ sm' ++ [who], (by rw [upd_same, List.map_append (l₂ := [who])]; rfl), fpi', (by rw [List.length_append, List.length_append]; simp; omega)⟩
        · rw [decide_eq_false hp0]
          refine iteT ?_
          have pne : p ≠ [] := fun z => hp0 (by rw [z]; rfl)
          rw [if_pos ⟨hw, pne⟩] at fpi'
          walk_at "st"
          refine ⟨pl, p, rfl, .of hpe, by omega, fun st nst => ?_⟩
          have t6 := (Same.refl HE).upd (o := setIO w st p) nst
          refine ⟨st, p, rfl, upd_same, fun zs' nz hz => ?_, fun l ts nl ndt mt' up => ?_⟩
          · have := nodup_le m0 nz fun z hz' => (fpi' z).mp (hz z hz')
            omega
          have t7 := t6.upd (o := .lst (ts.map V.int)) nl
          have h7 : (upd (upd HE st (setIO w st p)) l (.lst (ts.map V.int))) l = some (.lst (ts.map V.int)) := upd_same
          generalize upd (upd HE st (setIO w st p)) l (.lst (ts.map V.int)) = H7 at t7 h7 ⊢
          have sm1 : Sm many := ⟨by omega, by omega⟩
          have sm0 : Sm 0 := ⟨by decide, by decide⟩
          walk_at "st"
          refine Or.inl ⟨many, rfl, sm1, fun rg nrg => ?_⟩
          have t8 := (Same.refl H7).upd (o := .rng 0 many) nrg
          refine Or.inr ⟨rg, 0, many, rfl, upd_same, sm0, sm1, (by rw [sizeLine_eq]; omega), fun l9 n9 => ?_⟩
          have t9 := t8.upd (o := .lst ((rangeL 0 many).map V.int)) n9
          have e9 : ts = rangeL 0 many := by
            refine List.Perm.eq_of_pairwise (le := fun x y : Int => x ≤ y) (fun x y _ _ h1 h2 => by omega) up ((rangeL_up many).imp fun h => Int.le_of_lt h) ?_
            refine (List.perm_ext_iff_of_nodup ndt ((rangeL_up many).imp fun h => Int.ne_of_lt h)).mpr fun z => ?_
            rw [mt', fpi' z, rangeL_mem m0]
          have lr := ints_lay (rangeL 0 many)
          have cl : PyData.canLay0 (.list ((rangeL 0 many).map PyData.int)) = true := lr.1
          refine Or.inr ⟨.list ((rangeL 0 many).map PyData.int), .list ((rangeL 0 many).map PyData.int), .lst (.of (t9 _ _ (e9 ▸ h7))) (isAll_ints _), .lst (.of upd_same) (isAll_ints _), cl, cl, (by rw [dep_lst']; have := lr.2; omega), ?_⟩
          rw [SeqAt.eqv_refl _ cl]
          exact q _ (s2.trans (sm.trans (te.trans (t7.trans t9))))
      · rw [decide_eq_false (fun z => hw (V.int.inj z))]
        refine iteF ?_
        refine iteF ?_
        rw [if_neg (fun z => hw z.1)] at fpi'
        walk_at "st"
        have hpx := (Same.refl H') _ _ hp
        have hsx := (Same.refl H') _ _ hs'
        refine Or.inr (Or.inr ⟨pl, sa, _, _, rfl, rfl, hpx, hsx, (by rw [List.length_map, List.length_map, sizeLine_eq]; omega), fun l6 n6 => ?_⟩)
        rw [← List.map_append]
        have t6 := (Same.refl H').upd (o := .lst ((p ++ sm').map V.int)) n6
        have h6 : (upd H' l6 (.lst ((p ++ sm').map V.int))) l6 = some (.lst ((p ++ sm').map V.int)) := upd_same
        generalize upd H' l6 (.lst ((p ++ sm').map V.int)) = H6 at t6 h6 ⊢
        walk_at "st"
        refine ⟨(by show 1 ≤ sizeLine; decide), fun l7 n7 => ?_⟩
        have t7 := (Same.refl H6).upd (o := .lst [V.int who]) n7
        refine Or.inr (Or.inr ⟨l6, l7, _, _, rfl, rfl, t7 _ _ h6, upd_same, (by rw [List.length_map, List.length_append, sizeLine_eq]; simp; omega), fun l8 n8 => ?_⟩)
        have t8 := t7.upd (o := .lst ((p ++ sm').map V.int ++ [V.int who])) n8
        refine ⟨_, _, l8, rfl, sm.trans ((Same.refl H').trans (t6.trans t8)), p ++ sm' ++ [who], (by rw [upd_same, List.map_append (l₂ := [who])]; rfl), fpi', (by rw [List.length_append, List.length_append]; simp; omega)⟩
    · rintro σ H' ⟨x4, x5, pl, rfl, sm, _⟩
      exact q _ (s2.trans sm)
end
end Lw
set_option Elab.async false
set_option linter.all false
set_option maxRecDepth 100000
set_option maxHeartbeats 4000000
set_option pp.deepTerms false
set_option pp.deepTerms.threshold 8
set_option pp.maxSteps 1500
namespace Lw
open PySem L2
local macro_rules | `(tactic| walk_at "st") => `(tactic| repeat (first
  | refine ⟨_, rfl, ?_⟩
  | refine ⟨_, _, rfl, rfl, ?_⟩
  | refine ⟨_, _, rfl, ?_⟩
  | refine Or.inl ⟨_, _, rfl, rfl, ?_⟩
  | refine Or.inl ⟨rfl, ?_⟩
  | refine ⟨rfl, ?_⟩
  | refine Or.inl ⟨_, _, _, _, rfl, rfl, .of (by assumption), rfl, ?_⟩
  | (refine And.intro (show CMul _ _ from ?_) ?_; (first | exact Or.inr ⟨by omega, by omega⟩ | exact Or.inl ⟨by omega, by omega⟩))
  | (refine And.intro (show CDiv _ _ from ?_) ?_; exact ⟨by omega, by omega⟩)
  | (refine And.intro (show (0 : Int) < _ from ?_) ?_; first | decide | omega)))
def off (n a x : Int) : Int := if a ≤ x then x - a else x - a + n
def nxt (n k : Int) : Int := if k + 1 = n then 0 else k + 1
theorem off_or (n a x : Int) : (a ≤ x ∧ off n a x = x - a) ∨ (x < a ∧ off n a x = x - a + n) := by
  unfold off
  by_cases h : a ≤ x
  · rw [if_pos h]; exact .inl ⟨h, rfl⟩
  · rw [if_neg h]; exact .inr ⟨by omega, rfl⟩
theorem nxt_or (n k : Int) : (k + 1 = n ∧ nxt n k = 0) ∨ (k + 1 ≠ n ∧ nxt n k = k + 1) := by
  unfold nxt
  by_cases h : k + 1 = n
  · rw [if_pos h]; exact .inl ⟨h, rfl⟩
  · rw [if_neg h]; exact .inr ⟨h, rfl⟩
def acc (k : Int) : List (Int × List Int) → Option (List Int)
  | [] => none
  | (who, s) :: r => if who = k then some [] else (acc k r).map fun l => s ++ [who] ++ l
theorem fair_acc {k many : Int} : ∀ {rs : List (Int × List Int)} {p : List Int}, p ≠ [] → (∀ l, acc k rs = some l → ∀ x, x ∈ p ++ l ↔ 0 ≤ x ∧ x < many) → FairP k many p rs
  | [], _, _, _ => trivial
  | (who, s) :: r, p, hp, h => by
    unfold FairP
    by_cases hw : who = k
    · rw [if_pos ⟨hw, hp⟩]
      have := h [] (by unfold acc; rw [if_pos hw])
      rwa [List.append_nil] at this
    · rw [if_neg fun z => hw z.1]
      refine fair_acc (by simp) fun l hl x => ?_
      have := h (s ++ [who] ++ l) (by unfold acc; rw [if_neg hw, hl]; rfl) x
      rw [← this]
      simp
def Cov (n mark : Int) (rs : List (Int × List Int)) : Prop := ∀ k l, 0 ≤ k → k < n → acc k rs = some l → (∀ x ∈ l, 0 ≤ x ∧ x < n) ∧ ((∀ x, 0 ≤ x → x < n → x ∈ l) ∨ ∀ x, 0 ≤ x → x < n → off n (nxt n k) x < off n (nxt n k) mark → x ∈ l)
theorem cov_nil (n mark : Int) : Cov n mark [] := fun k l _ _ h => by cases h
theorem cov_step {n mark j : Int} {s : List Int} {rs : List (Int × List Int)} (c : Cov n mark rs) (hm : 0 ≤ mark ∧ mark < n) (hj : 0 ≤ j ∧ j < n) (hs : ∀ x ∈ s, 0 ≤ x ∧ x < n) (ha : ∀ x, 0 ≤ x → x < n → off n mark x < off n mark j → x ∈ s) : Cov n (nxt n j) ((j, s) :: rs) := fun k l k0 k1 h => by
  unfold acc at h
  by_cases hw : j = k
  · rw [if_pos hw] at h
    cases h
    refine ⟨fun x hx => absurd hx (by simp), .inr fun x x0 x1 h => ?_⟩
    exfalso
    rw [hw] at h
    have h1 := off_or n (nxt n k) x
    have h2 := off_or n (nxt n k) (nxt n k)
    have h3 := nxt_or n k
    omega
  · rw [if_neg hw] at h
    obtain ⟨l', e, rfl⟩ := Option.map_eq_some_iff.mp h
    obtain ⟨b, d⟩ := c k l' k0 k1 e
    have cj : ∀ x, 0 ≤ x → x < n → off n mark x ≤ off n mark j → x ∈ s ++ [j] ++ l' := fun x x0 x1 hx => by
      by_cases q : off n mark x < off n mark j
      · simp [ha x x0 x1 q]
      · have : x = j := by
          have h1 := off_or n mark x
          have h2 := off_or n mark j
          omega
        simp [this]
    refine ⟨fun x hx => ?_, ?_⟩
    · simp only [List.mem_append, List.mem_singleton] at hx
      rcases hx with (hx | hx) | hx
      · exact hs x hx
      · rw [hx]; exact hj
      · exact b x hx
    · rcases d with d | d
      · exact .inl fun x x0 x1 => by simp [d x x0 x1]
      · by_cases q : off n (nxt n k) mark + off n mark j + 1 < n
        · refine .inr fun x x0 x1 hx => ?_
          by_cases r : off n (nxt n k) x < off n (nxt n k) mark
          · simp [d x x0 x1 r]
          · refine cj x x0 x1 ?_
            have h1 := off_or n (nxt n k) x
            have h2 := off_or n (nxt n k) mark
            have h3 := nxt_or n k
            have h4 := off_or n mark x
            have h5 := off_or n mark j
            have h6 := off_or n (nxt n k) (nxt n j)
            have h7 := nxt_or n j
            omega
        · refine .inl fun x x0 x1 => ?_
          by_cases r : off n (nxt n k) x < off n (nxt n k) mark
          · simp [d x x0 x1 r]
          · refine cj x x0 x1 ?_
            have h1 := off_or n (nxt n k) x
            have h2 := off_or n (nxt n k) mark
            have h3 := nxt_or n k
            have h4 := off_or n mark x
            have h5 := off_or n mark j
            have h6 := off_or n (nxt n k) (nxt n j)
            have h7 := nxt_or n j
            omega
theorem fair_now {n mark j : Int} {s : List Int} {rs : List (Int × List Int)} (c : Cov n mark rs) (hm : 0 ≤ mark ∧ mark < n) (hj : 0 ≤ j ∧ j < n) (hs : ∀ x ∈ s, 0 ≤ x ∧ x < n) (ha : ∀ x, 0 ≤ x → x < n → off n mark x < off n mark j → x ∈ s) : FairP j n [] ((j, s) :: rs) := by
  unfold FairP
  rw [if_neg fun z => z.2 rfl]
  refine fair_acc (by simp) fun l hl x => ?_
  obtain ⟨b, d⟩ := c j l hj.1 hj.2 hl
  constructor
  · intro hx
    simp only [List.nil_append, List.mem_append, List.mem_singleton] at hx
    rcases hx with (hx | hx) | hx
    · exact hs x hx
    · rw [hx]; exact hj
    · exact b x hx
  · rintro ⟨x0, x1⟩
    simp only [List.nil_append, List.mem_append, List.mem_singleton]
    rcases d with d | d
    · exact .inr (d x x0 x1)
    · by_cases r : off n (nxt n j) x < off n (nxt n j) mark
      · exact .inr (d x x0 x1 r)
      · by_cases q : off n mark x < off n mark j
        · exact .inl (.inl (ha x x0 x1 q))
        · refine .inl (.inr ?_)
          have h1 := off_or n (nxt n j) x
          have h2 := off_or n (nxt n j) mark
          have h3 := nxt_or n j
          have h4 := off_or n mark x
          have h5 := off_or n mark j
          omega
end Lw
set_option Elab.async false
set_option linter.all false
set_option maxRecDepth 100000
set_option maxHeartbeats 4000000
set_option pp.deepTerms false
set_option pp.deepTerms.threshold 8
set_option pp.maxSteps 1500
namespace Lw
open PySem L2
local macro_rules | `(tactic| walk_at "st") => `(tactic| repeat (first
  | refine ⟨_, rfl, ?_⟩
  | refine ⟨_, _, rfl, rfl, ?_⟩
  | refine ⟨_, _, rfl, ?_⟩
  | refine Or.inl ⟨_, _, rfl, rfl, ?_⟩
  | refine Or.inl ⟨rfl, ?_⟩
  | refine ⟨rfl, ?_⟩
  | refine Or.inl ⟨_, _, _, _, rfl, rfl, .of (by assumption), rfl, ?_⟩
  | (refine And.intro (show CMul _ _ from ?_) ?_; (first | exact Or.inr ⟨by omega, by omega⟩ | exact Or.inl ⟨by omega, by omega⟩))
  | (refine And.intro (show CDiv _ _ from ?_) ?_; exact ⟨by omega, by omega⟩)
  | (refine And.intro (show (0 : Int) < _ from ?_) ?_; first | decide | omega)))
def ordL (n mark : Int) : List Int := rangeL mark n ++ rangeL 0 mark
theorem rangeL_mem2 {lo hi x : Int} : x ∈ rangeL lo hi ↔ lo ≤ x ∧ x < hi := by
  unfold rangeL
  constructor
  · intro m
    obtain ⟨i, hi, rfl⟩ := List.mem_map.mp m
    have := List.mem_range.mp hi
    omega
  · intro m
    exact List.mem_map.mpr ⟨(x - lo).toNat, List.mem_range.mpr (by omega), by omega⟩
theorem rangeL_up2 (lo hi : Int) : (rangeL lo hi).Pairwise (· < ·) := by
  unfold rangeL
  refine List.pairwise_map.mpr (List.Pairwise.imp (fun {a b} h => ?_) List.pairwise_lt_range)
  omega
theorem ord_up {n mark : Int} (h0 : 0 ≤ mark) (h1 : mark ≤ n) : (ordL n mark).Pairwise fun x y => off n mark x < off n mark y := by
  refine List.pairwise_append.mpr ⟨(rangeL_up2 mark n).imp_of_mem fun {x y} mx my h => ?_, (rangeL_up2 0 mark).imp_of_mem fun {x y} mx my h => ?_, fun x mx y my => ?_⟩
  all_goals
    have a1 := rangeL_mem2.mp mx
    have a2 := rangeL_mem2.mp my
    have b1 := off_or n mark x
    have b2 := off_or n mark y
    omega
theorem ord_mem {n mark x : Int} (h0 : 0 ≤ mark) (h1 : mark ≤ n) : x ∈ ordL n mark ↔ 0 ≤ x ∧ x < n := by
  unfold ordL
  rw [List.mem_append, rangeL_mem2, rangeL_mem2]
  omega
theorem ff_some {hs : List V} {js : List Bool} {mark j : Int} (h0 : 0 ≤ mark) (h1 : mark ≤ hs.length) (e : ffree hs js mark = some j) : (0 ≤ j ∧ j < hs.length) ∧ frB hs js j = true ∧ ∀ x : Int, 0 ≤ x → x < hs.length → off hs.length mark x < off hs.length mark j → frB hs js x = false := by
  have e' : (ordL hs.length mark).find? (frB hs js) = some j := e
  obtain ⟨hj, as, bs, eq, hn⟩ := List.find?_eq_some_iff_append.mp e'
  have up := ord_up h0 h1
  have mj : j ∈ ordL hs.length mark := List.mem_of_find?_eq_some e'
  refine ⟨(ord_mem h0 h1).mp mj, hj, fun x x0 x1 hx => ?_⟩
  have mx : x ∈ ordL hs.length mark := (ord_mem h0 h1).mpr ⟨x0, x1⟩
  rw [eq] at up mx
  rcases List.mem_append.mp mx with m | m
  · simpa using hn x m
  · exfalso
    rcases List.mem_cons.mp m with z | m
    · rw [z] at hx; omega
    · have := (List.pairwise_cons.mp (List.pairwise_append.mp up).2.1).1 x m
      omega
theorem ff_none {hs : List V} {js : List Bool} {mark : Int} (h0 : 0 ≤ mark) (h1 : mark ≤ hs.length) (e : ffree hs js mark = none) : ∀ x : Int, 0 ≤ x → x < hs.length → frB hs js x = false := fun x x0 x1 => by
  have e' : (ordL hs.length mark).find? (frB hs js) = none := e
  have := List.find?_eq_none.mp e' x ((ord_mem h0 h1).mpr ⟨x0, x1⟩)
  simpa using this
def awayL (hs : List V) (js : List Bool) (n : Nat) : List Int := ((List.range n).map fun (i : Nat) => (i : Int)).filter fun k => !frB hs js k
theorem away_mem {hs : List V} {js : List Bool} {n : Nat} {x : Int} : x ∈ awayL hs js n ↔ (0 ≤ x ∧ x < n) ∧ frB hs js x = false := by
  unfold awayL
  rw [List.mem_filter, List.mem_map]
  constructor
  · rintro ⟨⟨i, hi, rfl⟩, h⟩
    have := List.mem_range.mp hi
    exact ⟨by omega, by simpa using h⟩
  · rintro ⟨h, f⟩
    exact ⟨⟨x.toNat, List.mem_range.mpr (by omega), by omega⟩, by simpa using f⟩
theorem away_len (hs : List V) (js : List Bool) (n : Nat) : (awayL hs js n).length ≤ n := by
  unfold awayL
  have := List.length_filter_le (fun k => !frB hs js k) ((List.range n).map fun (i : Nat) => (i : Int))
  rwa [List.length_map, List.length_range] at this
theorem away_succ (hs : List V) (js : List Bool) (n : Nat) : awayL hs js (n + 1) = awayL hs js n ++ if frB hs js (n : Int) = true then [] else [(n : Int)] := by
  unfold awayL
  rw [List.range_succ, List.map_append, List.filter_append]
  congr 1
  show List.filter _ [(n : Int)] = _
  rw [List.filter_cons, List.filter_nil]
  cases frB hs js (n : Int) <;> rfl
theorem away_all {hs : List V} {js : List Bool} {n : Nat} (h : ∀ x : Int, 0 ≤ x → x < n → frB hs js x = false) : awayL hs js n = rangeL 0 n := by
  unfold awayL rangeL
  rw [List.filter_eq_self.mpr]
  · simp
  · intro x hx
    obtain ⟨i, hi, rfl⟩ := List.mem_map.mp hx
    have := List.mem_range.mp hi
    rw [h i (by omega) (by omega)]; rfl
def wentN (k : Int) (gs : List (Int × List Int)) : Int := ((gs.filter fun t => decide (t.1 = k)).length : Nat)
theorem went_snoc (k : Int) (gs : List (Int × List Int)) (t : Int × List Int) : wentN k (gs ++ [t]) = wentN k gs + if t.1 = k then 1 else 0 := by
  unfold wentN
  rw [List.filter_append, List.length_append]
  show ((_ + (List.filter _ [t]).length : Nat) : Int) = _
  rw [List.filter_cons, List.filter_nil]
  by_cases h : t.1 = k
  · rw [if_pos (decide_eq_true h), if_pos h]; simp
  · rw [if_neg (by simp [h]), if_neg h]; simp
theorem spot_mod {s place places : Int} (h1 : 0 ≤ place) (h2 : place < places) : (s + (place - s) % places) % places = place := by
  have e : (s + (place - s) % places) % places = (s + (place - s)) % places := by simp [Int.add_emod]
  rw [e, show s + (place - s) = place by omega]
  exact Int.emod_eq_of_lt h1 h2
end Lw
set_option Elab.async false
set_option linter.all false
set_option maxRecDepth 100000
set_option maxHeartbeats 4000000
set_option pp.deepTerms false
set_option pp.deepTerms.threshold 8
set_option pp.maxSteps 1500
namespace Lw
open PySem L2
local macro_rules | `(tactic| walk_at "st") => `(tactic| repeat (first
  | refine ⟨_, rfl, ?_⟩
  | refine ⟨_, _, rfl, rfl, ?_⟩
  | refine ⟨_, _, rfl, ?_⟩
  | refine Or.inl ⟨_, _, rfl, rfl, ?_⟩
  | refine Or.inl ⟨rfl, ?_⟩
  | refine ⟨rfl, ?_⟩
  | refine Or.inl ⟨_, _, _, _, rfl, rfl, .of (by assumption), rfl, ?_⟩
  | (refine And.intro (show CMul _ _ from ?_) ?_; (first | exact Or.inr ⟨by omega, by omega⟩ | exact Or.inl ⟨by omega, by omega⟩))
  | (refine And.intro (show CDiv _ _ from ?_) ?_; exact ⟨by omega, by omega⟩)
  | (refine And.intro (show (0 : Int) < _ from ?_) ?_; first | decide | omega)))
structure Go (K : PySem.W.Frag) (a : Adr) (H : Hp) (p ra rb rc rs rw gl sp stp dl : Addr) (hs : List V) (js : List Bool) (ts : List Int) (places mark : Int) (st wt : List Int) (gs : List Gn) (n i : Nat) (drs : List Int) : Prop where
  sek : Sek K a H p a.Seekers ra rb rc rs rw hs js ts places mark st wt
  g : H gl = some (.lst (gs.map gnV))
  lay : LayG H gs
  hsp : H sp = some (.lst (st.map V.int))
  hstp : H stp = some (.lst (wt.map V.int))
  hdl : H dl = some (.lst (drs.map V.int))
  ap : [ra, rb, rc, rs, rw, gl, sp, stp, dl].Nodup
  aw : ∀ t ∈ gs, t.2.2.1 ∉ [ra, rb, rc, rs, rw, gl, sp, stp]
  hn : hs.length = n
  m0 : 0 ≤ mark
  m1 : mark < n
  fl : ∀ v ∈ hs, v = .non ∨ ∃ i : Int, v = .int i
  cov : Cov n mark (gs.map gnP).reverse
  hts : ts = (List.range n).map fun (k : Nat) => wentN k (gs.map gnP)
  lg : gs.length ≤ i
  la : ∀ t ∈ gs, t.2.2.2.length ≤ 12
section
variable {K : PySem.W.Frag} {a : Adr} {H H' : Hp} {p ra rb rc rs rw gl sp stp dl : Addr} {hs : List V} {js : List Bool} {ts : List Int} {places mark : Int} {st wt : List Int} {gs : List Gn} {n i : Nat} {drs : List Int}
theorem Go.same (g : Go K a H p ra rb rc rs rw gl sp stp dl hs js ts places mark st wt gs n i drs) (s : Same H H') : Go K a H' p ra rb rc rs rw gl sp stp dl hs js ts places mark st wt gs n i drs :=
  ⟨g.sek.same s, s _ _ g.g, g.lay.same s, s _ _ g.hsp, s _ _ g.hstp, s _ _ g.hdl, g.ap, g.aw, g.hn, g.m0, g.m1, g.fl, g.cov, g.hts, g.lg, g.la⟩
theorem Go.next (g : Go K a H p ra rb rc rs rw gl sp stp dl hs js ts places mark st wt gs n i drs) : Go K a H p ra rb rc rs rw gl sp stp dl hs js ts places mark st wt gs n (i + 1) drs :=
  ⟨g.sek, g.g, g.lay, g.hsp, g.hstp, g.hdl, g.ap, g.aw, g.hn, g.m0, g.m1, g.fl, g.cov, g.hts, Nat.le_succ_of_le g.lg, g.la⟩
theorem Go.setA (g : Go K a H p ra rb rc rs rw gl sp stp dl hs js ts places mark st wt gs n i drs) {hs' : List V} (hl : hs'.length = hs.length) (hf : ∀ v ∈ hs', v = .non ∨ ∃ i : Int, v = .int i) : Go K a (upd H ra (.lst hs')) p ra rb rc rs rw gl sp stp dl hs' js ts places mark st wt gs n i drs := by
  obtain ⟨dx, e⟩ := g.sek.ins
  have k := g.sek
  have ap := g.ap
  have aw := g.aw
  simp only [List.nodup_cons, List.mem_cons, List.not_mem_nil, or_false, not_or, not_false_eq_true, List.nodup_nil, and_true] at ap
  obtain ⟨⟨a1, a2, a3, a4, a5, a6, a7, a8⟩, _⟩ := ap
  have o : ∀ {b o}, b ≠ ra → H b = some o → (upd H ra (.lst hs')) b = some o := fun hb e => by rw [upd_ne hb]; exact e
  refine ⟨⟨⟨dx, o (ne_of e k.ha (by intro z; cases z)) e⟩, k.cs, upd_same, o (Ne.symm a1) k.hb, o (Ne.symm a2) k.hc, o (Ne.symm a3) k.hs_, o (Ne.symm a4) k.hw, k.ap, by rw [hl]; exact k.lj, by rw [hl]; exact k.lt, by rw [hl]; exact k.ls, by rw [hl]; exact k.lw, by rw [hl]; exact k.z⟩, o (Ne.symm a5) g.g, fun t m => ⟨o (ne_of (g.lay t m).1 k.ha (by intro z; cases z)) (g.lay t m).1, o (fun z => aw t m (by rw [z]; simp)) (g.lay t m).2⟩, o (Ne.symm a6) g.hsp, o (Ne.symm a7) g.hstp, o (Ne.symm a8) g.hdl, g.ap, g.aw, by rw [hl]; exact g.hn, g.m0, g.m1, hf, g.cov, g.hts, g.lg, g.la⟩
theorem Go.setB (g : Go K a H p ra rb rc rs rw gl sp stp dl hs js ts places mark st wt gs n i drs) {js' : List Bool} (hl : js'.length = js.length) : Go K a (upd H rb (.lst (js'.map V.bl))) p ra rb rc rs rw gl sp stp dl hs js' ts places mark st wt gs n i drs := by
  obtain ⟨dx, e⟩ := g.sek.ins
  have k := g.sek
  have ap := g.ap
  have aw := g.aw
  simp only [List.nodup_cons, List.mem_cons, List.not_mem_nil, or_false, not_or, not_false_eq_true, List.nodup_nil, and_true] at ap
  obtain ⟨⟨a1, _⟩, ⟨b2, b3, b4, b5, b6, b7, b8⟩, _⟩ := ap
  have o : ∀ {b o}, b ≠ rb → H b = some o → (upd H rb (.lst (js'.map V.bl))) b = some o := fun hb e => by rw [upd_ne hb]; exact e
  refine ⟨⟨⟨dx, o (ne_of e k.hb (by intro z; cases z)) e⟩, k.cs, o a1 k.ha, upd_same, o (Ne.symm b2) k.hc, o (Ne.symm b3) k.hs_, o (Ne.symm b4) k.hw, k.ap, by rw [hl]; exact k.lj, k.lt, k.ls, k.lw, k.z⟩, o (Ne.symm b5) g.g, fun t m => ⟨o (ne_of (g.lay t m).1 k.hb (by intro z; cases z)) (g.lay t m).1, o (fun z => aw t m (by rw [z]; simp)) (g.lay t m).2⟩, o (Ne.symm b6) g.hsp, o (Ne.symm b7) g.hstp, o (Ne.symm b8) g.hdl, g.ap, g.aw, g.hn, g.m0, g.m1, g.fl, g.cov, g.hts, g.lg, g.la⟩
end
end Lw
set_option Elab.async false
set_option linter.all false
set_option maxRecDepth 100000
set_option maxHeartbeats 4000000
set_option pp.deepTerms false
set_option pp.deepTerms.threshold 8
set_option pp.maxSteps 1500
namespace Lw
open PySem L2
local macro_rules | `(tactic| walk_at "st") => `(tactic| repeat (first
  | refine ⟨_, rfl, ?_⟩
  | refine ⟨_, _, rfl, rfl, ?_⟩
  | refine ⟨_, _, rfl, ?_⟩
  | refine Or.inl ⟨_, _, rfl, rfl, ?_⟩
  | refine Or.inl ⟨rfl, ?_⟩
  | refine ⟨rfl, ?_⟩
  | refine Or.inl ⟨_, _, _, _, rfl, rfl, .of (by assumption), rfl, ?_⟩
  | (refine And.intro (show CMul _ _ from ?_) ?_; (first | exact Or.inr ⟨by omega, by omega⟩ | exact Or.inl ⟨by omega, by omega⟩))
  | (refine And.intro (show CDiv _ _ from ?_) ?_; exact ⟨by omega, by omega⟩)
  | (refine And.intro (show (0 : Int) < _ from ?_) ?_; first | decide | omega)))
theorem pickI {xs : List Int} {i : Int} (h0 : 0 ≤ i) (h1 : i < xs.length) : ∃ z, atI (xs.map V.int) i = some (.int z) ∧ z ∈ xs := by
  obtain ⟨v, e1, e2⟩ := atI_in (xs := xs.map V.int) h0 (by rw [List.length_map]; exact h1)
  rw [List.getElem?_map] at e2
  cases q : xs[i.toNat]? with
  | none => rw [q] at e2; cases e2
  | some z => rw [q] at e2; cases e2; exact ⟨z, e1, List.mem_of_getElem? q⟩
def spLaw (K : PySem.W.Frag) : Sp := fun vs H Q _ => ∃ (p : Addr) (ns : List Int), vs = [.ref p] ∧ SqL K H p (ns.map V.int) ∧ ns.length ≤ 63 ∧ ∀ H', Q (.bl true) H'
theorem inV_stuck {js : List Bool} {j : Nat} (h : j < js.length) : inV (.int j) ((stuckN js js.length).map V.int) = js.getD j false := by
  rw [inV_int]
  cases hb : js.getD j false with
  | true => exact decide_eq_true (List.mem_map.mpr ⟨j, List.mem_filter.mpr ⟨List.mem_range.mpr h, hb⟩, rfl⟩)
  | false =>
    refine decide_eq_false fun m => ?_
    obtain ⟨i, hi, e⟩ := List.mem_map.mp m
    have ij : i = j := by omega
    rw [ij] at hi
    have := (List.mem_filter.mp hi).2
    rw [hb] at this; cases this
section
variable {P : Program} {w : World} {K : PySem.W.Frag} {mg : Str → Option Value} {base : Heap} {a : Adr}
theorem sc_law : FnScope ["script", "row", "many", "places", "seekers", "gone", "spots", "steps", "draw", "held", "away", "place", "k", "found", "shares"] ["script"] (defScope (top 14)) := ⟨rfl, rfl, rfl, by decide +kernel, rfl, by decide +kernel, by decide +kernel⟩
theorem nm_law_script : Nm (defScope (top 14)) "script" := ⟨by decide +kernel, by decide +kernel, by decide +kernel⟩
theorem nm_law_row : Nm (defScope (top 14)) "row" := ⟨by decide +kernel, by decide +kernel, by decide +kernel⟩
theorem nm_law_many : Nm (defScope (top 14)) "many" := ⟨by decide +kernel, by decide +kernel, by decide +kernel⟩
theorem nm_law_places : Nm (defScope (top 14)) "places" := ⟨by decide +kernel, by decide +kernel, by decide +kernel⟩
theorem nm_law_seekers : NmC (defScope (top 14)) "seekers" := ⟨by decide +kernel, by decide +kernel, by decide +kernel⟩
theorem nm_law_gone : NmC (defScope (top 14)) "gone" := ⟨by decide +kernel, by decide +kernel, by decide +kernel⟩
theorem nm_law_spots : Nm (defScope (top 14)) "spots" := ⟨by decide +kernel, by decide +kernel, by decide +kernel⟩
theorem nm_law_steps : Nm (defScope (top 14)) "steps" := ⟨by decide +kernel, by decide +kernel, by decide +kernel⟩
theorem nm_law_draw : Nm (defScope (top 14)) "draw" := ⟨by decide +kernel, by decide +kernel, by decide +kernel⟩
theorem nm_law_held : NmC (defScope (top 14)) "held" := ⟨by decide +kernel, by decide +kernel, by decide +kernel⟩
theorem nm_law_away : Nm (defScope (top 14)) "away" := ⟨by decide +kernel, by decide +kernel, by decide +kernel⟩
theorem nm_law_place : Nm (defScope (top 14)) "place" := ⟨by decide +kernel, by decide +kernel, by decide +kernel⟩
theorem nm_law_k : Nm (defScope (top 14)) "k" := ⟨by decide +kernel, by decide +kernel, by decide +kernel⟩
theorem nm_law_found : Nm (defScope (top 14)) "found" := ⟨by decide +kernel, by decide +kernel, by decide +kernel⟩
theorem nm_law_shares : Nm (defScope (top 14)) "shares" := ⟨by decide +kernel, by decide +kernel, by decide +kernel⟩
theorem gm_law_range : Gm (defScope (top 14)) "range" := ⟨by decide +kernel, by decide +kernel, by decide +kernel⟩
theorem gm_law__law_draws : Gm (defScope (top 14)) "_law_draws" := ⟨by decide +kernel, by decide +kernel, by decide +kernel⟩
theorem gm_law__law_fair : Gm (defScope (top 14)) "_law_fair" := ⟨by decide +kernel, by decide +kernel, by decide +kernel⟩
theorem gm_law_list : Gm (defScope (top 14)) "list" := ⟨by decide +kernel, by decide +kernel, by decide +kernel⟩
theorem gm_law_Seekers : Gm (defScope (top 14)) "Seekers" := ⟨by decide +kernel, by decide +kernel, by decide +kernel⟩
def csc_law_0 : Scope := { kind := .function, names := [(".0", .local), ("k", .cell), ("len", .globalImplicit), ("gone", .free)], isGenerator := false, isCoroutine := false, more := [] }
theorem cs_law_0 : CompSc1 csc_law_0 (defScope (top 14)) ["k", "gone"] ["script", "row", "many", "places", "seekers", "gone", "spots", "steps", "draw", "held", "away", "place", "k", "found", "shares"] [none, some 5] "k" := CompSc1.mk' rfl (fun _ _ => rfl) (fun _ => rfl) (by decide +kernel) (by decide +kernel) (by decide +kernel) (by decide +kernel) (by decide +kernel) rfl (by decide +kernel)
theorem nmc_law_0_k : NmC csc_law_0 "k" := ⟨by decide +kernel, by decide +kernel, by decide +kernel⟩
theorem nmc_law_0_gone : NmR csc_law_0 "gone" := ⟨by decide +kernel, by decide +kernel, by decide +kernel⟩
theorem gmc_law_0_len : Gm csc_law_0 "len" := ⟨by decide +kernel, by decide +kernel, by decide +kernel⟩
def csc_law_1 : Scope := { kind := .function, names := [(".0", .local), ("who", .local), ("some", .local), ("k", .free)], isGenerator := false, isCoroutine := false, more := [] }
theorem cs_law_1 : CompSc csc_law_1 csc_law_0 ["who", "some", "k"] ["k", "gone"] [none, none, some 0] := CompSc.mk' rfl (by decide +kernel) (by decide +kernel) (by decide +kernel) (by decide +kernel) rfl (by decide +kernel)
theorem nmc_law_1_who : Nm csc_law_1 "who" := ⟨by decide +kernel, by decide +kernel, by decide +kernel⟩
theorem nmc_law_1_some : Nm csc_law_1 "some" := ⟨by decide +kernel, by decide +kernel, by decide +kernel⟩
theorem nmc_law_1_k : NmR csc_law_1 "k" := ⟨by decide +kernel, by decide +kernel, by decide +kernel⟩
def csc_law_2 : Scope := { kind := .function, names := [(".0", .local), ("k", .local), ("held", .free), ("seekers", .free)], isGenerator := false, isCoroutine := false, more := [] }
theorem cs_law_2 : CompSc csc_law_2 (defScope (top 14)) ["k", "held", "seekers"] ["script", "row", "many", "places", "seekers", "gone", "spots", "steps", "draw", "held", "away", "place", "k", "found", "shares"] [none, some 9, some 4] := CompSc.mk' rfl (by decide +kernel) (by decide +kernel) (by decide +kernel) (by decide +kernel) rfl (by decide +kernel)
theorem nmc_law_2_k : Nm csc_law_2 "k" := ⟨by decide +kernel, by decide +kernel, by decide +kernel⟩
theorem nmc_law_2_held : NmR csc_law_2 "held" := ⟨by decide +kernel, by decide +kernel, by decide +kernel⟩
theorem nmc_law_2_seekers : NmR csc_law_2 "seekers" := ⟨by decide +kernel, by decide +kernel, by decide +kernel⟩
set_option maxHeartbeats 20000000
theorem ok_law {f : Addr} {fd : FuncData} (F : Fun K "law" "law" (top 14) f fd) (T : TxtF K mg a) (D_law_draws : FnIn P w K mg base CX0 2 "_law_draws" ["script", "k", "many", "base"] (spDraws K)) (M_Seekers : MkIn P w K mg base CX0 2 a.Seekers "Seekers" ["self", "many", "places"] (spInitS K a)) (cs : SkC K a a.Seekers)
    (D_law_fair : FnIn P w K mg base CX0 1 "_law_fair" ["gone", "k", "many"] spFair) (DD_holders : ∀ C ∈ a.racks, MthIn P w K mg base CX0 1 C "holders" ["self"] (spHolders K a)) (DD_stuck : ∀ C ∈ a.racks, MthIn P w K mg base CX0 1 C "stuck" ["self"] (spStuck K a)) (DD_take : ∀ C ∈ a.racks, MthIn P w K mg base CX0 2 C "take" ["self", "place"] (spTakeS K a))
    (DD_free : ∀ C ∈ a.racks, MthIn P w K mg base (CXE P w) 3 C "free" ["self", "k"] (spFree K a)) (DD_stick : ∀ C ∈ a.racks, MthIn P w K mg base (CXE P w) 3 C "stick" ["self", "k"] (spJam K a true)) (DD_mend : ∀ C ∈ a.racks, MthIn P w K mg base (CXE P w) 3 C "mend" ["self", "k"] (spJam K a false))
    (DD_shares : ∀ C ∈ a.racks, MthIn P w K mg base CX0 1 C "shares" ["self"] (spShares K a)) (DD_steps : ∀ C ∈ a.racks, MthIn P w K mg base CX0 1 C "steps" ["self"] (spSteps K a)) : FnOk P w K mg base CX0 6 f fd ["script"] (spLaw K) := by
  have D_holders := DD_holders a.Seekers cs.c.mem
  have D_stuck := DD_stuck a.Seekers cs.c.mem
  have D_take := DD_take a.Seekers cs.c.mem
  have D_free := DD_free a.Seekers cs.c.mem
  have D_stick := DD_stick a.Seekers cs.c.mem
  have D_mend := DD_mend a.Seekers cs.c.mem
  have D_shares := DD_shares a.Seekers cs.c.mem
  have D_steps := DD_steps a.Seekers cs.c.mem
  have cls := cs.c.cls
  refine F.ok sc_law (fun vs H Q E h => ?_) (fun cdv A outer s H vs Q E hr h => ?_)
  · obtain ⟨p, ns, rfl, _⟩ := h
    rfl
  · obtain ⟨ps, ns, rfl, hS, hn, q⟩ := h
    have hu := hr.units
    have nd := sc_law.nd
    refine ⟨_, (@pss_cons _ _ _ _ _ (ps_nm 1 nd nm_law_row (pe_fd D_law_draws gm_law__law_draws (hr.mono (by decide)) pass0 (pa_cons (pvN 0 nm_law_script) (pa_cons pe_int (pa_cons pe_int (pa_cons pe_int pa_nil))))))
        (pss_cons (ps_nm 2 nd nm_law_many (pe_op op_addG pe_int (pe_op op_mod (pe_ix ix_seq (pvN 1 nm_law_row) pe_int (fun _ _ => rfl)) pe_int)))
        (pss_cons (ps_nm 3 nd nm_law_places (pe_ix ix_seq (pe_lst (pa_cons (pe_op op_addG pe_int (pe_op op_mod (pe_ix ix_seq (pvN 1 nm_law_row) pe_int (fun _ _ => rfl)) pe_int)) (pa_cons pe_int pa_nil))) (pe_op op_mod (pe_ix ix_seq (pvN 1 nm_law_row) pe_int (fun _ _ => rfl)) pe_int) (fun _ _ => rfl)))
        (pss_cons (ps_nmC 4 nd nm_law_seekers (pe_mk M_Seekers gm_law_Seekers (hr.mono (by decide)) pass0 (pa_cons (pvN 2 nm_law_many) (pa_cons (pvN 3 nm_law_places) pa_nil))))
        (pss_cons (ps_nmC 5 nd nm_law_gone (pe_lst pa_nil))
        (pss_cons (ps_nm 6 nd nm_law_spots (pe_op op_mulG (pe_lst (pa_cons pe_int pa_nil)) (pvN 2 nm_law_many)))
        (pss_cons (ps_nm 7 nd nm_law_steps (pe_op op_mulG (pe_lst (pa_cons pe_int pa_nil)) (pvN 2 nm_law_many)))
        (pss_cons (ps_for PassesOwn.never rfl (pi_list (pe_op op_addG (pe_fd D_law_draws gm_law__law_draws (hr.mono (by decide)) pass0 (pa_cons (pvN 0 nm_law_script) (pa_cons pe_int (pa_cons pe_int (pa_cons pe_int pa_nil))))) (pe_fd D_law_draws gm_law__law_draws (hr.mono (by decide)) pass0 (pa_cons (pvN 0 nm_law_script) (pa_cons pe_int (pa_cons pe_int (pa_cons pe_int pa_nil))))))) (pg_nm 8 nd nm_law_draw) (pss_cons (ps_nmC 9 nd nm_law_held (pe_md0 D_holders cls (pvC 4 nm_law_seekers) (hr.mono (by decide)) pass0))
          (pss_cons (ps_setC (j := 10) rfl nd rfl (Or.inl nm_law_away.loc) cs_law_2 (pi_r1 gm_law_range T.n_range (pa_cons (pvN 2 nm_law_many) pa_nil)) (fun cl C fp pins s₂ H₂ => (pg_nm 0 cs_law_2.nd nmc_law_2_k.comp)) (fun cl C fp pins s₂ H₂ => (pts_one (PW.pt (pw_or (pt_cmpR op_notN (pe_ix (ix_seqB K rfl) (pvF 1 nmc_law_2_held.comp) (pvN 0 nmc_law_2_k.comp) (fun _ _ => rfl)) pe_non (nomark _)) (pw_or1 (pt_cmpR (op_inGB K rfl) (pvN 0 nmc_law_2_k.comp) (pe_md0 D_stuck cls (pvF 2 nmc_law_2_seekers.comp) (hr.mono (by decide)) pass0) (by with_unfolding_all rfl))))))) (fun cl C fp pins s₂ H₂ => (pvN 0 nmc_law_2_k.comp)) (by rfl) (by intro _; rfl) (Or.inl rfl))
          (pss_cons (ps_nm 11 nd nm_law_place (pe_op op_mod (pe_op op_fdiv (pvN 8 nm_law_draw) pe_int) (pvN 3 nm_law_places)))
          (pss_cons (ps_nm 12 nd nm_law_k (pe_op op_mod (pe_op op_fdiv (pvN 8 nm_law_draw) pe_int) (pvN 2 nm_law_many)))
          (pss_one (ps_if (PW.pt (pw_and (pt_cmpR op_lt (pe_op op_mod (pvN 8 nm_law_draw) pe_int) pe_int (nomark _)) (pw_and1 (pt_cmpR op_notInG (pvN 11 nm_law_place) (pvC 9 nm_law_held) (by with_unfolding_all rfl))))) (pss_cons (ps_nm 13 nd nm_law_found (pe_md D_take cls (pvC 4 nm_law_seekers) (hr.mono (by decide)) pass0 (pa_cons (pvN 11 nm_law_place) pa_nil)))
            (pss_cons (ps_if (PW.pt (pw_or (PW.pt (pw_and (pt_cmpR op_isN (pvN 13 nm_law_found) pe_non (nomark _)) (pw_and1 (pt_cmpR (op_neG hu) (pvN 10 nm_law_away) (pe_ct (call_listG rfl) gm_law_list T.n_list bt_list (pa_cons (pe_ct call_rangeV gm_law_range T.n_range bt_range (pa_cons (pvN 2 nm_law_many) pa_nil)) pa_nil)) (nomark _))))) (pw_or1 (PW.pt (pw_and (pt_cmpR op_notN (pvN 13 nm_law_found) pe_non (nomark _)) (pw_and1 (pt_cmpR op_inG (pe_ix ix_seq (pvN 13 nm_law_found) pe_int (fun _ _ => rfl)) (pvN 10 nm_law_away) (by with_unfolding_all rfl)))))))) (pss_one (ps_ret pe_bl)) pss_nil)
            (pss_one (ps_if (pt_cmpR op_notN (pvN 13 nm_law_found) pe_non (nomark _)) (pss_cons (ps_nm 12 nd nm_law_k (pe_ix ix_seq (pvN 13 nm_law_found) pe_int (fun _ _ => rfl)))
              (pss_cons (ps_expr (pe_bm PySem.F.plainAttrs_list PySem.F.slot_list_append PySem.F.type_list_append mt_append (pvC 5 nm_law_gone) (pa_cons (pe_tup (pa_cons (pvN 12 nm_law_k) (pa_cons (pvN 10 nm_law_away) pa_nil))) pa_nil)))
              (pss_cons (ps_asg (pe_op op_addG (pe_ix ix_seq (pvN 7 nm_law_steps) (pvN 12 nm_law_k) (fun _ _ => rfl)) (pe_ix ix_seq (pvN 13 nm_law_found) pe_int (fun _ _ => rfl))) (pg_sub (pvN 7 nm_law_steps) (pvN 12 nm_law_k) set_list))
              (pss_cons (ps_asg (pe_op op_mod (pe_op op_addG (pe_ix ix_seq (pvN 6 nm_law_spots) (pvN 12 nm_law_k) (fun _ _ => rfl)) (pe_ix ix_seq (pvN 13 nm_law_found) pe_int (fun _ _ => rfl))) (pvN 3 nm_law_places)) (pg_sub (pvN 6 nm_law_spots) (pvN 12 nm_law_k) set_list))
              (pss_one (ps_if (PW.pt (pw_or (pt_cmpR op_lt (pe_ix ix_seq (pvN 13 nm_law_found) pe_int (fun _ _ => rfl)) pe_int (nomark _)) (pw_or (pt_cmpR op_ge (pe_ix ix_seq (pvN 13 nm_law_found) pe_int (fun _ _ => rfl)) (pvN 3 nm_law_places) (nomark _)) (pw_or (pt_cmpR (op_neG hu) (pe_ix ix_seq (pvN 6 nm_law_spots) (pvN 12 nm_law_k) (fun _ _ => rfl)) (pvN 11 nm_law_place) (nomark _)) (pw_or1 (pt_not (pt_val (pe_fd D_law_fair gm_law__law_fair (hr.mono (by decide)) pass0 (pa_cons (pvC 5 nm_law_gone) (pa_cons (pvN 12 nm_law_k) (pa_cons (pvN 2 nm_law_many) pa_nil))))))))))) (pss_one (ps_ret pe_bl)) pss_nil)))))) pss_nil)))) (pss_one (ps_if (PW.pt (pw_and (pt_cmpR op_lt (pe_op op_mod (pvN 8 nm_law_draw) pe_int) pe_int (nomark _)) (pw_and1 (pt_cmpR op_notN (pe_ix ix_seq (pvC 9 nm_law_held) (pvN 12 nm_law_k) (fun _ _ => rfl)) pe_non (nomark _))))) (pss_one (ps_expr (pe_md D_free cls (pvC 4 nm_law_seekers) (hr.mono (by decide)) pass_no (pa_cons (pvN 12 nm_law_k) pa_nil)))) (pss_one (ps_if (pt_cmpR (op_eqG hu) (pe_op op_mod (pvN 8 nm_law_draw) pe_int) pe_int (nomark _)) (pss_one (ps_expr (pe_md D_mend cls (pvC 4 nm_law_seekers) (hr.mono (by decide)) pass_no (pa_cons (pvN 12 nm_law_k) pa_nil)))) (pss_one (ps_if (pt_cmpR (op_eqG hu) (pe_op op_mod (pe_op op_fdiv (pvN 8 nm_law_draw) pe_int) pe_int) pe_int (nomark _)) (pss_one (ps_expr (pe_md D_stick cls (pvC 4 nm_law_seekers) (hr.mono (by decide)) pass_no (pa_cons (pvN 12 nm_law_k) pa_nil)))) pss_nil)))))))))))))
        (pss_cons (ps_setC1 (j := 14) rfl nd rfl (Or.inl nm_law_shares.loc) cs_law_0 (pi_r1 gm_law_range T.n_range (pa_cons (pvN 2 nm_law_many) pa_nil)) (fun cl c0 C fp pins s₂ H₂ => (pg_nmC 0 cs_law_0.nd nmc_law_0_k.comp)) (fun cl c0 C fp pins s₂ H₂ => pts_nil) (fun cl c0 C fp pins s₂ H₂ => (pe_cb (call_lenGB K rfl) gmc_law_0_len.comp T.n_len bt_len (pa_cons (pe_comp rfl cs_law_1.comp (pi_listB K rfl (pvF 1 nmc_law_0_gone.comp)) (fun cl C fp pins s₂ H₂ => (pg_tupB (X := cxComp _ _ _ cl C fp pins s₂ H₂) K rfl 2 rfl (pgs_cons (pg_nm 0 cs_law_1.nd nmc_law_1_who.comp) (pgs_cons (pg_nm 1 cs_law_1.nd nmc_law_1_some.comp) pgs_nil)) rfl rfl)) (fun cl C fp pins s₂ H₂ => (pts_one (pt_cmpR (op_eqGB K rfl hu) (pvN 0 nmc_law_1_who.comp) (pvF 2 nmc_law_1_k.comp) (nomark _)))) (fun cl C fp pins s₂ H₂ => pe_int)) pa_nil))) (by rfl) (by intro _; rfl) (Or.inl rfl))
        (pss_one (ps_ret (pe_and (pe_cmpR (op_eqG hu) (pe_md0 D_shares cls (pvC 4 nm_law_seekers) (hr.mono (by decide)) pass0) (pvN 14 nm_law_shares) (nomark _)) (pe_one (pe_cmpR (op_eqG hu) (pe_md0 D_steps cls (pvC 4 nm_law_seekers) (hr.mono (by decide)) pass0) (pvN 7 nm_law_steps) (nomark _))))))))))))))), ?_⟩
    walk_at "st"
    refine ⟨ps, ns, 0, _, _, rfl, hS, by decide, by decide, hn, by decide, by decide, by decide, by decide, fun r row H1 s1 nr hR hlen hrow => ?_⟩
    obtain ⟨v0, v1, v2, rfl⟩ : ∃ v0 v1 v2, row = [v0, v1, v2] := by
      match row, hlen with
      | [v0, v1, v2], _ => exact ⟨v0, v1, v2, rfl⟩
    have b0 := hrow v0 (by simp)
    have b1 := hrow v1 (by simp)
    have b2 := hrow v2 (by simp)
    walk_at "st"
    refine ⟨(by show 2 ≤ sizeLine; decide), fun l1 n1 => ?_⟩
    have t2 := (Same.refl H1).upd (o := .lst [V.int (1 + v1 % 60), V.int 3]) n1
    have hR2 := t2 _ _ hR
    obtain ⟨places, ep, mp⟩ := pickI (xs := [1 + v1 % 60, 3]) (i := v2 % 2) (by omega) (by show v2 % 2 < 2; omega)
    have hpl : 1 ≤ places ∧ places ≤ 60 := by
      simp only [List.mem_cons, List.not_mem_nil, or_false] at mp
      rcases mp with h | h <;> omega
    walk_at "st"
    refine Or.inl ⟨l1, _, _, _, rfl, rfl, .of upd_same, ep, ?_⟩
    generalize upd H1 l1 (.lst [V.int (1 + v1 % 60), V.int 3]) = H2 at t2 hR2 ⊢
    clear ep mp
    have s2 := s1.trans t2
    have hmany : 1 ≤ 1 + v0 % 12 ∧ 1 + v0 % 12 ≤ 12 := by omega
    generalize 1 + v0 % 12 = many at hmany ⊢
    walk_at "st"
    intro p dx nx ndx ndd
    refine ⟨p, many, places, a.Seekers, dx, rfl, upd_same, cs, by omega, by omega, fun H3 ra rb rc rs rw sx sek fra frb frc frs frw => ⟨rfl, ?_⟩⟩
    have st0 : start ["script", "row", "many", "places", "seekers", "gone", "spots", "steps", "draw", "held", "away", "place", "k", "found", "shares"] [V.ref ps] = [some (.ref ps), none, none, none, none, none, none, none, none, none, none, none, none, none, none] := rfl
    simp only [st0, List.set_cons_succ, List.set_cons_zero]
    walk_at "st"
    refine ⟨(by show 0 ≤ sizeLine; decide), fun gl ngl => ?_⟩
    have t4 := (Same.refl H3).upd (o := .lst []) ngl
    have h4 : (upd H3 gl (.lst [])) gl = some (.lst (([] : List Gn).map gnV)) := upd_same
    generalize upd H3 gl (.lst []) = H4 at t4 h4 ⊢
    walk_at "st"
    refine ⟨(by show 1 ≤ sizeLine; decide), fun lx1 nlx1 => ?_⟩
    walk_at "st"
    refine Or.inr (Or.inr ⟨lx1, many, [.int 0], rfl, rfl, upd_same, by omega, by omega, (by rw [List.length_singleton, sizeLine_eq]; omega), fun sp nsp => ?_⟩)
    rw [rep_flat]
    have t5 : Same H4 (upd (upd H4 lx1 (.lst [.int 0])) sp (.lst (List.replicate many.toNat (V.int 0)))) := ((Same.refl _).upd nlx1).upd nsp
    have h5 : (upd (upd H4 lx1 (.lst [.int 0])) sp (.lst (List.replicate many.toNat (V.int 0)))) sp = some (.lst ((List.replicate many.toNat (0 : Int)).map V.int)) := by rw [upd_same, List.map_replicate]
    have f5 : H4 sp = none := ((Same.refl _).upd nlx1).free nsp
    generalize upd (upd H4 lx1 (.lst [.int 0])) sp (.lst (List.replicate many.toNat (V.int 0))) = H5 at t5 h5 ⊢
    walk_at "st"
    refine ⟨(by show 1 ≤ sizeLine; decide), fun lx2 nlx2 => ?_⟩
    walk_at "st"
    refine Or.inr (Or.inr ⟨lx2, many, [.int 0], rfl, rfl, upd_same, by omega, by omega, (by rw [List.length_singleton, sizeLine_eq]; omega), fun stp nstp => ?_⟩)
    rw [rep_flat]
    have t6 : Same H5 (upd (upd H5 lx2 (.lst [.int 0])) stp (.lst (List.replicate many.toNat (V.int 0)))) := ((Same.refl _).upd nlx2).upd nstp
    have h6 : (upd (upd H5 lx2 (.lst [.int 0])) stp (.lst (List.replicate many.toNat (V.int 0)))) stp = some (.lst ((List.replicate many.toNat (0 : Int)).map V.int)) := by rw [upd_same, List.map_replicate]
    have f6 : H5 stp = none := ((Same.refl _).upd nlx2).free nstp
    generalize upd (upd H5 lx2 (.lst [.int 0])) stp (.lst (List.replicate many.toNat (V.int 0))) = H6 at t6 h6 ⊢
    have s3 : ∀ {b o}, H2 b = some o → H3 b = some o := fun {b o} e => sx b o (fun z => by rw [List.mem_singleton.mp z, nx] at e; cases e) (((Same.refl H2).upd ndx).upd (by rw [upd_ne ndd.symm]; exact nx) b o e)
    have s3' : Same H2 H3 := fun b o e => s3 e
    have s6 := s2.trans (s3'.trans (t4.trans (t5.trans t6)))
    walk_at "st"
    refine ⟨ps, ns, 1, _, _, rfl, s6.seq hS, by decide, by decide, hn, by decide, by decide, by decide, by decide, fun d1 dr1 H7 t7 nd1 hd1 ld1 bd1 => ?_⟩
    walk_at "st"
    refine ⟨ps, ns, 2, _, _, rfl, (s6.trans t7).seq hS, by decide, by decide, hn, by decide, by decide, by decide, by decide, fun d2 dr2 H8 t8 nd2 hd2 ld2 bd2 => ?_⟩
    have ld1 : dr1.length = 60 := ld1
    have ld2 : dr2.length = 60 := ld2
    walk_at "st"
    refine Or.inr (Or.inr ⟨d1, d2, _, _, rfl, rfl, t8 _ _ hd1, hd2, (by rw [List.length_map, List.length_map, sizeLine_eq]; omega), fun dl ndl => ?_⟩)
    rw [← List.map_append]
    have ldr : (dr1 ++ dr2).length = 120 := by rw [List.length_append]; omega
    have bdr : ∀ v ∈ dr1 ++ dr2, 0 ≤ v ∧ v < 27720 := fun v hv => (List.mem_append.mp hv).elim (bd1 v) (bd2 v)
    generalize dr1 ++ dr2 = drs at ldr bdr ⊢
    have t9 := (Same.refl H8).upd (o := .lst (drs.map V.int)) ndl
    have h9 : (upd H8 dl (.lst (drs.map V.int))) dl = some (.lst (drs.map V.int)) := upd_same
    generalize upd H8 dl (.lst (drs.map V.int)) = H9 at t9 h9 ⊢
    have t39 := t4.trans (t5.trans (t6.trans (t7.trans (t8.trans t9))))
    have sek9 := sek.same t39
    have g9 := (t5.trans (t6.trans (t7.trans (t8.trans t9)))) _ _ h4
    have sp9 := (t6.trans (t7.trans (t8.trans t9))) _ _ h5
    have stp9 := (t7.trans (t8.trans t9)) _ _ h6
    have go0 : Go K a H9 p ra rb rc rs rw gl sp stp dl (List.replicate many.toNat .non) (List.replicate many.toNat false) (List.replicate many.toNat 0) places 0 (List.replicate many.toNat 0) (List.replicate many.toNat 0) [] many.toNat 0 drs := by
      have e48 : ∀ {b o}, H8 b = some o → b ≠ dl := fun e z => by rw [z, ndl] at e; cases e
      refine ⟨sek9, g9, fun t m => absurd m (by simp), sp9, stp9, h9, ?_, fun t m => absurd m (by simp), by simp, by omega, by omega, fun v hv => .inl (List.eq_of_mem_replicate hv), cov_nil _ _, ?_, Nat.zero_le _, fun t m => absurd m (by simp)⟩
      · have k := sek.ap
        have a4 : ∀ {b xs}, H3 b = some (.lst xs) → b ≠ gl ∧ b ≠ sp ∧ b ≠ stp ∧ b ≠ dl := fun e => ⟨ne_of_none e ngl, ne_of_none (t4 _ _ e) f5, ne_of_none ((t4.trans t5) _ _ e) f6, e48 ((t4.trans (t5.trans (t6.trans (t7.trans t8)))) _ _ e)⟩
        have r1 := a4 sek.ha
        have r2 := a4 sek.hb
        have r3 := a4 sek.hc
        have r4 := a4 sek.hs_
        have r5 := a4 sek.hw
        have g1 : gl ≠ sp := ne_of_none h4 f5
        have g2 : gl ≠ stp := ne_of_none (t5 _ _ h4) f6
        have g3 : gl ≠ dl := e48 ((t5.trans (t6.trans (t7.trans t8))) _ _ h4)
        have g4 : sp ≠ stp := ne_of_none h5 f6
        have g5 : sp ≠ dl := e48 ((t6.trans (t7.trans t8)) _ _ h5)
        have g6 : stp ≠ dl := e48 ((t7.trans t8) _ _ h6)
        simp only [List.nodup_cons, List.mem_cons, List.not_mem_nil, or_false, not_or, not_false_eq_true, List.nodup_nil, and_true] at k ⊢
        exact ⟨⟨k.1.1, k.1.2.1, k.1.2.2.1, k.1.2.2.2, r1.1, r1.2.1, r1.2.2.1, r1.2.2.2⟩, ⟨k.2.1.1, k.2.1.2.1, k.2.1.2.2, r2.1, r2.2.1, r2.2.2.1, r2.2.2.2⟩, ⟨k.2.2.1.1, k.2.2.1.2, r3.1, r3.2.1, r3.2.2.1, r3.2.2.2⟩, ⟨k.2.2.2, r4.1, r4.2.1, r4.2.2.1, r4.2.2.2⟩, ⟨r5.1, r5.2.1, r5.2.2.1, r5.2.2.2⟩, ⟨g1, g2, g3⟩, ⟨g4, g5⟩, g6⟩
      · refine List.ext_getElem (by simp) fun i h1 h2 => ?_
        simp [wentN]
    walk_at "st"
    refine ⟨⟨_, .of h9⟩, for_list (K := K) (a := dl) (xs := drs.map V.int) (fun i σ H' => ∃ x8 x9 x10 x11 x12 x13 hs js ts mark st wt gs, σ = [some (.ref ps), some (.ref r), some (.int many), some (.int places), some (.ref p), some (.ref gl), some (.ref sp), some (.ref stp), x8, x9, x10, x11, x12, x13, none] ∧ Go K a H' p ra rb rc rs rw gl sp stp dl hs js ts places mark st wt gs many.toNat i drs)
      ⟨none, none, none, none, none, none, _, _, _, _, _, _, _, rfl, go0⟩ (fun i σ H' _ ⟨_, _, _, _, _, _, _, _, _, _, _, _, _, _, go⟩ => .of go.hdl) ?_ ?_⟩
    · rintro i y σ H' hi ⟨x8, x9, x10, x11, x12, x13, hs, js, ts, mark, st, wt, gs, rfl, go⟩
      have ilt : i < drs.length := by have := (List.getElem?_eq_some_iff.mp hi).1; rwa [List.length_map] at this
      rw [List.getElem?_map, List.getElem?_eq_getElem ilt] at hi
      cases hi
      have bd := bdr drs[i] (List.getElem_mem ilt)
      generalize drs[i] = draw at bd ⊢
      have sk := go.sek
      have R := sk.r
      have hn' := go.hn
      obtain ⟨dxp, fsp, hp, F3⟩ := R.ins
      walk_at "st"
      refine ⟨p, dxp, fsp, rfl, hp, F3.m _ (by decide), ?_⟩
      walk_at "st"
      refine ⟨p, a.Seekers, ra, rb, rc, hs, js, ts, rfl, R, fun hl nhl => ?_⟩
      have u1 := (Same.refl H').upd (o := .lst hs) nhl
      have e1 : (upd H' hl (.lst hs)) hl = some (.lst hs) := upd_same
      generalize upd H' hl (.lst hs) = K1 at u1 e1 ⊢
      walk_at "st"
      refine ⟨by omega, by omega, fun aw naw => ?_⟩
      refine comp_range (lo := 0) (n := many.toNat) (fun j σ H2 => ∃ x, σ = [x, some (.ref hl), some (.ref p)] ∧ Same K1 H2 ∧ H2 aw = some (.lst ((awayL hs js j).map V.int))) ⟨none, rfl, (Same.refl K1).upd naw, upd_same⟩ ?_ ?_
      · rintro j σ H2 hj ⟨x, rfl, sm, hL⟩
        simp only [Int.zero_add]
        have jl : j < hs.length := by rw [hn']; exact hj
        have ej : atI hs (j : Int) = some hs[j] := by
          obtain ⟨v, q1, q2⟩ := atI_in (xs := hs) (k := (j : Int)) (by omega) (by omega)
          rw [q1, ← q2]
          show hs[j]? = _
          rw [List.getElem?_eq_getElem jl]
        walk_at "st"
        refine Or.inl ⟨hl, _, _, _, rfl, rfl, .of (sm _ _ e1), ej, ?_⟩
        walk_at "st"
        have gj : hs.getD ((j : Int)).toNat .non = hs[j] := by
          show hs.getD j .non = _
          rw [List.getD, List.getElem?_eq_getElem jl]; rfl
        have es := away_succ hs js j
        have al := away_len hs js j
        by_cases hz : hs[j] = .non
        · rw [decide_eq_true hz]
          refine iteF ?_
          walk_at "st"
          refine ⟨p, dxp, fsp, rfl, (u1.trans sm) _ _ hp, F3.m _ (by decide), ?_⟩
          walk_at "st"
          refine ⟨p, a.Seekers, ra, rb, rc, hs, js, ts, rfl, R.same (u1.trans sm), fun H3 rr t3 nrr hrr => ?_⟩
          refine Or.inr ⟨rr, _, rfl, .inl (.of hrr), rfl, flat_int _, ?_⟩
          rw [inV_stuck (by rw [R.lj, hn']; exact hj)]
          have fb : frB hs js (j : Int) = !js.getD j false := by
            unfold frB
            rw [gj, decide_eq_true hz, Bool.true_and]; rfl
          rw [fb] at es
          walk_at "st"
          have hL3 := t3 _ _ hL
          cases hb : js.getD j false with
          | true =>
            rw [hb] at es
            refine iteT ?_
            walk_at "st"
            refine ⟨_, hL3, (by rw [List.length_map, sizeLine_eq]; omega), _, rfl, (sm.trans t3).updN naw, ?_⟩
            rw [upd_same, es, List.map_append]; rfl
          | false =>
            rw [hb] at es
            refine iteF ?_
            refine ⟨_, rfl, sm.trans t3, ?_⟩
            rw [es]
            simpa using hL3
        · rw [decide_eq_false hz]
          refine iteT ?_
          refine iteT ?_
          walk_at "st"
          have fb : frB hs js (j : Int) = false := by
            unfold frB
            rw [gj, decide_eq_false hz, Bool.false_and]
          rw [fb] at es
          refine ⟨_, hL, (by rw [List.length_map, sizeLine_eq]; omega), _, rfl, sm.updN naw, ?_⟩
          rw [upd_same, es, List.map_append]; rfl
      · rintro σ H2 ⟨x, rfl, sm, hL⟩
        walk_at "st"
        have go2 := (go.same (u1.trans sm)).next
        have hsH := sm _ _ e1
        have kk : 0 ≤ draw / 8 % many ∧ draw / 8 % many < many := ⟨Int.emod_nonneg _ (by omega), Int.emod_lt_of_pos _ (by omega)⟩
        have pp : 0 ≤ draw / 8 % places ∧ draw / 8 % places < places := ⟨Int.emod_nonneg _ (by omega), Int.emod_lt_of_pos _ (by omega)⟩
        have klt : (draw / 8 % many).toNat < hs.length := by rw [hn']; omega
        have kin : inR (draw / 8 % many) hs = true := by
          unfold inR
          rw [decide_eq_true kk.1, decide_eq_true (by omega)]; rfl
        obtain ⟨hk, ek, gk0⟩ := atI_in (xs := hs) (k := draw / 8 % many) kk.1 (by omega)
        have gk : hs.getD (draw / 8 % many).toNat .non = hk := by rw [List.getD, gk0]; rfl
        have flat : hs.all flatV = true := by
          rw [List.all_eq_true]
          intro v hv
          rcases go.fl v hv with z | ⟨i, z⟩ <;> rw [z] <;> rfl
        have flSet : ∀ v ∈ hs.set (draw / 8 % many).toNat .non, v = .non ∨ ∃ i : Int, v = .int i := fun v hv => by
          rcases List.mem_or_eq_of_mem_set hv with m | e
          · exact go.fl v m
          · exact .inl e
        by_cases c1 : draw % 8 < 4
        · rw [decide_eq_true c1]
          refine iteT ?_
          walk_at "st"
          refine Or.inr ⟨hl, hs, rfl, .inl (.of hsH), rfl, flat, ?_⟩
          walk_at "st"
          rw [nn]
          cases hin : inV (.int (draw / 8 % places)) hs with
          | true =>
            refine iteF ?_
            walk_at "st"
            by_cases c5 : draw % 8 < 6
            · rw [decide_eq_true c5]
              refine iteT ?_
              walk_at "st"
              refine Or.inl ⟨hl, _, _, _, rfl, rfl, .of hsH, ek, ?_⟩
              walk_at "st"
              by_cases hz : hk = .non
              · rw [decide_eq_true hz]
                refine iteF ?_
                walk_at "st"
                by_cases c6 : draw % 8 = 6
                · rw [decide_eq_true (congrArg V.int c6)]
                  refine iteT ?_
                  walk_at "st"
                  refine ⟨p, dxp, fsp, rfl, (u1.trans sm) _ _ hp, F3.m _ (by decide), ?_⟩
                  walk_at "st"
                  refine ⟨p, _, a.Seekers, ra, rb, rc, hs, js, ts, rfl, R.same (u1.trans sm), ?_⟩
                  rw [if_pos kin]
                  walk_at "st"
                  exact ⟨_, _, _, _, _, _, _, _, _, _, _, _, _, rfl, go2.setB (by rw [List.length_set])⟩
                rw [decide_eq_false (fun z => c6 (V.int.inj z))]
                refine iteF ?_
                walk_at "st"
                by_cases c7 : draw / 480 % 3 = 0
                · rw [decide_eq_true (congrArg V.int c7)]
                  refine iteT ?_
                  walk_at "st"
                  refine ⟨p, dxp, fsp, rfl, (u1.trans sm) _ _ hp, F3.m _ (by decide), ?_⟩
                  walk_at "st"
                  refine ⟨p, _, a.Seekers, ra, rb, rc, hs, js, ts, rfl, R.same (u1.trans sm), ?_⟩
                  rw [if_pos kin]
                  walk_at "st"
                  exact ⟨_, _, _, _, _, _, _, _, _, _, _, _, _, rfl, go2.setB (by rw [List.length_set])⟩
                rw [decide_eq_false (fun z => c7 (V.int.inj z))]
                refine iteF ?_
                exact ⟨_, _, _, _, _, _, _, _, _, _, _, _, _, rfl, go2⟩
              · rw [decide_eq_false hz]
                refine iteT ?_
                walk_at "st"
                refine ⟨p, dxp, fsp, rfl, (u1.trans sm) _ _ hp, F3.m _ (by decide), ?_⟩
                walk_at "st"
                refine ⟨p, _, a.Seekers, ra, rb, rc, hs, js, ts, rfl, R.same (u1.trans sm), ?_⟩
                rw [if_pos ⟨kin, by rw [gk]; exact hz⟩]
                walk_at "st"
                exact ⟨_, _, _, _, _, _, _, _, _, _, _, _, _, rfl, go2.setA (by rw [List.length_set]) flSet⟩
            rw [decide_eq_false c5]
            refine iteF ?_
            refine iteF ?_
            walk_at "st"
            by_cases c6 : draw % 8 = 6
            · rw [decide_eq_true (congrArg V.int c6)]
              refine iteT ?_
              walk_at "st"
              refine ⟨p, dxp, fsp, rfl, (u1.trans sm) _ _ hp, F3.m _ (by decide), ?_⟩
              walk_at "st"
              refine ⟨p, _, a.Seekers, ra, rb, rc, hs, js, ts, rfl, R.same (u1.trans sm), ?_⟩
              rw [if_pos kin]
              walk_at "st"
              exact ⟨_, _, _, _, _, _, _, _, _, _, _, _, _, rfl, go2.setB (by rw [List.length_set])⟩
            rw [decide_eq_false (fun z => c6 (V.int.inj z))]
            refine iteF ?_
            walk_at "st"
            by_cases c7 : draw / 480 % 3 = 0
            · rw [decide_eq_true (congrArg V.int c7)]
              refine iteT ?_
              walk_at "st"
              refine ⟨p, dxp, fsp, rfl, (u1.trans sm) _ _ hp, F3.m _ (by decide), ?_⟩
              walk_at "st"
              refine ⟨p, _, a.Seekers, ra, rb, rc, hs, js, ts, rfl, R.same (u1.trans sm), ?_⟩
              rw [if_pos kin]
              walk_at "st"
              exact ⟨_, _, _, _, _, _, _, _, _, _, _, _, _, rfl, go2.setB (by rw [List.length_set])⟩
            rw [decide_eq_false (fun z => c7 (V.int.inj z))]
            refine iteF ?_
            exact ⟨_, _, _, _, _, _, _, _, _, _, _, _, _, rfl, go2⟩
          | false =>
            refine iteT ?_
            walk_at "st"
            refine ⟨p, dxp, fsp, rfl, (u1.trans sm) _ _ hp, F3.m _ (by decide), ?_⟩
            walk_at "st"
            refine ⟨p, a.Seekers, ra, rb, rc, rs, rw, hs, js, ts, places, mark, st, wt, draw / 8 % places, rfl, sk.same (u1.trans sm), go.m0, (by have := go.m1; omega), by omega, ?_⟩
            have smM : Sm many := ⟨by omega, by omega⟩
            have smZ : Sm 0 := ⟨by decide, by decide⟩
            cases ef : ffree hs js mark with
            | none =>
              intro H3 t3
              walk_at "st"
              refine Or.inl ⟨many, rfl, smM, fun rg nrg => ?_⟩
              have t8 := (Same.refl H3).upd (o := .rng 0 many) nrg
              refine Or.inr ⟨rg, 0, many, rfl, upd_same, smZ, smM, (by rw [sizeLine_eq]; omega), fun l9 n9 => ?_⟩
              have t9 := t8.upd (o := .lst ((rangeL 0 many).map V.int)) n9
              have e9 : awayL hs js many.toNat = rangeL 0 many := by
                have := away_all (hs := hs) (js := js) (n := many.toNat) fun x x0 x1 => ff_none go.m0 (by have := go.m1; omega) ef x x0 (by omega)
                rw [this, show ((many.toNat : Nat) : Int) = many by omega]
              rw [e9] at hL
              have lr := ints_lay (rangeL 0 many)
              have cl : PyData.canLay0 (.list ((rangeL 0 many).map PyData.int)) = true := lr.1
              refine Or.inr ⟨.list ((rangeL 0 many).map PyData.int), .list ((rangeL 0 many).map PyData.int), .lst (.of ((t3.trans t9) _ _ hL)) (isAll_ints _), .lst (.of upd_same) (isAll_ints _), cl, cl, (by rw [dep_lst']; have := lr.2; omega), ?_⟩
              rw [SeqAt.eqv_refl _ cl, nn]
              generalize upd (upd H3 rg (.rng 0 many)) l9 (.lst ((rangeL 0 many).map V.int)) = H4 at t9 ⊢
              walk_at "st"
              exact ⟨_, _, _, _, _, _, _, _, _, _, _, _, _, rfl, go2.same (t3.trans t9)⟩
            | some j =>
              intro H3 t sx nt ht sek3
              obtain ⟨hj, fj, fa⟩ := ff_some go.m0 (by have := go.m1; omega) ef
              simp only [List.set_cons_succ, List.set_cons_zero]
              have lst_ := sk.ls
              have lwt_ := sk.lw
              have lts_ := sk.lt
              have sp0 := spot_mod (s := st.getD j.toNat 0) pp.1 pp.2
              have step0 : 0 ≤ (draw / 8 % places - st.getD j.toNat 0) % places := Int.emod_nonneg _ (by omega)
              have step1 : (draw / 8 % places - st.getD j.toNat 0) % places < places := Int.emod_lt_of_pos _ (by omega)
              generalize (draw / 8 % places - st.getD j.toNat 0) % places = step at ht sek3 sp0 step0 step1
              have ap := go.ap
              simp only [List.nodup_cons, List.mem_cons, List.not_mem_nil, or_false, not_or, not_false_eq_true, List.nodup_nil, and_true] at ap
              obtain ⟨⟨a1, a2, a3, a4, a5, a6, a7, a8⟩, ⟨b2, b3, b4, b5, b6, b7, b8⟩, ⟨q3, q4, q5, q6, q7, q8⟩, ⟨d4, d5, d6, d7, d8⟩, ⟨f5, f6, f7, f8⟩, ⟨g6, g7, g8⟩, ⟨h7, h8⟩, i8⟩ := ap
              have hp2 := (u1.trans sm) _ _ hp
              have out : ∀ {b xs}, H2 b = some (.lst xs) → ra ≠ b → rc ≠ b → rs ≠ b → rw ≠ b → H3 b = some (.lst xs) := fun {b xs} e z1 z2 z3 z4 => sx b _ (by
                simp only [List.mem_cons, List.not_mem_nil, or_false, not_or]
                exact ⟨ne_of e hp2 (by intro z; cases z), z1.symm, z2.symm, z3.symm, z4.symm⟩) e
              have skK := sk.same u1
              have naw1 : ra ≠ aw ∧ rc ≠ aw ∧ rs ≠ aw ∧ rw ≠ aw := ⟨ne_of_none skK.ha naw, ne_of_none skK.hc naw, ne_of_none skK.hs_ naw, ne_of_none skK.hw naw⟩
              have naw2 : rb ≠ aw ∧ gl ≠ aw ∧ sp ≠ aw ∧ stp ≠ aw := ⟨ne_of_none skK.hb naw, ne_of_none (u1 _ _ go.g) naw, ne_of_none (u1 _ _ go.hsp) naw, ne_of_none (u1 _ _ go.hstp) naw⟩
              have hL3 := out hL naw1.1 naw1.2.1 naw1.2.2.1 naw1.2.2.2
              have g3 := out go2.g a5 q5 d5 f5
              have sp3 := out go2.hsp a6 q6 d6 f6
              have stp3 := out go2.hstp a7 q7 d7 f7
              have dl3 := out go2.hdl a8 q8 d8 f8
              have lay3 : LayG H3 gs := fun y my => by
                have l2 := go2.lay y my
                have aw2 := go2.aw y my
                simp only [List.mem_cons, List.not_mem_nil, or_false, not_or] at aw2
                have sk2 := go2.sek
                refine ⟨sx _ _ ?_ l2.1, out l2.2 (Ne.symm aw2.1) (Ne.symm aw2.2.2.1) (Ne.symm aw2.2.2.2.1) (Ne.symm aw2.2.2.2.2.1)⟩
                simp only [List.mem_cons, List.not_mem_nil, or_false, not_or]
                exact ⟨ne_of l2.1 hp2 (by intro z; cases z), ne_of l2.1 sk2.ha (by intro z; cases z), ne_of l2.1 sk2.hc (by intro z; cases z), ne_of l2.1 sk2.hs_ (by intro z; cases z), ne_of l2.1 sk2.hw (by intro z; cases z)⟩
              walk_at "st"
              refine Or.inr (Or.inl ⟨t, _, _, _, rfl, rfl, .of ht, rfl, ?_⟩)
              walk_at "st"
              refine Or.inr ⟨aw, _, rfl, .inl (.of hL3), rfl, flat_int _, ?_⟩
              rw [inV_int, decide_eq_false (fun z => by have := (away_mem.mp z).2; rw [fj] at this; cases this)]
              walk_at "st"
              refine Or.inr (Or.inl ⟨t, _, _, _, rfl, rfl, .of ht, rfl, ?_⟩)
              walk_at "st"
              refine ⟨.inl ⟨rfl, _, .of g3⟩, ?_⟩
              walk_at "st"
              refine ⟨(by show 2 ≤ sizeLine; decide), fun tt ntt => ?_⟩
              have t4 := (Same.refl H3).upd (o := .tup [.int j, .ref aw]) ntt
              have tt4 : (upd H3 tt (.tup [.int j, .ref aw])) tt = some (.tup [.int j, .ref aw]) := upd_same
              generalize upd H3 tt (.tup [.int j, .ref aw]) = H4 at t4 tt4 ⊢
              have lgs := go.lg
              walk_at "st"
              refine ⟨gl, _, _, rfl, rfl, t4 _ _ g3, (by rw [List.length_map, sizeLine_eq]; omega), ?_⟩
              rw [show gs.map gnV ++ [.ref tt] = (gs ++ [(tt, j, aw, awayL hs js many.toNat)]).map gnV by rw [List.map_append]; rfl]
              generalize hH5 : upd H4 gl (.lst ((gs ++ [(tt, j, aw, awayL hs js many.toNat)]).map gnV)) = H5
              have x5 : ∀ {b o}, b ≠ gl → H4 b = some o → H5 b = some o := fun h e => by rw [← hH5, upd_ne h]; exact e
              have e5 : H5 gl = some (.lst ((gs ++ [(tt, j, aw, awayL hs js many.toNat)]).map gnV)) := hH5 ▸ upd_same
              have tg : t ≠ gl := ne_of ht g3 (by intro z; cases z)
              walk_at "st"
              refine Or.inl ⟨stp, _, _, _, rfl, rfl, .of (x5 (Ne.symm g7) (t4 _ _ stp3)), atI_int hj.1 (by omega), ?_⟩
              walk_at "st"
              refine Or.inr (Or.inl ⟨t, _, _, _, rfl, rfl, .of (x5 tg (t4 _ _ ht)), rfl, ?_⟩)
              walk_at "st"
              refine ⟨stp, _, j, _, rfl, rfl, x5 (Ne.symm g7) (t4 _ _ stp3), ixN_in hj.1 (by rw [List.length_map]; omega), ?_⟩
              rw [show (wt.map V.int).set j.toNat (.int (wt.getD j.toNat 0 + step)) = (wt.set j.toNat (wt.getD j.toNat 0 + step)).map V.int from (List.map_set ..).symm]
              generalize hH6 : upd H5 stp (.lst ((wt.set j.toNat (wt.getD j.toNat 0 + step)).map V.int)) = H6
              have x6 : ∀ {b o}, b ≠ gl → b ≠ stp → H4 b = some o → H6 b = some o := fun h h' e => by rw [← hH6, upd_ne h']; exact x5 h e
              have e6 : H6 stp = some (.lst ((wt.set j.toNat (wt.getD j.toNat 0 + step)).map V.int)) := hH6 ▸ upd_same
              have e6g : H6 gl = some (.lst ((gs ++ [(tt, j, aw, awayL hs js many.toNat)]).map gnV)) := by rw [← hH6, upd_ne g7]; exact e5
              have ts_ : t ≠ stp := ne_of ht stp3 (by intro z; cases z)
              walk_at "st"
              refine Or.inl ⟨sp, _, _, _, rfl, rfl, .of (x6 (Ne.symm g6) h7 (t4 _ _ sp3)), atI_int hj.1 (by omega), ?_⟩
              walk_at "st"
              refine Or.inr (Or.inl ⟨t, _, _, _, rfl, rfl, .of (x6 tg ts_ (t4 _ _ ht)), rfl, ?_⟩)
              walk_at "st"
              refine ⟨sp, _, j, _, rfl, rfl, x6 (Ne.symm g6) h7 (t4 _ _ sp3), ixN_in hj.1 (by rw [List.length_map]; omega), ?_⟩
              dsimp only []
              rw [sp0]
              rw [show (st.map V.int).set j.toNat (.int (draw / 8 % places)) = (st.set j.toNat (draw / 8 % places)).map V.int from (List.map_set ..).symm]
              generalize hH7 : upd H6 sp (.lst ((st.set j.toNat (draw / 8 % places)).map V.int)) = H7
              have x7 : ∀ {b o}, b ≠ gl → b ≠ stp → b ≠ sp → H4 b = some o → H7 b = some o := fun h h' h'' e => by rw [← hH7, upd_ne h'']; exact x6 h h' e
              have e7 : H7 sp = some (.lst ((st.set j.toNat (draw / 8 % places)).map V.int)) := hH7 ▸ upd_same
              have e7g : H7 gl = some (.lst ((gs ++ [(tt, j, aw, awayL hs js many.toNat)]).map gnV)) := by rw [← hH7, upd_ne g6]; exact e6g
              have e7s : H7 stp = some (.lst ((wt.set j.toNat (wt.getD j.toNat 0 + step)).map V.int)) := by rw [← hH7, upd_ne (Ne.symm h7)]; exact e6
              have tp_ : t ≠ sp := ne_of ht sp3 (by intro z; cases z)
              have ht7 := x7 tg ts_ tp_ (t4 _ _ ht)
              have nmm : ((many.toNat : Nat) : Int) = many := by omega
              have hsn : (hs.length : Int) = many := by omega
              have lay7 : LayG H7 (gs ++ [(tt, j, aw, awayL hs js many.toNat)]) := fun y my => by
                rcases List.mem_append.mp my with m | m
                · have l3 := lay3 y m
                  have aw2 := go2.aw y m
                  simp only [List.mem_cons, List.not_mem_nil, or_false, not_or] at aw2
                  exact ⟨x7 (ne_of l3.1 g3 (by intro z; cases z)) (ne_of l3.1 stp3 (by intro z; cases z)) (ne_of l3.1 sp3 (by intro z; cases z)) (t4 _ _ l3.1), x7 aw2.2.2.2.2.2.1 aw2.2.2.2.2.2.2.2 aw2.2.2.2.2.2.2.1 (t4 _ _ l3.2)⟩
                · rw [List.mem_singleton.mp m]
                  exact ⟨x7 (ne_of tt4 (t4 _ _ g3) (by intro z; cases z)) (ne_of tt4 (t4 _ _ stp3) (by intro z; cases z)) (ne_of tt4 (t4 _ _ sp3) (by intro z; cases z)) tt4, x7 (Ne.symm naw2.2.1) (Ne.symm naw2.2.2.2) (Ne.symm naw2.2.2.1) (t4 _ _ hL3)⟩
              have s37 : ∀ {b xs}, H3 b = some (.lst xs) → b ≠ gl → b ≠ stp → b ≠ sp → H7 b = some (.lst xs) := fun e z1 z2 z3 => x7 z1 z2 z3 (t4 _ _ e)
              have sek7 : Sek K a H7 p a.Seekers ra rb rc rs rw (hs.set j.toNat (V.int (draw / 8 % places))) js (ts.set j.toNat (ts.getD j.toNat 0 + 1)) places ((j + 1) % hs.length) (st.set j.toNat (draw / 8 % places)) (wt.set j.toNat (wt.getD j.toNat 0 + step)) := by
                obtain ⟨dx3, hp3⟩ := sek3.ins
                refine ⟨⟨dx3, x7 (ne_of hp3 g3 (by intro z; cases z)) (ne_of hp3 stp3 (by intro z; cases z)) (ne_of hp3 sp3 (by intro z; cases z)) (t4 _ _ hp3)⟩, sek3.cs, s37 sek3.ha a5 a7 a6, s37 sek3.hb b5 b7 b6, s37 sek3.hc q5 q7 q6, s37 sek3.hs_ d5 d7 d6, s37 sek3.hw f5 f7 f6, sek3.ap, sek3.lj, sek3.lt, sek3.ls, sek3.lw, sek3.z⟩
              have mk : (j + 1) % (hs.length : Int) = nxt many j := by
                have h3 := nxt_or many j
                rw [hsn]
                rcases h3 with ⟨z1, z2⟩ | ⟨z1, z2⟩
                · rw [z2, z1]; exact Int.emod_self
                · rw [z2]; exact Int.emod_eq_of_lt (by omega) (by omega)
              have aL : ∀ x ∈ awayL hs js many.toNat, 0 ≤ x ∧ x < many := fun x hx => by
                have := (away_mem.mp hx).1
                rwa [nmm] at this
              have aA : ∀ x, 0 ≤ x → x < many → off many mark x < off many mark j → x ∈ awayL hs js many.toNat := fun x x0 x1 hx => by
                refine away_mem.mpr ⟨⟨x0, by omega⟩, fa x x0 (by omega) ?_⟩
                rw [hsn]; exact hx
              have cov := go.cov
              rw [nmm] at cov
              have mm : 0 ≤ mark ∧ mark < many := ⟨go.m0, by have := go.m1; omega⟩
              have jm : 0 ≤ j ∧ j < many := ⟨hj.1, by omega⟩
              have rev : ((gs ++ [(tt, j, aw, awayL hs js many.toNat)]).map gnP).reverse = (j, awayL hs js many.toNat) :: (gs.map gnP).reverse := by
                rw [List.map_append, List.reverse_append]; rfl
              have cov7 := cov_step cov mm jm aL aA
              have fair7 := fair_now cov mm jm aL aA
              have la7 : ∀ y ∈ gs ++ [(tt, j, aw, awayL hs js many.toNat)], y.2.2.2.length ≤ 12 := fun y my => by
                rcases List.mem_append.mp my with m | m
                · exact go.la y m
                · rw [List.mem_singleton.mp m]
                  have := away_len hs js many.toNat
                  show (awayL hs js many.toNat).length ≤ 12
                  omega
              have mk0 := nxt_or many j
              have go7 : Go K a H7 p ra rb rc rs rw gl sp stp dl (hs.set j.toNat (V.int (draw / 8 % places))) js (ts.set j.toNat (ts.getD j.toNat 0 + 1)) places (nxt many j) (st.set j.toNat (draw / 8 % places)) (wt.set j.toNat (wt.getD j.toNat 0 + step)) (gs ++ [(tt, j, aw, awayL hs js many.toNat)]) many.toNat (i + 1) drs := by
                refine ⟨mk ▸ sek7, e7g, lay7, e7, e7s, s37 dl3 (Ne.symm g8) (Ne.symm i8) (Ne.symm h8), go.ap, fun y my => ?_, by rw [List.length_set]; exact hn', by omega, by omega, fun v hv => ?_, ?_, ?_, by rw [List.length_append, List.length_singleton]; omega, la7⟩
                · rcases List.mem_append.mp my with m | m
                  · exact go.aw y m
                  · rw [List.mem_singleton.mp m]
                    simp only [List.mem_cons, List.not_mem_nil, or_false, not_or]
                    exact ⟨Ne.symm naw1.1, Ne.symm naw2.1, Ne.symm naw1.2.1, Ne.symm naw1.2.2.1, Ne.symm naw1.2.2.2, Ne.symm naw2.2.1, Ne.symm naw2.2.2.1, Ne.symm naw2.2.2.2⟩
                · rcases List.mem_or_eq_of_mem_set hv with m | e
                  · exact go.fl v m
                  · exact .inr ⟨_, e⟩
                · rw [rev, nmm]; exact cov7
                · have ht0 := go.hts
                  refine List.ext_getElem? fun m => ?_
                  rw [List.getElem?_set]
                  have jt : ((j.toNat : Nat) : Int) = j := by omega
                  rw [List.map_append]
                  have gD : ts.getD j.toNat 0 = wentN j (gs.map gnP) := by
                    rw [List.getD, ht0, List.getElem?_map, List.getElem?_range (by omega)]
                    show wentN ((j.toNat : Nat) : Int) _ = _
                    rw [jt]
                  by_cases hm : j.toNat = m
                  · rw [if_pos hm, if_pos (by omega), List.getElem?_map, ← hm, List.getElem?_range (by omega), gD]
                    show some _ = some (wentN ((j.toNat : Nat) : Int) (gs.map gnP ++ [(j, awayL hs js many.toNat)]))
                    rw [went_snoc, jt, if_pos rfl]
                  · rw [if_neg hm, ht0, List.getElem?_map, List.getElem?_map]
                    cases hr : (List.range many.toNat)[m]? with
                    | none => rfl
                    | some m' =>
                      have em : m' = m := by
                        obtain ⟨_, e⟩ := List.getElem?_eq_some_iff.mp hr
                        rw [List.getElem_range] at e; exact e.symm
                      show some _ = some (wentN (m' : Int) (gs.map gnP ++ [(j, awayL hs js many.toNat)]))
                      rw [went_snoc, if_neg (by show ¬ j = (m' : Int); omega), Int.add_zero]
              walk_at "st"
              refine Or.inr (Or.inl ⟨t, _, _, _, rfl, rfl, .of ht7, rfl, ?_⟩)
              walk_at "st"
              rw [decide_eq_false (by omega)]
              refine iteF ?_
              walk_at "st"
              refine Or.inr (Or.inl ⟨t, _, _, _, rfl, rfl, .of ht7, rfl, ?_⟩)
              walk_at "st"
              rw [decide_eq_false (by omega)]
              refine iteF ?_
              walk_at "st"
              refine Or.inl ⟨sp, _, _, _, rfl, rfl, .of e7, atI_int hj.1 (by rw [List.length_set]; omega), ?_⟩
              walk_at "st"
              have gs7 : (st.set j.toNat (draw / 8 % places)).getD j.toNat 0 = draw / 8 % places := by
                rw [List.getD, List.getElem?_set, if_pos rfl, if_pos (by omega)]; rfl
              rw [gs7, decide_eq_true rfl]
              refine iteF ?_
              walk_at "st"
              refine ⟨gl, j, many, _, rfl, e7g, lay7, (by rw [List.length_append, List.length_singleton]; omega), la7, by omega, by omega, (by rw [rev]; exact fair7), fun H8 t8 => ?_⟩
              walk_at "st"
              exact ⟨_, _, _, _, _, _, _, _, _, _, _, _, _, rfl, go7.same t8⟩
        rw [decide_eq_false c1]
        refine iteF ?_
        refine iteF ?_
        walk_at "st"
        by_cases c5 : draw % 8 < 6
        · rw [decide_eq_true c5]
          refine iteT ?_
          walk_at "st"
          refine Or.inl ⟨hl, _, _, _, rfl, rfl, .of hsH, ek, ?_⟩
          walk_at "st"
          by_cases hz : hk = .non
          · rw [decide_eq_true hz]
            refine iteF ?_
            walk_at "st"
            by_cases c6 : draw % 8 = 6
            · rw [decide_eq_true (congrArg V.int c6)]
              refine iteT ?_
              walk_at "st"
              refine ⟨p, dxp, fsp, rfl, (u1.trans sm) _ _ hp, F3.m _ (by decide), ?_⟩
              walk_at "st"
              refine ⟨p, _, a.Seekers, ra, rb, rc, hs, js, ts, rfl, R.same (u1.trans sm), ?_⟩
              rw [if_pos kin]
              walk_at "st"
              exact ⟨_, _, _, _, _, _, _, _, _, _, _, _, _, rfl, go2.setB (by rw [List.length_set])⟩
            rw [decide_eq_false (fun z => c6 (V.int.inj z))]
            refine iteF ?_
            walk_at "st"
            by_cases c7 : draw / 480 % 3 = 0
            · rw [decide_eq_true (congrArg V.int c7)]
              refine iteT ?_
              walk_at "st"
              refine ⟨p, dxp, fsp, rfl, (u1.trans sm) _ _ hp, F3.m _ (by decide), ?_⟩
              walk_at "st"
              refine ⟨p, _, a.Seekers, ra, rb, rc, hs, js, ts, rfl, R.same (u1.trans sm), ?_⟩
              rw [if_pos kin]
              walk_at "st"
              exact ⟨_, _, _, _, _, _, _, _, _, _, _, _, _, rfl, go2.setB (by rw [List.length_set])⟩
            rw [decide_eq_false (fun z => c7 (V.int.inj z))]
            refine iteF ?_
            exact ⟨_, _, _, _, _, _, _, _, _, _, _, _, _, rfl, go2⟩
          · rw [decide_eq_false hz]
            refine iteT ?_
            walk_at "st"
            refine ⟨p, dxp, fsp, rfl, (u1.trans sm) _ _ hp, F3.m _ (by decide), ?_⟩
            walk_at "st"
            refine ⟨p, _, a.Seekers, ra, rb, rc, hs, js, ts, rfl, R.same (u1.trans sm), ?_⟩
            rw [if_pos ⟨kin, by rw [gk]; exact hz⟩]
            walk_at "st"
            exact ⟨_, _, _, _, _, _, _, _, _, _, _, _, _, rfl, go2.setA (by rw [List.length_set]) flSet⟩
        rw [decide_eq_false c5]
        refine iteF ?_
        refine iteF ?_
        walk_at "st"
        by_cases c6 : draw % 8 = 6
        · rw [decide_eq_true (congrArg V.int c6)]
          refine iteT ?_
          walk_at "st"
          refine ⟨p, dxp, fsp, rfl, (u1.trans sm) _ _ hp, F3.m _ (by decide), ?_⟩
          walk_at "st"
          refine ⟨p, _, a.Seekers, ra, rb, rc, hs, js, ts, rfl, R.same (u1.trans sm), ?_⟩
          rw [if_pos kin]
          walk_at "st"
          exact ⟨_, _, _, _, _, _, _, _, _, _, _, _, _, rfl, go2.setB (by rw [List.length_set])⟩
        rw [decide_eq_false (fun z => c6 (V.int.inj z))]
        refine iteF ?_
        walk_at "st"
        by_cases c7 : draw / 480 % 3 = 0
        · rw [decide_eq_true (congrArg V.int c7)]
          refine iteT ?_
          walk_at "st"
          refine ⟨p, dxp, fsp, rfl, (u1.trans sm) _ _ hp, F3.m _ (by decide), ?_⟩
          walk_at "st"
          refine ⟨p, _, a.Seekers, ra, rb, rc, hs, js, ts, rfl, R.same (u1.trans sm), ?_⟩
          rw [if_pos kin]
          walk_at "st"
          exact ⟨_, _, _, _, _, _, _, _, _, _, _, _, _, rfl, go2.setB (by rw [List.length_set])⟩
        rw [decide_eq_false (fun z => c7 (V.int.inj z))]
        refine iteF ?_
        exact ⟨_, _, _, _, _, _, _, _, _, _, _, _, _, rfl, go2⟩
    · rintro σ H' ⟨x8, x9, x10, x11, x12, x13, hs, js, ts, mark, st, wt, gs, rfl, go⟩
      have sk := go.sek
      have R := sk.r
      have hn' := go.hn
      obtain ⟨dxp, hp⟩ := sk.ins
      have F3 := fs_sek ra rb rc places rs rw mark
      walk_at "st"
      refine ⟨by omega, by omega, fun D nD => ?_⟩
      refine comp_range (lo := 0) (n := many.toNat) (fun j σ H2 => ∃ x, σ = [x, some (.ref gl)] ∧ Same H' H2 ∧ H2 D = some (.lst (((List.range j).map fun (k : Nat) => wentN k (gs.map gnP)).map V.int))) ⟨none, rfl, (Same.refl H').upd nD, upd_same⟩ ?_ ?_
      · rintro j σ H2 hj ⟨x, rfl, sm, hL⟩
        simp only [Int.zero_add]
        walk_at "st"
        refine ⟨⟨_, .of (sm _ _ go.g)⟩, fun D2 nD2 => ?_⟩
        refine comp_list (K := K) (a := gl) (xs := gs.map gnV) (fun i σ H3 => ∃ x y, σ = [x, y, some (.int j)] ∧ Same H2 H3 ∧ H3 D2 = some (.lst (List.replicate ((gs.take i).filter fun t => decide (t.2.1 = (j : Int))).length (V.int 1)))) ⟨none, none, rfl, (Same.refl H2).upd nD2, upd_same⟩ (fun i σ H3 _ ⟨_, _, _, s3, _⟩ => .of (s3 _ _ (sm _ _ go.g))) ?_ ?_
        · rintro i y σ H3 hi ⟨x1, x2, rfl, sm3, hL3⟩
          have ilt : i < gs.length := by have := (List.getElem?_eq_some_iff.mp hi).1; rwa [List.length_map] at this
          have lg := go.lg
          rw [List.length_map, ldr] at lg
          rw [List.getElem?_map, List.getElem?_eq_getElem ilt] at hi
          cases hi
          have et : gs.take (i + 1) = gs.take i ++ [gs[i]] := by rw [List.take_add_one, List.getElem?_eq_getElem ilt]; rfl
          have ht := (sm.trans sm3) _ _ (go.lay _ (List.getElem_mem ilt)).1
          have fl := List.length_filter_le (fun t : Gn => decide (t.2.1 = (j : Int))) (gs.take i)
          rw [List.length_take] at fl
          walk_at "st"
          refine ⟨_, _, rfl, .of ht, rfl, ?_⟩
          walk_at "st"
          by_cases hw : gs[i].2.1 = (j : Int)
          · rw [decide_eq_true (congrArg V.int hw)]
            refine iteT ?_
            walk_at "st"
            refine ⟨_, hL3, (by rw [List.length_replicate, sizeLine_eq]; omega), _, _, rfl, sm3.updN nD2, ?_⟩
            rw [upd_same, et, List.filter_append, List.length_append]
            have e1 : (List.filter (fun t : Gn => decide (t.2.1 = (j : Int))) [gs[i]]).length = 1 := by rw [List.filter_cons, if_pos (decide_eq_true hw)]; rfl
            rw [e1, List.replicate_succ']
          · rw [decide_eq_false (fun z => hw (V.int.inj z))]
            refine iteF ?_
            refine ⟨_, _, rfl, sm3, ?_⟩
            rw [et, List.filter_append, List.length_append]
            have e1 : (List.filter (fun t : Gn => decide (t.2.1 = (j : Int))) [gs[i]]).length = 0 := by rw [List.filter_cons, if_neg (by simp [hw])]; rfl
            rw [e1]; exact hL3
        · rintro σ H3 ⟨x1, x2, rfl, sm3, hL3⟩
          rw [List.length_map, List.take_length] at hL3
          refine Or.inr ⟨_, _, rfl, .inl (.of hL3), ?_⟩
          rw [List.length_replicate]
          refine ⟨_, sm3 _ _ hL, (by rw [List.length_map, List.length_map, List.length_range, sizeLine_eq]; omega), _, rfl, (sm.trans sm3).updN nD, ?_⟩
          rw [upd_same, List.range_succ, List.map_append, List.map_append]
          have e1 : wentN (j : Int) (gs.map gnP) = (((gs.filter fun t => decide (t.2.1 = (j : Int))).length : Nat) : Int) := by
            unfold wentN
            rw [List.filter_map, List.length_map]; rfl
          rw [← e1]; rfl
      · rintro σ H2 ⟨x, rfl, sm, hL⟩
        rw [← go.hts] at hL
        walk_at "st"
        refine ⟨p, dxp, _, rfl, sm _ _ hp, F3.m _ (by decide), ?_⟩
        walk_at "st"
        refine ⟨p, a.Seekers, ra, rb, rc, hs, js, ts, rfl, R.same sm, fun l1' n1' => ?_⟩
        have v1 := (Same.refl H2).upd (o := .lst (ts.map V.int)) n1'
        have w1 : (upd H2 l1' (.lst (ts.map V.int))) l1' = some (.lst (ts.map V.int)) := upd_same
        generalize upd H2 l1' (.lst (ts.map V.int)) = G1 at v1 w1 ⊢
        walk_at "st"
        have lt := ints_lay ts
        have cl : PyData.canLay0 (.list (ts.map PyData.int)) = true := lt.1
        refine Or.inr ⟨.list (ts.map PyData.int), .list (ts.map PyData.int), .lst (.of w1) (isAll_ints ts), .lst (.of (v1 _ _ hL)) (isAll_ints ts), cl, cl, (by rw [dep_lst']; have := lt.2; omega), ?_⟩
        rw [SeqAt.eqv_refl _ cl]
        walk_at "st"
        refine ⟨p, dxp, _, rfl, (sm.trans v1) _ _ hp, rfl, ?_⟩
        walk_at "st"
        refine ⟨p, a.Seekers, ra, rb, rc, rs, rw, hs, js, ts, places, mark, st, wt, rfl, sk.same (sm.trans v1), fun l2' n2' => ?_⟩
        have v2 := (Same.refl G1).upd (o := .lst (wt.map V.int)) n2'
        have w2 : (upd G1 l2' (.lst (wt.map V.int))) l2' = some (.lst (wt.map V.int)) := upd_same
        generalize upd G1 l2' (.lst (wt.map V.int)) = G2 at v2 w2 ⊢
        walk_at "st"
        have lw := ints_lay wt
        have cw : PyData.canLay0 (.list (wt.map PyData.int)) = true := lw.1
        refine Or.inr ⟨.list (wt.map PyData.int), .list (wt.map PyData.int), .lst (.of w2) (isAll_ints wt), .lst (.of ((sm.trans (v1.trans v2)) _ _ go.hstp)) (isAll_ints wt), cw, cw, (by rw [dep_lst']; have := lw.2; omega), ?_⟩
        rw [SeqAt.eqv_refl _ cw]
        exact q _
end
end Lw
set_option Elab.async false
set_option linter.all false
set_option maxRecDepth 100000
set_option maxHeartbeats 4000000
namespace Lw
open PySem PySem.Spec PyProof.Rows L2
theorem all_mk {l : PySem.W.OpenLaw} {w : World} {K : PySem.W.Frag} {h : Heap} {mg : Str → Option Value} {fa : Addr} (X : K.In h) (G : h.Ns mainGlobals mg) (hfa : mg "law" = some (.ref fa))
    {f_within : Addr} {od_within an_within : Option Addr} {sl_within : Array (Option Value)} {oc_within kV_within dc_within pm_within cd_within ct_within : Value}
    {f_law_cell : Addr} {od_law_cell an_law_cell : Option Addr} {sl_law_cell : Array (Option Value)} {oc_law_cell kV_law_cell dc_law_cell pm_law_cell cd_law_cell ct_law_cell : Value}
    {f_law_draws : Addr} {od_law_draws an_law_draws : Option Addr} {sl_law_draws : Array (Option Value)} {oc_law_draws kV_law_draws dc_law_draws pm_law_draws cd_law_draws ct_law_draws : Value}
    {f_law_fair : Addr} {od_law_fair an_law_fair : Option Addr} {sl_law_fair : Array (Option Value)} {oc_law_fair kV_law_fair dc_law_fair pm_law_fair cd_law_fair ct_law_fair : Value}
    {f_law : Addr} {od_law an_law : Option Addr} {sl_law : Array (Option Value)} {oc_law kV_law dc_law pm_law cd_law ct_law : Value}
    {f_Mfirst_free : Addr} {od_Mfirst_free an_Mfirst_free : Option Addr} {sl_Mfirst_free : Array (Option Value)} {oc_Mfirst_free kV_Mfirst_free dc_Mfirst_free pm_Mfirst_free cd_Mfirst_free ct_Mfirst_free : Value}
    {f_Mhold : Addr} {od_Mhold an_Mhold : Option Addr} {sl_Mhold : Array (Option Value)} {oc_Mhold kV_Mhold dc_Mhold pm_Mhold cd_Mhold ct_Mhold : Value}
    {f_Mfree : Addr} {od_Mfree an_Mfree : Option Addr} {sl_Mfree : Array (Option Value)} {oc_Mfree kV_Mfree dc_Mfree pm_Mfree cd_Mfree ct_Mfree : Value}
    {f_Mstick : Addr} {od_Mstick an_Mstick : Option Addr} {sl_Mstick : Array (Option Value)} {oc_Mstick kV_Mstick dc_Mstick pm_Mstick cd_Mstick ct_Mstick : Value}
    {f_Mmend : Addr} {od_Mmend an_Mmend : Option Addr} {sl_Mmend : Array (Option Value)} {oc_Mmend kV_Mmend dc_Mmend pm_Mmend cd_Mmend ct_Mmend : Value}
    {f_Mcheck : Addr} {od_Mcheck an_Mcheck : Option Addr} {sl_Mcheck : Array (Option Value)} {oc_Mcheck kV_Mcheck dc_Mcheck pm_Mcheck cd_Mcheck ct_Mcheck : Value}
    {f_Mholders : Addr} {od_Mholders an_Mholders : Option Addr} {sl_Mholders : Array (Option Value)} {oc_Mholders kV_Mholders dc_Mholders pm_Mholders cd_Mholders ct_Mholders : Value}
    {f_Mstuck : Addr} {od_Mstuck an_Mstuck : Option Addr} {sl_Mstuck : Array (Option Value)} {oc_Mstuck kV_Mstuck dc_Mstuck pm_Mstuck cd_Mstuck ct_Mstuck : Value}
    {f_Mshares : Addr} {od_Mshares an_Mshares : Option Addr} {sl_Mshares : Array (Option Value)} {oc_Mshares kV_Mshares dc_Mshares pm_Mshares cd_Mshares ct_Mshares : Value}
    {f_M__init__ : Addr} {od_M__init__ an_M__init__ : Option Addr} {sl_M__init__ : Array (Option Value)} {oc_M__init__ kV_M__init__ dc_M__init__ pm_M__init__ cd_M__init__ ct_M__init__ : Value}
    {f_Mtake : Addr} {od_Mtake an_Mtake : Option Addr} {sl_Mtake : Array (Option Value)} {oc_Mtake kV_Mtake dc_Mtake pm_Mtake cd_Mtake ct_Mtake : Value}
    {f_Msteps : Addr} {od_Msteps an_Msteps : Option Addr} {sl_Msteps : Array (Option Value)} {oc_Msteps kV_Msteps dc_Msteps pm_Msteps cd_Msteps ct_Msteps : Value}
    {f_Sinit : Addr} {od_Sinit an_Sinit : Option Addr} {sl_Sinit : Array (Option Value)} {oc_Sinit kV_Sinit dc_Sinit pm_Sinit cd_Sinit ct_Sinit : Value}
    {a_HallError a_NoSwitch a_Seekers a_Switches : Addr} 
    (g_HallError : PySem.W.nsIn K mainGlobals "HallError" = some (some (.ref a_HallError))) (g_NoSwitch : PySem.W.nsIn K mainGlobals "NoSwitch" = some (some (.ref a_NoSwitch))) (g_Seekers : PySem.W.nsIn K mainGlobals "Seekers" = some (some (.ref a_Seekers))) (g_Switches : PySem.W.nsIn K mainGlobals "Switches" = some (some (.ref a_Switches)))
    (a_within : PySem.W.nsIn K mainGlobals "within" = some (some (.ref f_within))) (l_within : K.lookup f_within = some ⟨oc_within, od_within, .func (PySem.W.fnOf "within" "within" (defArgs (top 2)) (defBody (top 2)) (defScope (top 2)) .none kV_within dc_within pm_within an_within cd_within ct_within), sl_within⟩) (c_within : PySem.W.codeIn K cd_within "within" = true) (k_within : PySem.W.keepIn K (.ref f_within) = true)
    (a_law_cell : PySem.W.nsIn K mainGlobals "_law_cell" = some (some (.ref f_law_cell))) (l_law_cell : K.lookup f_law_cell = some ⟨oc_law_cell, od_law_cell, .func (PySem.W.fnOf "_law_cell" "_law_cell" (defArgs (top 11)) (defBody (top 11)) (defScope (top 11)) .none kV_law_cell dc_law_cell pm_law_cell an_law_cell cd_law_cell ct_law_cell), sl_law_cell⟩) (c_law_cell : PySem.W.codeIn K cd_law_cell "_law_cell" = true) (k_law_cell : PySem.W.keepIn K (.ref f_law_cell) = true)
    (a_law_draws : PySem.W.nsIn K mainGlobals "_law_draws" = some (some (.ref f_law_draws))) (l_law_draws : K.lookup f_law_draws = some ⟨oc_law_draws, od_law_draws, .func (PySem.W.fnOf "_law_draws" "_law_draws" (defArgs (top 12)) (defBody (top 12)) (defScope (top 12)) .none kV_law_draws dc_law_draws pm_law_draws an_law_draws cd_law_draws ct_law_draws), sl_law_draws⟩) (c_law_draws : PySem.W.codeIn K cd_law_draws "_law_draws" = true) (k_law_draws : PySem.W.keepIn K (.ref f_law_draws) = true)
    (a_law_fair : PySem.W.nsIn K mainGlobals "_law_fair" = some (some (.ref f_law_fair))) (l_law_fair : K.lookup f_law_fair = some ⟨oc_law_fair, od_law_fair, .func (PySem.W.fnOf "_law_fair" "_law_fair" (defArgs (top 13)) (defBody (top 13)) (defScope (top 13)) .none kV_law_fair dc_law_fair pm_law_fair an_law_fair cd_law_fair ct_law_fair), sl_law_fair⟩) (c_law_fair : PySem.W.codeIn K cd_law_fair "_law_fair" = true) (k_law_fair : PySem.W.keepIn K (.ref f_law_fair) = true)
    (a_law : PySem.W.nsIn K mainGlobals "law" = some (some (.ref f_law))) (l_law : K.lookup f_law = some ⟨oc_law, od_law, .func (PySem.W.fnOf "law" "law" (defArgs (top 14)) (defBody (top 14)) (defScope (top 14)) .none kV_law dc_law pm_law an_law cd_law ct_law), sl_law⟩) (c_law : PySem.W.codeIn K cd_law "law" = true) (k_law : PySem.W.keepIn K (.ref f_law) = true)
    (a_Mfirst_free : PySem.W.findIn K (.ref a_Seekers) "first_free" = some (some (.ref f_Mfirst_free))) (i_Mfirst_free : PySem.W.isFn K (.ref f_Mfirst_free) = true) (l_Mfirst_free : K.lookup f_Mfirst_free = some ⟨oc_Mfirst_free, od_Mfirst_free, .func (PySem.W.fnOf "first_free" "Switches.first_free" (defArgs (inClass (top 7) 1)) (defBody (inClass (top 7) 1)) (defScope (inClass (top 7) 1)) .none kV_Mfirst_free dc_Mfirst_free pm_Mfirst_free an_Mfirst_free cd_Mfirst_free ct_Mfirst_free), sl_Mfirst_free⟩) (c_Mfirst_free : PySem.W.codeIn K cd_Mfirst_free "Switches.first_free" = true) (k_Mfirst_free : PySem.W.keepIn K (.ref f_Mfirst_free) = true)
    (a_Mhold : PySem.W.findIn K (.ref a_Seekers) "hold" = some (some (.ref f_Mhold))) (i_Mhold : PySem.W.isFn K (.ref f_Mhold) = true) (l_Mhold : K.lookup f_Mhold = some ⟨oc_Mhold, od_Mhold, .func (PySem.W.fnOf "hold" "Switches.hold" (defArgs (inClass (top 7) 2)) (defBody (inClass (top 7) 2)) (defScope (inClass (top 7) 2)) .none kV_Mhold dc_Mhold pm_Mhold an_Mhold cd_Mhold ct_Mhold), sl_Mhold⟩) (c_Mhold : PySem.W.codeIn K cd_Mhold "Switches.hold" = true) (k_Mhold : PySem.W.keepIn K (.ref f_Mhold) = true)
    (a_Mfree : PySem.W.findIn K (.ref a_Seekers) "free" = some (some (.ref f_Mfree))) (i_Mfree : PySem.W.isFn K (.ref f_Mfree) = true) (l_Mfree : K.lookup f_Mfree = some ⟨oc_Mfree, od_Mfree, .func (PySem.W.fnOf "free" "Switches.free" (defArgs (inClass (top 7) 3)) (defBody (inClass (top 7) 3)) (defScope (inClass (top 7) 3)) .none kV_Mfree dc_Mfree pm_Mfree an_Mfree cd_Mfree ct_Mfree), sl_Mfree⟩) (c_Mfree : PySem.W.codeIn K cd_Mfree "Switches.free" = true) (k_Mfree : PySem.W.keepIn K (.ref f_Mfree) = true)
    (a_Mstick : PySem.W.findIn K (.ref a_Seekers) "stick" = some (some (.ref f_Mstick))) (i_Mstick : PySem.W.isFn K (.ref f_Mstick) = true) (l_Mstick : K.lookup f_Mstick = some ⟨oc_Mstick, od_Mstick, .func (PySem.W.fnOf "stick" "Switches.stick" (defArgs (inClass (top 7) 4)) (defBody (inClass (top 7) 4)) (defScope (inClass (top 7) 4)) .none kV_Mstick dc_Mstick pm_Mstick an_Mstick cd_Mstick ct_Mstick), sl_Mstick⟩) (c_Mstick : PySem.W.codeIn K cd_Mstick "Switches.stick" = true) (k_Mstick : PySem.W.keepIn K (.ref f_Mstick) = true)
    (a_Mmend : PySem.W.findIn K (.ref a_Seekers) "mend" = some (some (.ref f_Mmend))) (i_Mmend : PySem.W.isFn K (.ref f_Mmend) = true) (l_Mmend : K.lookup f_Mmend = some ⟨oc_Mmend, od_Mmend, .func (PySem.W.fnOf "mend" "Switches.mend" (defArgs (inClass (top 7) 5)) (defBody (inClass (top 7) 5)) (defScope (inClass (top 7) 5)) .none kV_Mmend dc_Mmend pm_Mmend an_Mmend cd_Mmend ct_Mmend), sl_Mmend⟩) (c_Mmend : PySem.W.codeIn K cd_Mmend "Switches.mend" = true) (k_Mmend : PySem.W.keepIn K (.ref f_Mmend) = true)
    (a_Mcheck : PySem.W.findIn K (.ref a_Seekers) "check" = some (some (.ref f_Mcheck))) (i_Mcheck : PySem.W.isFn K (.ref f_Mcheck) = true) (l_Mcheck : K.lookup f_Mcheck = some ⟨oc_Mcheck, od_Mcheck, .func (PySem.W.fnOf "check" "Switches.check" (defArgs (inClass (top 7) 6)) (defBody (inClass (top 7) 6)) (defScope (inClass (top 7) 6)) .none kV_Mcheck dc_Mcheck pm_Mcheck an_Mcheck cd_Mcheck ct_Mcheck), sl_Mcheck⟩) (c_Mcheck : PySem.W.codeIn K cd_Mcheck "Switches.check" = true) (k_Mcheck : PySem.W.keepIn K (.ref f_Mcheck) = true)
    (a_Mholders : PySem.W.findIn K (.ref a_Seekers) "holders" = some (some (.ref f_Mholders))) (i_Mholders : PySem.W.isFn K (.ref f_Mholders) = true) (l_Mholders : K.lookup f_Mholders = some ⟨oc_Mholders, od_Mholders, .func (PySem.W.fnOf "holders" "Switches.holders" (defArgs (inClass (top 7) 7)) (defBody (inClass (top 7) 7)) (defScope (inClass (top 7) 7)) .none kV_Mholders dc_Mholders pm_Mholders an_Mholders cd_Mholders ct_Mholders), sl_Mholders⟩) (c_Mholders : PySem.W.codeIn K cd_Mholders "Switches.holders" = true) (k_Mholders : PySem.W.keepIn K (.ref f_Mholders) = true)
    (a_Mstuck : PySem.W.findIn K (.ref a_Seekers) "stuck" = some (some (.ref f_Mstuck))) (i_Mstuck : PySem.W.isFn K (.ref f_Mstuck) = true) (l_Mstuck : K.lookup f_Mstuck = some ⟨oc_Mstuck, od_Mstuck, .func (PySem.W.fnOf "stuck" "Switches.stuck" (defArgs (inClass (top 7) 8)) (defBody (inClass (top 7) 8)) (defScope (inClass (top 7) 8)) .none kV_Mstuck dc_Mstuck pm_Mstuck an_Mstuck cd_Mstuck ct_Mstuck), sl_Mstuck⟩) (c_Mstuck : PySem.W.codeIn K cd_Mstuck "Switches.stuck" = true) (k_Mstuck : PySem.W.keepIn K (.ref f_Mstuck) = true)
    (a_Mshares : PySem.W.findIn K (.ref a_Seekers) "shares" = some (some (.ref f_Mshares))) (i_Mshares : PySem.W.isFn K (.ref f_Mshares) = true) (l_Mshares : K.lookup f_Mshares = some ⟨oc_Mshares, od_Mshares, .func (PySem.W.fnOf "shares" "Switches.shares" (defArgs (inClass (top 7) 9)) (defBody (inClass (top 7) 9)) (defScope (inClass (top 7) 9)) .none kV_Mshares dc_Mshares pm_Mshares an_Mshares cd_Mshares ct_Mshares), sl_Mshares⟩) (c_Mshares : PySem.W.codeIn K cd_Mshares "Switches.shares" = true) (k_Mshares : PySem.W.keepIn K (.ref f_Mshares) = true)
    (a_M__init__ : PySem.W.findIn K (.ref a_Seekers) "__init__" = some (some (.ref f_M__init__))) (i_M__init__ : PySem.W.isFn K (.ref f_M__init__) = true) (l_M__init__ : K.lookup f_M__init__ = some ⟨oc_M__init__, od_M__init__, .func (PySem.W.fnOf "__init__" "Seekers.__init__" (defArgs (inClass (top 9) 0)) (defBody (inClass (top 9) 0)) (defScope (inClass (top 9) 0)) .none kV_M__init__ dc_M__init__ pm_M__init__ an_M__init__ cd_M__init__ ct_M__init__), sl_M__init__⟩) (c_M__init__ : PySem.W.codeIn K cd_M__init__ "Seekers.__init__" = true) (k_M__init__ : PySem.W.keepIn K (.ref f_M__init__) = true)
    (a_Mtake : PySem.W.findIn K (.ref a_Seekers) "take" = some (some (.ref f_Mtake))) (i_Mtake : PySem.W.isFn K (.ref f_Mtake) = true) (l_Mtake : K.lookup f_Mtake = some ⟨oc_Mtake, od_Mtake, .func (PySem.W.fnOf "take" "Seekers.take" (defArgs (inClass (top 9) 1)) (defBody (inClass (top 9) 1)) (defScope (inClass (top 9) 1)) .none kV_Mtake dc_Mtake pm_Mtake an_Mtake cd_Mtake ct_Mtake), sl_Mtake⟩) (c_Mtake : PySem.W.codeIn K cd_Mtake "Seekers.take" = true) (k_Mtake : PySem.W.keepIn K (.ref f_Mtake) = true)
    (a_Msteps : PySem.W.findIn K (.ref a_Seekers) "steps" = some (some (.ref f_Msteps))) (i_Msteps : PySem.W.isFn K (.ref f_Msteps) = true) (l_Msteps : K.lookup f_Msteps = some ⟨oc_Msteps, od_Msteps, .func (PySem.W.fnOf "steps" "Seekers.steps" (defArgs (inClass (top 9) 3)) (defBody (inClass (top 9) 3)) (defScope (inClass (top 9) 3)) .none kV_Msteps dc_Msteps pm_Msteps an_Msteps cd_Msteps ct_Msteps), sl_Msteps⟩) (c_Msteps : PySem.W.codeIn K cd_Msteps "Seekers.steps" = true) (k_Msteps : PySem.W.keepIn K (.ref f_Msteps) = true)
    (rdS : PySem.W.readsIn K a_Switches (.type "type") = true) (spS : PySem.W.specialIn K (.ref a_Switches) "__getattribute__" = some (some (.builtin "type.__getattribute__"))) (fdS : PySem.W.findCls K (.ref a_Switches) (.type "type") "__init__" = some (.val (.ref f_Sinit))) (tyS : PySem.W.typeIn K (.ref f_Sinit) = some (.type "function"))
    (a_Sinit : PySem.W.findIn K (.ref a_Switches) "__init__" = some (some (.ref f_Sinit))) (i_Sinit : PySem.W.isFn K (.ref f_Sinit) = true) (l_Sinit : K.lookup f_Sinit = some ⟨oc_Sinit, od_Sinit, .func (PySem.W.fnOf "__init__" "Switches.__init__" (defArgs (inClass (top 7) 0)) (defBody (inClass (top 7) 0)) (defScope (inClass (top 7) 0)) .none kV_Sinit dc_Sinit pm_Sinit an_Sinit cd_Sinit ct_Sinit), sl_Sinit⟩) (c_Sinit : PySem.W.codeIn K cd_Sinit "Switches.__init__" = true) (k_Sinit : PySem.W.keepIn K (.ref f_Sinit) = true)
    (pg : PySem.W.plainGet K a_Seekers Str.empty = true) (hd : PySem.W.hasDictIn K a_Seekers = true) (po : PySem.W.plainOver K a_Seekers = true) (sa : PySem.W.findIn K (.ref a_Seekers) "__setattr__" = some (some (.builtin "object.__setattr__"))) (mk : PySem.W.makesIn K a_Seekers = true) (kc : PySem.W.keepIn K (.ref a_Seekers) = true)
    (nH : PySem.W.findIn K (.ref a_Seekers) "held_by" = some none) (nJ : PySem.W.findIn K (.ref a_Seekers) "jammed" = some none) (nT : PySem.W.findIn K (.ref a_Seekers) "taken" = some none) (nP : PySem.W.findIn K (.ref a_Seekers) "places" = some none) (nS : PySem.W.findIn K (.ref a_Seekers) "stands" = some none) (nW : PySem.W.findIn K (.ref a_Seekers) "went" = some none) (nM : PySem.W.findIn K (.ref a_Seekers) "mark_at" = some none)
    (xN : PySem.W.excIn K a_NoSwitch [.type "ValueError", .type "Exception", .type "BaseException", .type "object"] "ValueError.__new__" = true)
    (z_len : PySem.W.nsIn K mainGlobals "len" = some none) (z_isinstance : PySem.W.nsIn K mainGlobals "isinstance" = some none) (z_bool : PySem.W.nsIn K mainGlobals "bool" = some none) (z_int : PySem.W.nsIn K mainGlobals "int" = some none) (z_range : PySem.W.nsIn K mainGlobals "range" = some none) (z_list : PySem.W.nsIn K mainGlobals "list" = some none) (z_enumerate : PySem.W.nsIn K mainGlobals "enumerate" = some none) (z_tuple : PySem.W.nsIn K mainGlobals "tuple" = some none) (z_sorted : PySem.W.nsIn K mainGlobals "sorted" = some none) (z_set : PySem.W.nsIn K mainGlobals "set" = some none) :
    ∃ fd : FuncData, (∀ (s : Shared) (v : Value), BindsTo s fd ⟨[v], []⟩ [("script", v)]) ∧ ∀ base : Heap, K.In base → base.Ns mainGlobals mg → FnOk l.prog w K mg base CX0 6 fa fd ["script"] (spLaw K) := by
  have e := hfa.symm.trans (PySem.W.mg_of X G a_law)
  cases e
  have T : TxtF K mg ⟨a_HallError, a_NoSwitch, a_Seekers, a_Switches⟩ :=
    ⟨⟨⟨⟨PySem.W.mg_none_of X G z_len, PySem.W.mg_none_of X G z_isinstance, PySem.W.mg_none_of X G z_bool, PySem.W.mg_none_of X G z_int, PySem.W.mg_none_of X G z_range⟩, PySem.W.mg_none_of X G z_list, PySem.W.mg_none_of X G z_enumerate, PySem.W.mg_none_of X G z_tuple, PySem.W.mg_of X G g_NoSwitch, xN⟩, PySem.W.mg_of X G g_Switches⟩, PySem.W.mg_none_of X G z_sorted, PySem.W.mg_none_of X G z_set⟩
  have cS : SkC K ⟨a_HallError, a_NoSwitch, a_Seekers, a_Switches⟩ a_Seekers := ⟨⟨List.mem_singleton.mpr rfl, ⟨pg, hd, po, sa⟩, nH, nJ, nT⟩, nP, nS, nW, nM⟩
  have F_within := fun_mk (st := (top 2)) l_within c_within k_within
  have b_within := F_within.binds (ps := ["number", "least", "most"]) fun _ _ _ _ _ _ us hl => match us, hl with | [_, _, _], _ => rfl
  have m_within := PySem.W.mg_of X G a_within
  have F_law_cell := fun_mk (st := (top 11)) l_law_cell c_law_cell k_law_cell
  have b_law_cell := F_law_cell.binds (ps := ["script", "k"]) fun _ _ _ _ _ _ us hl => match us, hl with | [_, _], _ => rfl
  have m_law_cell := PySem.W.mg_of X G a_law_cell
  have F_law_draws := fun_mk (st := (top 12)) l_law_draws c_law_draws k_law_draws
  have b_law_draws := F_law_draws.binds (ps := ["script", "k", "many", "base"]) fun _ _ _ _ _ _ us hl => match us, hl with | [_, _, _, _], _ => rfl
  have m_law_draws := PySem.W.mg_of X G a_law_draws
  have F_law_fair := fun_mk (st := (top 13)) l_law_fair c_law_fair k_law_fair
  have b_law_fair := F_law_fair.binds (ps := ["gone", "k", "many"]) fun _ _ _ _ _ _ us hl => match us, hl with | [_, _, _], _ => rfl
  have m_law_fair := PySem.W.mg_of X G a_law_fair
  have F_law := fun_mk (st := (top 14)) l_law c_law k_law
  have b_law := F_law.binds (ps := ["script"]) fun _ _ _ _ _ _ us hl => match us, hl with | [_], _ => rfl
  have m_law := PySem.W.mg_of X G a_law
  have F_Mfirst_free := fun_mk (st := (inClass (top 7) 1)) l_Mfirst_free c_Mfirst_free k_Mfirst_free
  have b_Mfirst_free := F_Mfirst_free.binds (ps := ["self", "start"]) fun _ _ _ _ _ _ us hl => match us, hl with | [_, _], _ => rfl
  have F_Mhold := fun_mk (st := (inClass (top 7) 2)) l_Mhold c_Mhold k_Mhold
  have b_Mhold := F_Mhold.binds (ps := ["self", "k", "who"]) fun _ _ _ _ _ _ us hl => match us, hl with | [_, _, _], _ => rfl
  have F_Mfree := fun_mk (st := (inClass (top 7) 3)) l_Mfree c_Mfree k_Mfree
  have b_Mfree := F_Mfree.binds (ps := ["self", "k"]) fun _ _ _ _ _ _ us hl => match us, hl with | [_, _], _ => rfl
  have F_Mstick := fun_mk (st := (inClass (top 7) 4)) l_Mstick c_Mstick k_Mstick
  have b_Mstick := F_Mstick.binds (ps := ["self", "k"]) fun _ _ _ _ _ _ us hl => match us, hl with | [_, _], _ => rfl
  have F_Mmend := fun_mk (st := (inClass (top 7) 5)) l_Mmend c_Mmend k_Mmend
  have b_Mmend := F_Mmend.binds (ps := ["self", "k"]) fun _ _ _ _ _ _ us hl => match us, hl with | [_, _], _ => rfl
  have F_Mcheck := fun_mk (st := (inClass (top 7) 6)) l_Mcheck c_Mcheck k_Mcheck
  have b_Mcheck := F_Mcheck.binds (ps := ["self", "k"]) fun _ _ _ _ _ _ us hl => match us, hl with | [_, _], _ => rfl
  have F_Mholders := fun_mk (st := (inClass (top 7) 7)) l_Mholders c_Mholders k_Mholders
  have b_Mholders := F_Mholders.binds (ps := ["self"]) fun _ _ _ _ _ _ us hl => match us, hl with | [_], _ => rfl
  have F_Mstuck := fun_mk (st := (inClass (top 7) 8)) l_Mstuck c_Mstuck k_Mstuck
  have b_Mstuck := F_Mstuck.binds (ps := ["self"]) fun _ _ _ _ _ _ us hl => match us, hl with | [_], _ => rfl
  have F_Mshares := fun_mk (st := (inClass (top 7) 9)) l_Mshares c_Mshares k_Mshares
  have b_Mshares := F_Mshares.binds (ps := ["self"]) fun _ _ _ _ _ _ us hl => match us, hl with | [_], _ => rfl
  have F_M__init__ := fun_mk (st := (inClass (top 9) 0)) l_M__init__ c_M__init__ k_M__init__
  have b_M__init__ := F_M__init__.binds (ps := ["self", "many", "places"]) fun _ _ _ _ _ _ us hl => match us, hl with | [_, _, _], _ => rfl
  have F_Mtake := fun_mk (st := (inClass (top 9) 1)) l_Mtake c_Mtake k_Mtake
  have b_Mtake := F_Mtake.binds (ps := ["self", "place"]) fun _ _ _ _ _ _ us hl => match us, hl with | [_, _], _ => rfl
  have F_Msteps := fun_mk (st := (inClass (top 9) 3)) l_Msteps c_Msteps k_Msteps
  have b_Msteps := F_Msteps.binds (ps := ["self"]) fun _ _ _ _ _ _ us hl => match us, hl with | [_], _ => rfl
  have F_Sinit := fun_mk (st := (inClass (top 7) 0)) l_Sinit c_Sinit k_Sinit
  have b_Sinit := F_Sinit.binds (ps := ["self", "many"]) fun _ _ _ _ _ _ us hl => match us, hl with | [_, _], _ => rfl
  refine ⟨PySem.W.fnOf "law" "law" (defArgs (top 14)) (defBody (top 14)) (defScope (top 14)) .none kV_law dc_law pm_law an_law cd_law ct_law, fun s v => .of_eq rfl, fun base _ _ => ?_⟩
  have D_within : FnIn l.prog w K mg base CX0 1 "within" ["number", "least", "most"] spWithin := ⟨_, _, m_within, k_within, b_within, ok_within F_within T.toTxt⟩
  have D_law_cell : FnIn l.prog w K mg base CX0 1 "_law_cell" ["script", "k"] (spCell K) := ⟨_, _, m_law_cell, k_law_cell, b_law_cell, ok_cell F_law_cell T.toTxt⟩
  have D_law_draws : FnIn l.prog w K mg base CX0 2 "_law_draws" ["script", "k", "many", "base"] (spDraws K) := ⟨_, _, m_law_draws, k_law_draws, b_law_draws, ok_draws F_law_draws T.toTxt D_law_cell⟩
  have DD_check : ∀ C ∈ Adr.racks ⟨a_HallError, a_NoSwitch, a_Seekers, a_Switches⟩, MthIn l.prog w K mg base (CXE l.prog w) 2 C "check" ["self", "k"] (spCheck K ⟨a_HallError, a_NoSwitch, a_Seekers, a_Switches⟩) := fun C hC => by
    have e := List.mem_singleton.mp hC
    subst e
    exact ⟨_, _, ⟨a_Mcheck, i_Mcheck, k_Mcheck⟩, b_Mcheck, ok_check F_Mcheck T.toTxtS D_within⟩
  have DD_free : ∀ C ∈ Adr.racks ⟨a_HallError, a_NoSwitch, a_Seekers, a_Switches⟩, MthIn l.prog w K mg base (CXE l.prog w) 3 C "free" ["self", "k"] (spFree K ⟨a_HallError, a_NoSwitch, a_Seekers, a_Switches⟩) := fun C hC => by
    have e := List.mem_singleton.mp hC
    subst e
    exact ⟨_, _, ⟨a_Mfree, i_Mfree, k_Mfree⟩, b_Mfree, ok_free F_Mfree T.toTxtS DD_check⟩
  have DD_stick : ∀ C ∈ Adr.racks ⟨a_HallError, a_NoSwitch, a_Seekers, a_Switches⟩, MthIn l.prog w K mg base (CXE l.prog w) 3 C "stick" ["self", "k"] (spJam K ⟨a_HallError, a_NoSwitch, a_Seekers, a_Switches⟩ true) := fun C hC => by
    have e := List.mem_singleton.mp hC
    subst e
    exact ⟨_, _, ⟨a_Mstick, i_Mstick, k_Mstick⟩, b_Mstick, ok_stick F_Mstick T.toTxtS DD_check⟩
  have DD_mend : ∀ C ∈ Adr.racks ⟨a_HallError, a_NoSwitch, a_Seekers, a_Switches⟩, MthIn l.prog w K mg base (CXE l.prog w) 3 C "mend" ["self", "k"] (spJam K ⟨a_HallError, a_NoSwitch, a_Seekers, a_Switches⟩ false) := fun C hC => by
    have e := List.mem_singleton.mp hC
    subst e
    exact ⟨_, _, ⟨a_Mmend, i_Mmend, k_Mmend⟩, b_Mmend, ok_mend F_Mmend T.toTxtS DD_check⟩
  have DD_holders : ∀ C ∈ Adr.racks ⟨a_HallError, a_NoSwitch, a_Seekers, a_Switches⟩, MthIn l.prog w K mg base CX0 1 C "holders" ["self"] (spHolders K ⟨a_HallError, a_NoSwitch, a_Seekers, a_Switches⟩) := fun C hC => by
    have e := List.mem_singleton.mp hC
    subst e
    exact ⟨_, _, ⟨a_Mholders, i_Mholders, k_Mholders⟩, b_Mholders, ok_holders F_Mholders T.toTxtS⟩
  have DD_shares : ∀ C ∈ Adr.racks ⟨a_HallError, a_NoSwitch, a_Seekers, a_Switches⟩, MthIn l.prog w K mg base CX0 1 C "shares" ["self"] (spShares K ⟨a_HallError, a_NoSwitch, a_Seekers, a_Switches⟩) := fun C hC => by
    have e := List.mem_singleton.mp hC
    subst e
    exact ⟨_, _, ⟨a_Mshares, i_Mshares, k_Mshares⟩, b_Mshares, ok_shares F_Mshares T.toTxtS⟩
  have DD_stuck : ∀ C ∈ Adr.racks ⟨a_HallError, a_NoSwitch, a_Seekers, a_Switches⟩, MthIn l.prog w K mg base CX0 1 C "stuck" ["self"] (spStuck K ⟨a_HallError, a_NoSwitch, a_Seekers, a_Switches⟩) := fun C hC => by
    have e := List.mem_singleton.mp hC
    subst e
    exact ⟨_, _, ⟨a_Mstuck, i_Mstuck, k_Mstuck⟩, b_Mstuck, ok_stuck F_Mstuck T.toTxtS⟩
  have DD_hold : ∀ C ∈ Adr.racks ⟨a_HallError, a_NoSwitch, a_Seekers, a_Switches⟩, MthIn l.prog w K mg base CX0 1 C "hold" ["self", "k", "who"] (spHold K ⟨a_HallError, a_NoSwitch, a_Seekers, a_Switches⟩) := fun C hC => by
    have e := List.mem_singleton.mp hC
    subst e
    exact ⟨_, _, ⟨a_Mhold, i_Mhold, k_Mhold⟩, b_Mhold, ok_hold F_Mhold T.toTxtS⟩
  have DD_first_free : ∀ C ∈ Adr.racks ⟨a_HallError, a_NoSwitch, a_Seekers, a_Switches⟩, MthIn l.prog w K mg base CX0 1 C "first_free" ["self", "start"] (spFirst K ⟨a_HallError, a_NoSwitch, a_Seekers, a_Switches⟩) := fun C hC => by
    have e := List.mem_singleton.mp hC
    subst e
    exact ⟨_, _, ⟨a_Mfirst_free, i_Mfirst_free, k_Mfirst_free⟩, b_Mfirst_free, ok_first F_Mfirst_free T.toTxtS⟩
  have DD_take : ∀ C ∈ Adr.racks ⟨a_HallError, a_NoSwitch, a_Seekers, a_Switches⟩, MthIn l.prog w K mg base CX0 2 C "take" ["self", "place"] (spTakeS K ⟨a_HallError, a_NoSwitch, a_Seekers, a_Switches⟩) := fun C hC => by
    have e := List.mem_singleton.mp hC
    subst e
    exact ⟨_, _, ⟨a_Mtake, i_Mtake, k_Mtake⟩, b_Mtake, ok_takeS F_Mtake T.toTxtK DD_first_free DD_hold⟩
  have DD_steps : ∀ C ∈ Adr.racks ⟨a_HallError, a_NoSwitch, a_Seekers, a_Switches⟩, MthIn l.prog w K mg base CX0 1 C "steps" ["self"] (spSteps K ⟨a_HallError, a_NoSwitch, a_Seekers, a_Switches⟩) := fun C hC => by
    have e := List.mem_singleton.mp hC
    subst e
    exact ⟨_, _, ⟨a_Msteps, i_Msteps, k_Msteps⟩, b_Msteps, ok_steps F_Msteps T.toTxtK⟩
  have D_law_fair : FnIn l.prog w K mg base CX0 1 "_law_fair" ["gone", "k", "many"] spFair := ⟨_, _, m_law_fair, k_law_fair, b_law_fair, ok_fair F_law_fair T⟩
  have MG : MkIn l.prog w K mg base CX0 2 a_Seekers "Seekers" ["self", "many", "places"] (spInitS K ⟨a_HallError, a_NoSwitch, a_Seekers, a_Switches⟩) := ⟨_, _, PySem.W.mg_of X G g_Seekers, ⟨mk, a_M__init__, i_M__init__, kc⟩, b_M__init__, ok_initS F_M__init__ T.toTxtK ⟨rdS, spS, fdS, tyS, k_Sinit⟩ (ok_init F_Sinit T.toTxtS) b_Sinit⟩
  exact ok_law F_law T D_law_draws MG cS D_law_fair DD_holders DD_stuck DD_take DD_free DD_stick DD_mend DD_shares DD_steps
theorem walk {l : PySem.W.OpenLaw} {q : Program} {loose : List Str} {XP : (Str → Option Value) → Heap → Prop} {YP : World → Heap → Prop} {d : DefRec} {K : Params → PySem.W.Frag} (hn : l.most = some 63) (hdf : d.params.defaults = [])
    (hY : ∀ (w : World) (h : Heap), YP w h → (K w.params).In h)
    (F : ∀ (w : World) (mg : Str → Option Value) (fa : Addr) (h : Heap), (K w.params).In h → h.Ns mainGlobals mg → mg d.name = some (.ref fa) →
      ∃ fd : FuncData, (∀ (s : Shared) (u : Value), BindsTo s fd ⟨[u], []⟩ [("script", u)]) ∧ ∀ base : Heap, (K w.params).In base → base.Ns mainGlobals mg → FnOk l.prog w (K w.params) mg base CX0 6 fa fd ["script"] (spLaw (K w.params))) :
    PySem.W.WalkO q loose XP YP l.row.toRowW d [] (fun f vs => PySem.call f vs) :=
  L2.walk_of (n := 63) (k := 6) (x := "script") (CX := fun _ => CX0) (sp := fun w => spLaw (K w.params)) hn (by decide) hdf ⟨rfl, by decide, by decide⟩ hY F (fun _ _ a ns hl _ hS => ⟨a, ns, rfl, hS, hl, fun _ => rfl⟩) fun _ _ _ _ _ z => z
end Lw
open PySem PySem.W PyProof.Rows
set_option maxRecDepth 100000 in
set_option maxHeartbeats 0 in
theorem PySem.Challenge.cw_stephall_k06_whole_seekers_go_round_holds : PySem.Challenge.rw_stephall_k06_whole_seekers_go_round.Holds := by
  w_on; o_law; k_head; (case hw => w_witness2)
  k_fill
  refine Lw.walk (l := PySem.Challenge.rw_stephall_k06_whole_seekers_go_round) rfl rfl (fun w h Y => PySem.W.kIn_of Y) ?F
  case F =>
    intro w mg fa h KX G hmg
    refine' Lw.all_mk KX G hmg ?g_HallError ?g_NoSwitch ?g_Seekers ?g_Switches ?a_within ?l_within ?c_within ?k_within ?a_law_cell ?l_law_cell ?c_law_cell ?k_law_cell ?a_law_draws ?l_law_draws ?c_law_draws ?k_law_draws ?a_law_fair ?l_law_fair ?c_law_fair ?k_law_fair ?a_law ?l_law ?c_law ?k_law ?a_Mfirst_free ?i_Mfirst_free ?l_Mfirst_free ?c_Mfirst_free ?k_Mfirst_free ?a_Mhold ?i_Mhold ?l_Mhold ?c_Mhold ?k_Mhold ?a_Mfree ?i_Mfree ?l_Mfree ?c_Mfree ?k_Mfree ?a_Mstick ?i_Mstick ?l_Mstick ?c_Mstick ?k_Mstick ?a_Mmend ?i_Mmend ?l_Mmend ?c_Mmend ?k_Mmend ?a_Mcheck ?i_Mcheck ?l_Mcheck ?c_Mcheck ?k_Mcheck ?a_Mholders ?i_Mholders ?l_Mholders ?c_Mholders ?k_Mholders ?a_Mstuck ?i_Mstuck ?l_Mstuck ?c_Mstuck ?k_Mstuck ?a_Mshares ?i_Mshares ?l_Mshares ?c_Mshares ?k_Mshares ?a_M__init__ ?i_M__init__ ?l_M__init__ ?c_M__init__ ?k_M__init__ ?a_Mtake ?i_Mtake ?l_Mtake ?c_Mtake ?k_Mtake ?a_Msteps ?i_Msteps ?l_Msteps ?c_Msteps ?k_Msteps ?rdS ?spS ?fdS ?tyS ?a_Sinit ?i_Sinit ?l_Sinit ?c_Sinit ?k_Sinit ?pg ?hd ?po ?sa ?mk ?kc ?nH ?nJ ?nT ?nP ?nS ?nW ?nM ?xN ?z_len ?z_isinstance ?z_bool ?z_int ?z_range ?z_list ?z_enumerate ?z_tuple ?z_sorted ?z_set
    (case g_HallError => k_is)
    (case g_NoSwitch => k_is)
    (case g_Seekers => k_is)
    (case g_Switches => k_is)
    (case a_within => k_is)
    (case l_within => k_is)
    (case c_within => k_is)
    (case k_within => k_is)
    (case a_law_cell => k_is)
    (case l_law_cell => k_is)
    (case c_law_cell => k_is)
    (case k_law_cell => k_is)
    (case a_law_draws => k_is)
    (case l_law_draws => k_is)
    (case c_law_draws => k_is)
    (case k_law_draws => k_is)
    (case a_law_fair => k_is)
    (case l_law_fair => k_is)
    (case c_law_fair => k_is)
    (case k_law_fair => k_is)
    (case a_law => k_is)
    (case l_law => k_is)
    (case c_law => k_is)
    (case k_law => k_is)
    (case a_Mfirst_free => k_is)
    (case i_Mfirst_free => k_is)
    (case l_Mfirst_free => k_is)
    (case c_Mfirst_free => k_is)
    (case k_Mfirst_free => k_is)
    (case a_Mhold => k_is)
    (case i_Mhold => k_is)
    (case l_Mhold => k_is)
    (case c_Mhold => k_is)
    (case k_Mhold => k_is)
    (case a_Mfree => k_is)
    (case i_Mfree => k_is)
    (case l_Mfree => k_is)
    (case c_Mfree => k_is)
    (case k_Mfree => k_is)
    (case a_Mstick => k_is)
    (case i_Mstick => k_is)
    (case l_Mstick => k_is)
    (case c_Mstick => k_is)
    (case k_Mstick => k_is)
    (case a_Mmend => k_is)
    (case i_Mmend => k_is)
    (case l_Mmend => k_is)
    (case c_Mmend => k_is)
    (case k_Mmend => k_is)
    (case a_Mcheck => k_is)
    (case i_Mcheck => k_is)
    (case l_Mcheck => k_is)
    (case c_Mcheck => k_is)
    (case k_Mcheck => k_is)
    (case a_Mholders => k_is)
    (case i_Mholders => k_is)
    (case l_Mholders => k_is)
    (case c_Mholders => k_is)
    (case k_Mholders => k_is)
    (case a_Mstuck => k_is)
    (case i_Mstuck => k_is)
    (case l_Mstuck => k_is)
    (case c_Mstuck => k_is)
    (case k_Mstuck => k_is)
    (case a_Mshares => k_is)
    (case i_Mshares => k_is)
    (case l_Mshares => k_is)
    (case c_Mshares => k_is)
    (case k_Mshares => k_is)
    (case a_M__init__ => k_is)
    (case i_M__init__ => k_is)
    (case l_M__init__ => k_is)
    (case c_M__init__ => k_is)
    (case k_M__init__ => k_is)
    (case a_Mtake => k_is)
    (case i_Mtake => k_is)
    (case l_Mtake => k_is)
    (case c_Mtake => k_is)
    (case k_Mtake => k_is)
    (case a_Msteps => k_is)
    (case i_Msteps => k_is)
    (case l_Msteps => k_is)
    (case c_Msteps => k_is)
    (case k_Msteps => k_is)
    (case rdS => k_is)
    (case spS => k_is)
    (case fdS => k_is)
    (case tyS => k_is)
    (case a_Sinit => k_is)
    (case i_Sinit => k_is)
    (case l_Sinit => k_is)
    (case c_Sinit => k_is)
    (case k_Sinit => k_is)
    (case pg => k_is)
    (case hd => k_is)
    (case po => k_is)
    (case sa => k_is)
    (case mk => k_is)
    (case kc => k_is)
    (case nH => k_is)
    (case nJ => k_is)
    (case nT => k_is)
    (case nP => k_is)
    (case nS => k_is)
    (case nW => k_is)
    (case nM => k_is)
    (case xN => k_exc)
    (case z_len => k_is)
    (case z_isinstance => k_is)
    (case z_bool => k_is)
    (case z_int => k_is)
    (case z_range => k_is)
    (case z_list => k_is)
    (case z_enumerate => k_is)
    (case z_tuple => k_is)
    (case z_sorted => k_is)
    (case z_set => k_is)
