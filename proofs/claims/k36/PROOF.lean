import PyProof.Rows.All
import Wide.All
import OpenK.AllK
import Wide.FinOn
import Lean
import PyProof.EqAt
import PyProof.EqKinds
import PyProof.TupleCall
import PyProof.NeData
import PyProof.P3In
import PyProof.SliceStr2
import PyProof.StrLaws
import PyProof.WalksEnum
import PyProof.EnumMake
import PyProof.ListRange
import PyProof.Rows.StrInSeq3
import PyProof.Rows.SortWalk
import PyProof.Rows.SortStr
import PyProof.ConsumeWalk
import KE.KSortTup
import PyProof.Rows.SetFrom
import PyProof.CollectWalk
import PyProof.AutoListH
import PyProof.DictCompW
import PyProof.DictWalks
import PyProof.Rows.StrNews
import PyProof.Rows.StrWeight2
import PyProof.StrLawsChain
import PyProof.TupleIter
import PyProof.WalksMore
import KE.KDictList
import PyProof.StrLawsRepr
import PySem.Challenge.RW_stephall_k36_whole_all_stuck_and_mended
set_option Elab.async false
set_option linter.all false
set_option maxRecDepth 100000
namespace L2
open PySem PySem.Spec PyProof.Rows
abbrev Key:=Sum Int Str
def Ah6:Key→Value→Bool
 | .inl k,v=>Value.isInt k v
 | .inr x,v=>Value.isStrOf x v
def Arx (w:World):Key→Int
 | .inl k=>hashInt k
 | .inr x=>hashStr w x
theorem AbP:∀ {k:Key} {v:Value},Ah6 k v=true→(∃ i t,k=Sum.inl i∧v=Value.int i t)∨(∃ x t,k=Sum.inr x∧v=Value.str x t)
 | .inl i,v,h=>by
  obtain ⟨t,e⟩:=Value.isInt_shape (k:=i) (v:=v) h
  exact .inl ⟨i,t,rfl,e⟩
 | .inr x,v,h=>by
  obtain ⟨t,e⟩:=Value.isStrOf_shape (x:=x) (v:=v) h
  exact .inr ⟨x,t,rfl,e⟩
theorem AlO (i:Int) (t:Tok):Ah6 (.inl i) (.int i t)=true:=by simp [Ah6,Value.isInt]
theorem Ai8 (x:Str) (t:Tok):Ah6 (.inr x) (.str x t)=true:=by simp [Ah6,Value.isStrOf]
theorem ApS (a b:Int):decide ((Sum.inl a:Key)=Sum.inl b)=(a == b):=by
 by_cases e:a=b
 ·subst e; simp
 ·have h:¬ (Sum.inl a:Key)=Sum.inl b:=fun q=>e (Sum.inl.inj q)
  rw [decide_eq_false h]
  exact (beq_eq_false_iff_ne.mpr e).symm
theorem ApT (a b:Str):decide ((Sum.inr a:Key)=Sum.inr b)=decide (a=b):=by
 by_cases e:a=b
 ·subst e; simp
 ·have h:¬ (Sum.inr a:Key)=Sum.inr b:=fun q=>e (Sum.inr.inj q)
  rw [decide_eq_false h,decide_eq_false e]
theorem ApU (a:Int) (b:Str):decide ((Sum.inl a:Key)=Sum.inr b)=false:=decide_eq_false (fun q=>nomatch q)
theorem ApV (a:Str) (b:Int):decide ((Sum.inr a:Key)=Sum.inl b)=false:=decide_eq_false (fun q=>nomatch q)
def AaH (prog:Program) (w:World):PySem.KeyKind prog w Key where
 is:=Ah6
 hash:=Arx w
 inj:=fun v a b ha hb=>by
  rcases AbP ha with ⟨i,t,rfl,rfl⟩ | ⟨x,t,rfl,rfl⟩
  ·rcases AbP hb with ⟨j,u,rfl,e⟩ | ⟨y,u,rfl,e⟩
   ·injection e with e1 _; rw [e1]
   ·exact nomatch e
  ·rcases AbP hb with ⟨j,u,rfl,e⟩ | ⟨y,u,rfl,e⟩
   ·exact nomatch e
   ·injection e with e1 _; rw [e1]
 byValue:=fun k v h=>by
  rcases AbP h with ⟨i,t,rfl,rfl⟩ | ⟨x,t,rfl,rfl⟩ <;> rfl
 pyHash:=fun hv h=>by
  rcases AbP hv with ⟨i,t,rfl,rfl⟩ | ⟨x,t,rfl,rfl⟩
  ·exact wpAny_pyHash_int h
  ·exact wpAny_pyHash_str h
 eqBool:=fun hu hv h=>by
  rcases AbP hu with ⟨i,t,rfl,rfl⟩ | ⟨x,t,rfl,rfl⟩
  ·rcases AbP hv with ⟨j,u,rfl,rfl⟩ | ⟨y,u,rfl,rfl⟩
   ·rw [ApS] at h; exact wpAny_eqBool_int h
   ·rw [ApU] at h; exact SeqAt.EqAt.int_str i t y u _ _ _ _ h
  ·rcases AbP hv with ⟨j,u,rfl,rfl⟩ | ⟨y,u,rfl,rfl⟩
   ·rw [ApV] at h; exact SeqAt.EqAt.str_int x t j u _ _ _ _ h
   ·rw [ApT] at h; exact wpAny_eqBool_str h
 «strs»:=fun k x t v h=>by
  rcases AbP h with ⟨i,u,rfl,e⟩ | ⟨y,u,rfl,e⟩
  ·exact nomatch e
  ·injection e with e1 _
   subst e1
   cases v <;> rfl
theorem Ale (prog:Program) (w:World) (k:Key) (v:Value):(AaH prog w).is k v=Ah6 k v:=rfl
theorem AjU (prog:Program) (w:World) (i:Int) (t:Tok):(AaH prog w).is (.inl i) (.int i t)=true:=AlO i t
theorem Ac1 (prog:Program) (w:World) (x:Str) (t:Tok):(AaH prog w).is (.inr x) (.str x t)=true:=Ai8 x t
end L2
namespace L2
open PySem PySem.Spec PyProof.Rows
inductive V where
 | non | bl (b:Bool) | int (i:Int) | str (x:Str) | byt (b:Array UInt8) | flt (b:UInt64) | ref (a:Addr) | ty (n:String)
 deriving DecidableEq
def AbQ:V→Value→Prop
 | .non,u=>u=Value.none
 | .bl b,u=>u=Value.bool b
 | .int i,u=>∃ t,u=Value.int i t
 | .str x,u=>∃ t,u=Value.str x t
 | .byt b,u=>∃ t,u=Value.bytes b t
 | .flt b,u=>∃ t,u=Value.float b t
 | .ref a,u=>u=Value.ref a
 | .ty n,u=>u=Value.type n
abbrev Aba:List V→List Value→Prop:=Paired AbQ
theorem Aba.length {xs:List V} {us:List Value} (r:Aba xs us):xs.length=us.length:=Paired.length r
theorem Aba.get:∀ {xs:List V} {us:List Value} {i:Nat} {x:V},Aba xs us→xs[i]?=some x→∃ u,us[i]?=some u∧AbQ x u
 | _,_,_,_,.nil,e=>by simp at e
 | _,_,0,_,.cons r _,e=>by simp at e; subst e; exact ⟨_,rfl,r⟩
 | _,_,i + 1,x,.cons _ t,e=>by
  obtain ⟨u,h1,h2⟩:=Aba.get (i:=i) (x:=x) t (by simpa using e)
  exact ⟨u,by simpa using h1,h2⟩
theorem Aba.set {x:V} {u:Value} (r:AbQ x u):∀ {xs:List V} {us:List Value} (i:Nat),Aba xs us→Aba (xs.set i x) (us.set i u)
 | _,_,_,.nil=>.nil
 | _,_,0,.cons _ t=>.cons r t
 | _,_,i + 1,.cons q t=>.cons q (Aba.set r i t)
theorem Aba.append:∀ {xs ys:List V} {us ws:List Value},Aba xs us→Aba ys ws→Aba (xs++ys) (us++ws)
 | _,_,_,_,.nil,s=>s
 | _,_,_,_,.cons r t,s=>.cons r (Aba.append t s)
theorem Aba.take:∀ {xs:List V} {us:List Value} (n:Nat),Aba xs us→Aba (xs.take n) (us.take n)
 | _,_,0,_=>.nil
 | _,_,_ + 1,.nil=>.nil
 | _,_,n + 1,.cons r t=>.cons r (Aba.take n t)
theorem Aba.drop:∀ {xs:List V} {us:List Value} (n:Nat),Aba xs us→Aba (xs.drop n) (us.drop n)
 | _,_,0,r=>r
 | _,_,_ + 1,.nil=>.nil
 | _,_,n + 1,.cons _ t=>Aba.drop n t
def Ai9:Option V→Option Value→Prop
 | some v,some u=>AbQ v u
 | none,none=>True
 | _,_=>False
def KV {κ:Type}:List (κ×V)→List (κ×Value)→Prop:=Paired fun (p:κ×V) (q:κ×Value)=>p.1=q.1∧AbQ p.2 q.2
def kV:Key→V
 | .inl i=>.int i
 | .inr x=>.str x
inductive HO where
 | lst (xs:List V)
 | tup (xs:List V)
 | dK (kvs:List (Key×V)) | dT (kvs:List (List Key×V))
 | set (S:Int→Bool) (n:Nat)
 | ins (C dx:Addr) (fs:List (Str×V))
 | own (x:Addr)
 | xd (fs:List (Str×V))
 | met (f x:Addr)
 | rng (lo hi:Int)
 | frz (o:Obj) (u:HO)
 | tbl (ps:Array Value)
 | ext (φ:Heap→Prop)
abbrev Hp:=Addr→Option HO
def upd (H:Hp) (a:Addr) (o:HO):Hp:=fun b=>if b=a then some o else H b
theorem Aad {H:Hp} {a:Addr} {o:HO}:upd H a o a=some o:=by unfold upd; rw [if_pos rfl]
theorem Aah {H:Hp} {a b:Addr} {o:HO} (h:b≠a):upd H a o b=H b:=by unfold upd; rw [if_neg h]
theorem Ahn {H:Hp} {a:Addr} {o u:HO}:upd (upd H a o) a u=upd H a u:=by
 funext b; unfold upd; split <;> rfl
theorem AaI {H:Hp} {a b:Addr} {o u:HO} (h:H a=some o) (h':H b=some u) (d:o≠u):a≠b:=by
 intro e; subst e; rw [h] at h'; exact d (Option.some.inj h')
theorem Aaj {H:Hp} {a b:Addr} {o:HO} (h:H a=some o) (h':H b=none):a≠b:=by
 intro e; subst e; rw [h] at h'; cases h'
section
variable (P:Program) (w:World)
def AbR (H:Hp) (h:Heap) (a:Addr):HO→Prop
 | .lst xs=>xs.length≤sizeLine∧∃ (its:List Value) (n:Nat),Aba xs its∧h.get? a=some { cls:=.type "list",data:=.seq its.toArray n }
 | .tup xs=>xs.length≤sizeLine∧∃ its:List Value,Aba xs its∧IsTup h a its.toArray
 | .dK kvs=>kvs.length≤sizeLine∧(a == sysModules)=false∧∃ vs,KV kvs vs∧h.DictOf (AaH P w) a vs
 | .dT kvs=>kvs.length≤sizeLine∧(a == sysModules)=false∧∃ xs:List (List Key×Addr×Value),
   Paired (fun (p:List Key×V) (q:List Key×Addr×Value)=>p.1=q.1∧H q.2.1=some (.tup (p.1.map kV))∧AbQ p.2 q.2.2) kvs xs ∧
   ∃ o es ep,h.get? a=some o∧o.ExactDict∧o.data=.dict es ep∧es.toList=xs.map (entryOfKey (tupleKind (AaH P w)))∧(xs.map (·.1)).Nodup
 | .set S n=>h.SetOf (intKind P w) a S n
 | .ins C dx fs=>H dx=some (.own a)∧fs.length≤1000∧dx≠a∧h.get? a=some (PySem.W.instObj C dx) ∧
   ∃ mA,h.Ns1 dx mA∧(∀ f,Ai9 (fs.lookup f) (mA f))∧PySem.Within mA (fs.map (·.1))
 | .own _=>∃ o,h.get? a=some o
 | .xd fs=>∃ mA,h.Ns1 a mA∧∀ f,Ai9 (fs.lookup f) (mA f)
 | .rng lo hi=>∃ t u v,h.get? a=some { cls:=.type "range",data:=.fields #[.int lo t,.int hi u,.int 1 v] }
 | .frz o u=>h.get? a=some o∧AbR H h a u
 | .tbl ps=>h.get? a=some { cls:=.none,data:=.fields ps }
 | .met f x=>h.get? a=some (PySem.W.methodObj (.ref f) (.ref x))
 | .ext φ=>φ h∧(∃ o,h.get? a=some o)∧∀ h1 h2:Heap,φ h1→(∀ o,h1.get? a=some o→h2.get? a=some o)→φ h2
def HOk (H:Hp) (h:Heap):Prop:=∀ a o,H a=some o→AbR P w H h a o
end
section
variable {P:Program} {w:World} {H H':Hp} {h h':Heap} {a:Addr} {o:HO}
theorem AbR.lt (x:AbR P w H h a o):a < h.objs.size:=by
 cases o with
 | lst xs=>obtain ⟨_,_,_,_,e⟩:=x; exact Heap.lt_size e
 | tup xs=>obtain ⟨_,_,_,p⟩:=x; exact p.lt
 | dK kvs=>obtain ⟨_,_,_,_,o,_,_,e,_⟩:=x; exact Heap.lt_size e
 | dT kvs=>obtain ⟨_,_,_,_,o,_,_,e,_⟩:=x; exact Heap.lt_size e
 | set S n=>obtain ⟨o,_,_,_,e,_⟩:=x; exact Heap.lt_size e
 | ins C dx fs=>obtain ⟨_,_,_,e,_⟩:=x; exact Heap.lt_size e
 | own y=>obtain ⟨_,e⟩:=x; exact Heap.lt_size e
 | xd fs=>obtain ⟨_,⟨_,_,_,e,_⟩,_⟩:=x; exact Heap.lt_size e
 | rng lo hi=>obtain ⟨_,_,_,e⟩:=x; exact Heap.lt_size e
 | frz ob u=>obtain ⟨e,_⟩:=x; exact Heap.lt_size e
 | tbl ps=>exact Heap.lt_size (show h.get? a=some _ from x)
 | met f y=>exact Heap.lt_size (show h.get? a=some _ from x)
 | ext φ=>obtain ⟨_,⟨_,e⟩,_⟩:=x; exact Heap.lt_size e
theorem Paired.mapP {α β:Type} {F G:α→β→Prop}:∀ {l₁:List α} {l₂:List β},Paired F l₁ l₂→(∀ a b,F a b→G a b)→Paired G l₁ l₂
 | _,_,.nil,_=>.nil
 | _,_,.cons r t,f=>.cons (f _ _ r) (Paired.mapP t f)
theorem AbR.stay (x:AbR P w H h a o) (k:∀ b u,(b=a∨H b=some (.own a))→h.get? b=some u→h'.get? b=some u)
  (ho:∀ b,H b=some (.own a)→H' b=some (.own a)) (ht:∀ b xs,H b=some (.tup xs)→H' b=some (.tup xs)):AbR P w H' h' a o:=by
 induction o with
 | lst xs=>obtain ⟨z,its,n,r,e⟩:=x; exact ⟨z,its,n,r,k _ _ (.inl rfl) e⟩
 | tup xs=>obtain ⟨z,its,r,ob,e,c⟩:=x; exact ⟨z,its,r,ob,k _ _ (.inl rfl) e,c⟩
 | dK kvs=>obtain ⟨z,y,vs,r,ob,es,ep,e,c⟩:=x; exact ⟨z,y,vs,r,ob,es,ep,k _ _ (.inl rfl) e,c⟩
 | dT kvs =>
  obtain ⟨z,y,xs,r,ob,es,ep,e,c⟩:=x
  exact ⟨z,y,xs,Paired.mapP r fun p q z=>⟨z.1,ht _ _ z.2.1,z.2.2⟩,ob,es,ep,k _ _ (.inl rfl) e,c⟩
 | set S n=>obtain ⟨ob,es,ep,t,e,c⟩:=x; exact ⟨ob,es,ep,t,k _ _ (.inl rfl) e,c⟩
 | ins C dx fs =>
  obtain ⟨d,z,ne,e,mA,⟨od,es,ep,e2,c⟩,r⟩:=x
  exact ⟨ho _ d,z,ne,k _ _ (.inl rfl) e,mA,⟨od,es,ep,k _ _ (.inr d) e2,c⟩,r⟩
 | own y=>obtain ⟨ob,e⟩:=x; exact ⟨ob,k _ _ (.inl rfl) e⟩
 | xd fs=>obtain ⟨mA,⟨od,es,ep,e,c⟩,r⟩:=x; exact ⟨mA,⟨od,es,ep,k _ _ (.inl rfl) e,c⟩,r⟩
 | rng lo hi=>obtain ⟨t,u,v,e⟩:=x; exact ⟨t,u,v,k _ _ (.inl rfl) e⟩
 | frz ob u ih=>obtain ⟨e,q⟩:=x; exact ⟨k _ _ (.inl rfl) e,ih q⟩
 | tbl ps =>
  have e:h.get? a=some { cls:=.none,data:=.fields ps }:=x
  show h'.get? a=some { cls:=.none,data:=.fields ps }
  exact k a _ (.inl rfl) e
 | met f y =>
  have e:h.get? a=some (PySem.W.methodObj (.ref f) (.ref y)):=x
  show h'.get? a=some (PySem.W.methodObj (.ref f) (.ref y))
  exact k a _ (.inl rfl) e
 | ext φ=>obtain ⟨p,⟨o,e⟩,st⟩:=x; exact ⟨st _ _ p fun o q=>k _ _ (.inl rfl) q,⟨o,k _ _ (.inl rfl) e⟩,st⟩
theorem HOk.lt (x:HOk P w H h) (e:H a=some o):a < h.objs.size:=(x a o e).lt
theorem HOk.fresh (x:HOk P w H h) (e:h.objs.size≤a):H a=none:=by
 cases q:H a with
 | none=>rfl
 | some u=>exact absurd (Nat.lt_of_lt_of_le (x.lt q) e) (Nat.lt_irrefl _)
theorem HOk.kept (x:HOk P w H h) (k:∀ b u,h.get? b=some u→h'.get? b=some u):HOk P w H h':=fun a o e =>
 (x a o e).stay (fun b u _ q=>k b u q) (fun _ q=>q) fun _ _ q=>q
theorem HOk.laid (x:HOk P w H h) (k:∀ b u,h.get? b=some u→h'.get? b=some u) (hp:h.objs.size≤a) (new:AbR P w (upd H a o) h' a o):HOk P w (upd H a o) h':=fun b u e=>by
 have hn:=x.fresh hp
 by_cases hb:b=a
 ·subst hb; rw [Aad] at e; cases e; exact new
 ·rw [Aah hb] at e
  exact (x b u e).stay (fun c v _ q=>k c v q) (fun c q=>by rw [Aah (Aaj q hn)]; exact q) fun c xs q=>by rw [Aah (Aaj q hn)]; exact q
end
def Rd (H:Hp) (a:Addr) (u:HO):Prop:=H a=some u∨∃ o,H a=some (.frz o u)
theorem Rd.ok {P:Program} {w:World} {H:Hp} {h:Heap} {a:Addr} {u:HO} (r:Rd H a u) (x:HOk P w H h):AbR P w H h a u:=by
 rcases r with r | ⟨o,r⟩
 ·exact x a u r
 ·obtain ⟨_,q⟩:=x a _ r
  exact q
def Mut:Option HO→Prop
 | some (.lst _)=>True
 | some (.dK _)=>True
 | some (.dT _)=>True
 | some (.set _ _)=>True
 | some (.ins _ _ _)=>True
 | some (.ext _)=>True
 | _=>False
section
variable {P:Program} {w:World} {H:Hp} {h h':Heap} {x e:Addr} {o':HO}
theorem HOk.write (ok:HOk P w H h) (mu:Mut (H x)) (he:e=x∨H e=some (.own x)) (k:∀ b u,b≠e→h.get? b=some u→h'.get? b=some u) (heo:∃ u,h'.get? e=some u)
  (new:AbR P w (upd H x o') h' x o'):HOk P w (upd H x o') h':=fun b u q=>by
 have nown:∀ c y,H c=some (.own y)→c≠x:=fun c y r z=>by subst z; rw [r] at mu; exact mu
 have ntup:∀ c xs,H c=some (.tup xs)→c≠x:=fun c xs r z=>by subst z; rw [r] at mu; exact mu
 by_cases hb:b=x
 ·subst hb; rw [Aad] at q; cases q; exact new
 ·rw [Aah hb] at q
  by_cases hbe:b=e
  ·have q':H b=some (.own x):=by
    rcases he with z | z
    ·exact absurd (hbe.trans z) hb
    ·rw [hbe]; exact z
   rw [q] at q'; cases q'
   obtain ⟨v,hv⟩:=heo
   exact ⟨v,by rw [hbe]; exact hv⟩
  ·refine (ok b u q).stay (fun c v hc r=>k c v ?_ r) (fun c r=>by rw [Aah (nown c b r)]; exact r) fun c xs r=>by rw [Aah (ntup c xs r)]; exact r
   rcases hc with rfl | hc
   ·exact hbe
   ·rintro rfl
    rcases he with z | z
    ·exact nown c b hc z
    ·rw [hc] at z; cases z; exact hb rfl
end
structure Un (fs ex:List Addr) (H H':Hp) (h h':Heap):Prop where
 keep:∀ b o,h.get? b=some o→H b=none→b ∉ fs→b ∉ ex→h'.get? b=some o
 slot:∀ b o,h.get? b=some o→H b=none→b∈fs→b ∉ ex→∃ sl,h'.get? b=some { o with slots:=sl }
 free:∀ b o,h.get? b=some o→H b=none→b ∉ ex→H' b=none
 there:∀ b o,h.get? b=some o→b ∉ ex→∃ o',h'.get? b=some o'
 tups:∀ b xs,H b=some (.tup xs)→H' b=some (.tup xs)
 frzs:∀ b o u,H b=some (.frz o u)→H' b=some (.frz o u)
 tbls:∀ b ps,H b=some (.tbl ps)→∃ more,H' b=some (.tbl (ps++more))
section
variable {fs fs' ex ex':List Addr} {H H1 H2:Hp} {h h1 h2 h':Heap} {a x e:Addr} {o:HO}
theorem Un.any (u:Un fs ex H H1 h h1) {b:Addr} {ob:Obj} (q:h.get? b=some ob) (n:H b=none) (hx:b ∉ ex):∃ sl,h1.get? b=some { ob with slots:=sl }:=by
 by_cases hb:b∈fs
 ·exact u.slot b ob q n hb hx
 ·exact ⟨ob.slots,u.keep b ob q n hb hx⟩
theorem Un.kept (k:∀ b u,h.get? b=some u→h'.get? b=some u):Un fs ex H H h h' :=
 ⟨fun b ob q _ _ _=>k b ob q,fun b ob q _ _ _=>⟨ob.slots,k b ob q⟩,fun _ _ _ n _=>n,fun b ob q _=>⟨ob,k b ob q⟩,fun _ _ q=>q,fun _ _ _ q=>q,fun _ ps q=>⟨#[],by rw [q]; simp⟩⟩
theorem Un.refl:Un fs ex H H h h:=Un.kept fun _ _ q=>q
theorem Un.laid (k:∀ b u,h.get? b=some u→h'.get? b=some u) (hp:h.objs.size≤a) (hn:H a=none):Un fs ex H (upd H a o) h h' where
 keep:=fun b u q _ _ _=>k b u q
 slot:=fun b u q _ _ _=>⟨u.slots,k b u q⟩
 free:=fun b u q n _=>by rw [Aah (Nat.ne_of_lt (Nat.lt_of_lt_of_le (Heap.lt_size q) hp))]; exact n
 there:=fun b u q _=>⟨u,k b u q⟩
 tups:=fun b xs q=>by rw [Aah (Aaj q hn)]; exact q
 frzs:=fun b u xs q=>by rw [Aah (Aaj q hn)]; exact q
 tbls:=fun b ps q=>⟨#[],by rw [Aah (Aaj q hn),q]; simp⟩
theorem Un.write (mu:Mut (H x)) (he:e=x∨H e=some (.own x)) (k:∀ b u,b≠e→h.get? b=some u→h'.get? b=some u) (heo:∃ u,h'.get? e=some u):Un fs ex H (upd H x o) h h':=by
 have hx:∀ b,H b=none→b≠x:=fun b n z=>by subst z; rw [n] at mu; exact mu
 have hb:∀ b,H b=none→b≠e:=fun b n z=>by
  subst z
  rcases he with r | r
  ·exact hx b n r
  ·rw [n] at r; cases r
 have hm:∀ b u,H b=some u→¬ Mut (some u)→b≠x:=fun b u q nm z=>by subst z; rw [q] at mu; exact nm mu
 refine ⟨fun b u q n _ _=>k b u (hb b n) q,fun b u q n _ _=>⟨u.slots,k b u (hb b n) q⟩,fun b u q n _=>by rw [Aah (hx b n)]; exact n,fun b u q _=>?_,
  fun b xs q=>by rw [Aah (hm b _ q fun z=>z)]; exact q,fun b u xs q=>by rw [Aah (hm b _ q fun z=>z)]; exact q,fun b ps q=>⟨#[],by rw [Aah (hm b _ q fun z=>z),q]; simp⟩⟩
 by_cases hbe:b=e
 ·subst hbe; exact heo
 ·exact ⟨u,k b u hbe q⟩
end
def trk (h:Heap) (H:Hp):List Addr:=(List.range h.objs.size).filter fun a=>(H a).isSome
def Anq (h:Heap) (H:Hp):Heap:=PySem.W.hideAll h (trk h H)
theorem AlP (h:Heap) (H:Hp):(Anq h H).objs.size=h.objs.size:=PySem.W.hideAll_size _ _
theorem Anr {h:Heap} {H:Hp} {b:Addr} {o:Obj} (e:h.get? b=some o) (n:H b=none):(Anq h H).get? b=some o :=
 PySem.W.hideAll_get _ e fun hm=>by
  have q:(H b).isSome=true:=(List.mem_filter.mp hm).2
  rw [n] at q; simp at q
theorem AoN {h:Heap} {H:Hp} {b:Addr} {o:Obj} (e:(Anq h H).get? b=some o):h.get? b=some o∧H b=none:=by
 have e':h.get? b=some o:=PySem.W.of_hideAll (trk h H) e
 refine ⟨e',?_⟩
 cases q:H b with
 | none=>rfl
 | some x =>
  have hm:b∈trk h H:=List.mem_filter.mpr ⟨List.mem_range.mpr (Heap.lt_size e'),by simp [q]⟩
  have z:(Anq h H).get? b=none:=PySem.W.hideAll_none (trk h H) hm
  rw [z] at e; cases e
end L2
namespace L2
open PySem PySem.Spec PyProof.Rows
structure Mod (K:PySem.W.Frag) (mg:Str→Option Value) (base:Heap):Prop where
 kin:K.In base
 glob:base.Ns mainGlobals mg
 blt:∃ mb,base.Ns builtinsNs mb∧∀ x:Str,x≠"__name__"→mb x=bootBuiltins x
 nolimit:base.NoLimit
structure Cx where
 prog:Program
 w:World
 K:PySem.W.Frag
 mg:Str→Option Value
 base:Heap
 A:Around
 N:List Str
 s₀:Shared
 H₀:Hp
 env:Env
 outer:List Env
 stack:List Env
 ex:List Addr
 fn:Str→Bool
 calm:Bool
 pn:List (Addr×Obj)
 xe:Value→Shared→Prop
def frs (l:List Env):List Addr:=l.filterMap (·.frame)
abbrev Cx.fs (X:Cx):List Addr:=frs X.outer
def Vis (sc:Scope) (x:Str):Prop:=sc.names.lookup x=some .local∨sc.names.lookup x=some .cell∨sc.names.lookup x=some .free
def Loc (sc:Scope) (x:Str):Prop:=sc.names.lookup x=some .local∨sc.names.lookup x=some .cell
def ArO (env:Env) (h:Heap) (m:Str→Option Value) (x:Str) (u:Value):Prop :=
 (env.kindOf x=some .local∧m x=some u)∨((env.kindOf x=some .cell∨env.kindOf x=some .free)∧∃ c,env.cells.lookup x=some c∧h.IsCell c (some u))
structure Cx.Ok (X:Cx):Prop where
 mod:Mod X.K X.mg X.base
 kind:X.env.scope.kind=.function
 glob:X.env.globals=mainGlobals
 blt:X.env.builtins=builtinsNs
 above:X.s₀.heap.objs.size≤X.env.locals
 inj:∀ x y c,X.env.cells.lookup x=some c→X.env.cells.lookup y=some c→x=y
 has:∀ x,(X.env.kindOf x=some .cell∨X.env.kindOf x=some .free)→∃ c,X.env.cells.lookup x=some c
 cab:∀ x c,X.fn x=true→X.env.cells.lookup x=some c→X.s₀.heap.objs.size≤c
 hd:X.calm=true→X.A.handled=none
 frames:X.A.frames=some X.stack
 stk:X.stack=X.outer∨(X.stack=X.env :: X.outer∧X.env.frame=some X.env.locals)
 exf:∀ b∈X.ex,b≠X.env.locals∧∀ x c,X.env.cells.lookup x=some c→c≠b
 bs:∀ b o,X.base.get? b=some o→X.s₀.heap.get? b=some o∧X.H₀ b=none
 bsz:X.base.objs.size≤X.s₀.heap.objs.size
 noex:∀ b o,X.base.get? b=some o→b ∉ X.ex
 exfs:∀ b∈X.ex,b ∉ X.fs
 funs:X.s₀.heap.FunFrames X.base X.outer
 frf:∀ b∈X.fs,X.H₀ b=none
structure Inv (X:Cx) (pins:List (Addr×Obj)) (σ:List (Option V)) (H:Hp) (s:Shared):Prop where
 ok:X.Ok
 os:s.os=X.s₀.os
 bare:AllBare s.gens
 base:Un X.fs X.ex X.H₀ H X.s₀.heap s.heap
 loc:∃ m,s.heap.Ns X.env.locals m∧∀ (i:Nat) (x:Str) (v:V),X.N[i]?=some x→σ[i]?=some (some v)→Vis X.env.scope x→∃ u,AbQ v u∧ArO X.env s.heap m x u
 cell:∀ x c,X.env.cells.lookup x=some c→∃ v,s.heap.IsCell c v
 free:H X.env.locals=none
 freeC:∀ x c,X.env.cells.lookup x=some c→H c=none
 pin:∀ p∈X.pn++pins,s.heap.get? p.1=some p.2∧H p.1=none∧p.1≠X.env.locals∧p.1 ∉ X.fs∧∀ v,p.2.data≠.cell v
 hok:HOk X.prog X.w H s.heap
 len:σ.length=X.N.length
section
variable {X:Cx} {pins:List (Addr×Obj)} {σ:List (Option V)} {H H':Hp} {s:Shared} {h':Heap}
theorem Cx.Ok.nofr (ok:X.Ok) {b:Addr} {o:Obj} (e:X.base.get? b=some o):b ∉ X.fs:=fun hb=>by
 have:=(ok.funs.mem hb).1
 rw [e] at this; cases this
theorem Inv.bs (I:Inv X pins σ H s):∀ b o,X.base.get? b=some o→s.heap.get? b=some o∧H b=none:=fun b o e =>
 ⟨I.base.keep b o (I.ok.bs b o e).1 (I.ok.bs b o e).2 (I.ok.nofr e) (I.ok.noex b o e),I.base.free b o (I.ok.bs b o e).1 (I.ok.bs b o e).2 (I.ok.noex b o e)⟩
theorem Inv.bk (I:Inv X pins σ H s):∀ b o,X.base.get? b=some o→s.heap.get? b=some o:=fun b o e=>(I.bs b o e).1
theorem Inv.mod (I:Inv X pins σ H s):Mod X.K X.mg X.base:=I.ok.mod
theorem Inv.kIn (I:Inv X pins σ H s):X.K.In s.heap:=I.ok.mod.kin.keeps I.bk
theorem Inv.lt (I:Inv X pins σ H s):X.env.locals < s.heap.objs.size:=let ⟨_,hn,_⟩:=I.loc; hn.lt
theorem Inv.sz (I:Inv X pins σ H s):X.s₀.heap.objs.size≤s.heap.objs.size:=Nat.le_trans I.ok.above (Nat.le_of_lt I.lt)
theorem Inv.nofs (I:Inv X pins σ H s) {a:Addr} (h:s.heap.objs.size≤a):a ∉ X.fs:=fun hb=>by
 obtain ⟨_,o,ho,_⟩:=I.ok.funs.mem hb
 exact absurd (Nat.lt_of_lt_of_le (Heap.lt_size ho) (Nat.le_trans I.sz h)) (Nat.lt_irrefl _)
theorem Inv.cne (I:Inv X pins σ H s):∀ x c,X.env.cells.lookup x=some c→c≠X.env.locals:=fun x c e z=>by
 obtain ⟨v,o,ho,hd⟩:=I.cell x c e
 obtain ⟨m,⟨o',es,ep,ho',hd',_⟩,_⟩:=I.loc
 rw [z,ho'] at ho; cases ho; rw [hd'] at hd; cases hd
theorem Inv.funs (I:Inv X pins σ H s):s.heap.FunFrames X.base X.outer:=by
 have all:∀ (l:List Env),(∀ b∈frs l,b∈X.fs)→X.s₀.heap.FunFrames X.base l→s.heap.FunFrames X.base l:=by
  intro l
  induction l with
  | nil=>intro _ _; trivial
  | cons env r ih =>
   intro hs hl
   obtain ⟨hk,⟨L,o,hf,hn,ho,hd⟩,hr⟩:=hl
   have hL:L∈X.fs:=hs L (by unfold frs; rw [List.filterMap_cons,hf]; exact List.mem_cons_self)
   obtain ⟨sl,e⟩:=I.base.slot L o ho (I.ok.frf L hL) hL fun z=>I.ok.exfs L z hL
   exact ⟨hk,⟨L,_,hf,hn,e,hd⟩,ih (fun b hb=>hs b (by unfold frs; rw [List.filterMap_cons,hf]; exact List.mem_cons_of_mem _ hb)) hr⟩
 exact all X.outer (fun _ hb=>hb) I.ok.funs
theorem Inv.stack (I:Inv X pins σ H s):s.heap.FunFrames X.base X.stack:=by
 rcases I.ok.stk with e | ⟨e,hf⟩
 ·rw [e]; exact I.funs
 ·rw [e]
  obtain ⟨m,hn,_⟩:=I.loc
  refine .cons (by rw [I.ok.kind]; decide) hf hn ?_ I.funs
  exact Heap.get?_none_of_le (Nat.le_trans I.ok.bsz I.ok.above)
theorem Inv.stkSub (I:Inv X pins σ H s):∀ b∈frs X.stack,b∈X.env.locals :: X.fs:=fun b hb=>by
 rcases I.ok.stk with e | ⟨e,hf⟩
 ·rw [e] at hb; exact List.mem_cons_of_mem _ hb
 ·rw [e] at hb
  unfold frs at hb
  rw [List.filterMap_cons,hf] at hb
  exact hb
theorem Inv.stkFree (I:Inv X pins σ H s):∀ b∈frs X.stack,H b=none:=fun b hb=>by
 rcases List.mem_cons.mp (I.stkSub b hb) with e | hb
 ·rw [e]; exact I.free
 ·obtain ⟨_,o,ho,_⟩:=I.ok.funs.mem hb
  exact I.base.free b o ho (I.ok.frf b hb) fun z=>I.ok.exfs b z hb
theorem Inv.step {g':Array GenState} {t':Nat} {d':Drawn} {ch:List Addr} (I:Inv X pins σ H s)
  (hch:∀ b∈ch,(b∈X.ex∨X.s₀.heap.objs.size≤b)∧b≠X.env.locals∧(∀ x c,X.env.cells.lookup x=some c→c≠b)∧∀ p∈X.pn++pins,p.1≠b)
  (keep:∀ b o,b≠X.env.locals→b ∉ X.fs→b ∉ ch→s.heap.get? b=some o→H b=none→h'.get? b=some o)
  (slot:∀ b o,b≠X.env.locals→b∈X.fs→b ∉ ch→s.heap.get? b=some o→H b=none→∃ sl,h'.get? b=some { o with slots:=sl }) (free:∀ b o,b ∉ ch→s.heap.get? b=some o→H b=none→H' b=none)
  (there:∀ b o,b ∉ ch→s.heap.get? b=some o→∃ o',h'.get? b=some o')
  (tups:∀ b xs,H b=some (.tup xs)→H' b=some (.tup xs)) (frzs:∀ b o u,H b=some (.frz o u)→H' b=some (.frz o u)) (tbls:∀ b ps,H b=some (.tbl ps)→∃ more,H' b=some (.tbl (ps++more)))
  (ns:∀ m,s.heap.Ns X.env.locals m→h'.Ns X.env.locals m) (hok:HOk X.prog X.w H' h') (hg:AllBare g') :
  Inv X pins σ H' { s with heap:=h',gens:=g',drawn:=d',toks:=t' }:=by
 have neL:∀ b o,X.s₀.heap.get? b=some o→b≠X.env.locals:=fun b o e=>Nat.ne_of_lt (Nat.lt_of_lt_of_le (Heap.lt_size e) I.ok.above)
 have neC:∀ b o,X.s₀.heap.get? b=some o→b ∉ X.ex→b ∉ ch:=fun b o e hx hb=>by
  rcases (hch b hb).1 with z | z
  ·exact hx z
  ·exact absurd (Nat.lt_of_lt_of_le (Heap.lt_size e) z) (Nat.lt_irrefl _)
 have cellK:∀ x c,X.env.cells.lookup x=some c→∀ v,s.heap.IsCell c v→h'.IsCell c v:=fun x c e v ⟨o,ho,hd⟩=>by
  have nch:c ∉ ch:=fun z=>(hch c z).2.2.1 x c e rfl
  by_cases hc:c∈X.fs
  ·obtain ⟨sl,q⟩:=slot c o (I.cne x c e) hc nch ho (I.freeC x c e)
   exact ⟨_,q,hd⟩
  ·exact ⟨o,keep c o (I.cne x c e) hc nch ho (I.freeC x c e),hd⟩
 refine ⟨I.ok,I.os,hg,⟨fun b o e n hb hx=>?_,fun b o e n hb hx=>?_,fun b o e n hx=>?_,fun b o e hx=>?_,fun b xs e=>tups b xs (I.base.tups b xs e),fun b o xs e=>frzs b o xs (I.base.frzs b o xs e),fun b ps e=>?_⟩,?_,fun x c e=>?_,?_,fun x c e=>?_,fun p hp=>?_,hok,I.len⟩
 ·exact keep b o (neL b o e) hb (neC b o e hx) (I.base.keep b o e n hb hx) (I.base.free b o e n hx)
 ·obtain ⟨sl,e1⟩:=I.base.slot b o e n hb hx
  obtain ⟨sl',e2⟩:=slot b _ (neL b o e) hb (neC b o e hx) e1 (I.base.free b o e n hx)
  exact ⟨sl',e2⟩
 ·obtain ⟨o',e1⟩:=I.base.there b o e hx
  exact free b o' (neC b o e hx) e1 (I.base.free b o e n hx)
 ·obtain ⟨o',e1⟩:=I.base.there b o e hx
  exact there b o' (neC b o e hx) e1
 ·obtain ⟨m1,e1⟩:=I.base.tbls b ps e
  obtain ⟨m2,e2⟩:=tbls b _ e1
  exact ⟨m1++m2,by rw [e2,Array.append_assoc]⟩
 ·obtain ⟨m,hn,hl⟩:=I.loc
  refine ⟨m,ns m hn,fun i x v e1 e2 e3=>?_⟩
  obtain ⟨u,r,l⟩:=hl i x v e1 e2 e3
  refine ⟨u,r,?_⟩
  rcases l with l | ⟨k,c,e,z⟩
  ·exact .inl l
  ·exact .inr ⟨k,c,e,cellK x c e _ z⟩
 ·obtain ⟨v,z⟩:=I.cell x c e
  exact ⟨v,cellK x c e v z⟩
 ·obtain ⟨m,⟨o,_,_,ho,_⟩,_⟩:=I.loc
  exact free _ o (fun z=>(hch _ z).2.1 rfl) ho I.free
 ·obtain ⟨v,o,ho,hd⟩:=I.cell x c e
  exact free c o (fun z=>(hch c z).2.2.1 x c e rfl) ho (I.freeC x c e)
 ·obtain ⟨e,n,ne,nf,d⟩:=I.pin p hp
  have nch:p.1 ∉ ch:=fun z=>(hch p.1 z).2.2.2 p hp rfl
  exact ⟨keep p.1 p.2 ne nf nch e n,free p.1 p.2 nch e n,ne,nf,d⟩
theorem Inv.un {t':Nat} (I:Inv X pins σ H s) (u:Un X.fs [] H H' s.heap h') (hok:HOk X.prog X.w H' h'):Inv X pins σ H' { s with heap:=h',toks:=t' }:=by
 obtain ⟨m,⟨o,es,ep,ho,r⟩,_⟩:=id I.loc
 obtain ⟨sl,hL⟩:=u.any ho I.free (by simp)
 exact I.step (g':=s.gens) (d':=s.drawn) (ch:=[]) (fun _ z=>nomatch z) (fun b o _ hb _ e n=>u.keep b o e n hb (by simp)) (fun b o _ hb _ e n=>u.slot b o e n hb (by simp)) (fun b o _ e n=>u.free b o e n (by simp)) (fun b o _ e=>u.there b o e (by simp)) u.tups u.frzs u.tbls (fun m' hm=>by
  obtain ⟨o',es',ep',ho',r'⟩:=hm
  rw [ho] at ho'; cases ho'
  exact ⟨_,es',ep',hL,r'⟩) hok I.bare
theorem Inv.call {g':Array GenState} {t':Nat} {d':Drawn} {ch:List Addr} (I:Inv X pins σ H s) (u:Un (frs X.stack) ch H H' s.heap h') (hok:HOk X.prog X.w H' h') (hg:AllBare g')
  (hch:∀ b∈ch,(b∈X.ex∨X.s₀.heap.objs.size≤b)∧b≠X.env.locals∧(∀ x c,X.env.cells.lookup x=some c→c≠b)∧∀ p∈X.pn++pins,p.1≠b) :
  Inv X pins σ H' { s with heap:=h',gens:=g',drawn:=d',toks:=t' }:=by
 obtain ⟨m,⟨o,es,ep,ho,r⟩,_⟩:=id I.loc
 obtain ⟨sl,hL⟩:=u.any ho I.free fun z=>(hch _ z).2.1 rfl
 exact I.step (ch:=ch) hch (fun b o hL hb hc e n=>u.keep b o e n (fun z=>(List.mem_cons.mp (I.stkSub b z)).elim hL hb) hc) (fun b o _ _ hc e n=>u.any e n hc) (fun b o hc e n=>u.free b o e n hc) (fun b o hc e=>u.there b o e hc) u.tups u.frzs u.tbls (fun m' hm=>by
  obtain ⟨o',es',ep',ho',r'⟩:=hm
  rw [ho] at ho'; cases ho'
  exact ⟨_,es',ep',hL,r'⟩) hok hg
theorem Inv.turned {t':Nat} {it:Addr} (I:Inv X pins σ H s) (k:∀ b o,b≠it→s.heap.get? b=some o→h'.get? b=some o) (hn:H it=none) (hL:it≠X.env.locals)
  (h1:it∈X.ex∨X.s₀.heap.objs.size≤it) (h2:∀ x c,X.env.cells.lookup x=some c→c≠it) (h3:∀ p∈X.pn++pins,p.1≠it):Inv X pins σ H { s with heap:=h',toks:=t' }:=by
 have nit:∀ b u,H b=some u→b≠it:=fun b u e z=>by rw [z,hn] at e; cases e
 refine I.step (g':=s.gens) (d':=s.drawn) (ch:=[it]) (fun b hb=>?_) (fun b o _ _ hc e _=>k b o (fun z=>hc (by simp [z])) e) (fun b o _ _ hc e _=>⟨o.slots,k b o (fun z=>hc (by simp [z])) e⟩) (fun _ _ _ _ n=>n)
  (fun b o hc e=>⟨o,k b o (fun z=>hc (by simp [z])) e⟩) (fun _ _ e=>e) (fun _ _ _ e=>e) (fun b ps e=>⟨#[],by rw [e]; simp⟩) (fun m hm=>?_) (fun b u e=>?_) I.bare
 ·have e:b=it:=by simpa using hb
  subst e
  exact ⟨h1,hL,h2,h3⟩
 ·obtain ⟨o,es,ep,ho,r⟩:=hm
  exact ⟨o,es,ep,k _ o (Ne.symm hL) ho,r⟩
 ·refine (I.hok b u e).stay (fun c v hc q=>k c v ?_ q) (fun _ q=>q) fun _ _ q=>q
  rcases hc with z | z
  ·rw [z]; exact nit b u e
  ·exact nit c _ z
theorem Inv.tok (I:Inv X pins σ H s) (t:Nat):Inv X pins σ H { s with toks:=t }:=I.un (h':=s.heap) (t':=t) Un.refl I.hok
theorem Inv.kept {t':Nat} (I:Inv X pins σ H s) (k:∀ b u,s.heap.get? b=some u→h'.get? b=some u):Inv X pins σ H { s with heap:=h',toks:=t' }:=I.un (Un.kept k) (I.hok.kept k)
theorem Inv.laid {a:Addr} {o:HO} {t':Nat} (I:Inv X pins σ H s) (k:∀ b u,s.heap.get? b=some u→h'.get? b=some u) (hp:s.heap.objs.size≤a) (new:AbR X.prog X.w (upd H a o) h' a o) :
  Inv X pins σ (upd H a o) { s with heap:=h',toks:=t' }:=I.un (Un.laid k hp (I.hok.fresh hp)) (I.hok.laid k hp new)
theorem Inv.write {x e:Addr} {o:HO} {t':Nat} (I:Inv X pins σ H s) (mu:Mut (H x)) (he:e=x∨H e=some (.own x)) (k:∀ b u,b≠e→s.heap.get? b=some u→h'.get? b=some u) (heo:∃ u,h'.get? e=some u)
  (new:AbR X.prog X.w (upd H x o) h' x o):Inv X pins σ (upd H x o) { s with heap:=h',toks:=t' }:=I.un (Un.write mu he k heo) (I.hok.write mu he k heo new)
theorem Inv.pins_of {pins':List (Addr×Obj)} (I:Inv X pins σ H s) (h:∀ p∈pins',s.heap.get? p.1=some p.2∧H p.1=none∧p.1≠X.env.locals∧p.1 ∉ X.fs∧∀ v,p.2.data≠.cell v):Inv X pins' σ H s :=
 ⟨I.ok,I.os,I.bare,I.base,I.loc,I.cell,I.free,I.freeC,fun p hp=>(List.mem_append.mp hp).elim (fun z=>I.pin p (List.mem_append_left _ z)) (h p),I.hok,I.len⟩
theorem AkL {N:List Str} (hN:N.Nodup) {i j:Nat} {x:Str} (a:N[i]?=some x) (b:N[j]?=some x):i=j:=by
 obtain ⟨h1,e1⟩:=List.getElem?_eq_some_iff.mp a
 obtain ⟨h2,e2⟩:=List.getElem?_eq_some_iff.mp b
 exact (List.getElem_inj hN).mp (e1.trans e2.symm)
theorem Aja {M:Model} {A:Around} {E:Value→Shared→Prop} {i:Nat} {x:Str} {v:V} {u:Value} {Q:Unit→Shared→Prop} (I:Inv X pins σ H s) (hN:X.N.Nodup) (hi:X.N[i]?=some x) (hx:Loc X.env.scope x) (r:AbQ v u)
  (h:∀ s',Inv X pins (σ.set i (some v)) H s'→(∃ a,Heap.SameBut a s.heap s'.heap∧(a=X.env.locals∨X.env.cells.lookup x=some a))→Q () s') (hf:X.fn x=true∨X.env.scope.names.lookup x=some .local:=by first | exact .inl rfl | exact .inr rfl | assumption):wpAny M A (storeName X.env x u) Q E s:=by
 obtain ⟨m,hn,hl⟩:=id I.loc
 have hcls:(X.env.scope.kind == .class || (X.env.scope.kind == .module && X.env.locals != X.env.globals))=false:=by rw [I.ok.kind]; rfl
 have hiσ:i < σ.length:=by rw [I.len]; exact (List.getElem?_eq_some_iff.mp hi).1
 have cne:=I.cne
 have tracked:∀ {a:Addr} {h':Heap},(∃ o,s.heap.get? a=some o∧H a=none)→Heap.SameBut a s.heap h'→HOk X.prog X.w H h':=fun {a h'} ha hs b ob e=>by
  obtain ⟨_,_,hfree⟩:=ha
  refine (I.hok b ob e).stay (fun c w' hc q=>(hs.2 c ?_).trans q) (fun _ q=>q) fun _ _ q=>q
  rintro rfl
  rcases hc with rfl | hc
  ·rw [hfree] at e; cases e
  ·rw [hfree] at hc; cases hc
 rcases hx with hk | hk
 ·refine wpAny_storeName_local hk hn (fun h' hn' hs=>?_) hcls
  obtain ⟨oL,_,_,hoL,_⟩:=id hn
  refine h _ ⟨I.ok,I.os,I.bare,⟨fun b o e n hb hx=>?_,fun b o e n hb hx=>?_,I.base.free,fun b o e hx=>?_,I.base.tups,I.base.frzs,I.base.tbls⟩,⟨_,hn',fun j y v' e1 e2 e3=>?_⟩,fun y c e=>?_,I.free,I.freeC,fun p hp=>?_,tracked ⟨oL,hoL,I.free⟩ hs,by simpa using I.len⟩ ⟨_,hs,.inl rfl⟩
  ·exact (hs.2 b (Nat.ne_of_lt (Nat.lt_of_lt_of_le (Heap.lt_size e) I.ok.above))).trans (I.base.keep b o e n hb hx)
  ·obtain ⟨sl,e1⟩:=I.base.slot b o e n hb hx
   exact ⟨sl,(hs.2 b (Nat.ne_of_lt (Nat.lt_of_lt_of_le (Heap.lt_size e) I.ok.above))).trans e1⟩
  ·obtain ⟨o',e1⟩:=I.base.there b o e hx
   exact ⟨o',(hs.2 b (Nat.ne_of_lt (Nat.lt_of_lt_of_le (Heap.lt_size e) I.ok.above))).trans e1⟩
  ·by_cases hj:j=i
   ·subst hj
    rw [hi] at e1; cases e1
    rw [List.getElem?_set_self hiσ] at e2
    cases e2
    exact ⟨u,r,.inl ⟨hk,by simp⟩⟩
   ·rw [List.getElem?_set_ne (Ne.symm hj)] at e2
    obtain ⟨u',r',q⟩:=hl j y v' e1 e2 e3
    refine ⟨u',r',?_⟩
    rcases q with ⟨k,e⟩ | ⟨k,c,e,z⟩
    ·refine .inl ⟨k,?_⟩
     have:y≠x:=fun e=>hj (AkL hN e1 (e▸hi))
     simp [this,e]
    ·exact .inr ⟨k,c,e,z.sameBut hs (cne y c e)⟩
  ·obtain ⟨w',z⟩:=I.cell y c e
   exact ⟨w',z.sameBut hs (cne y c e)⟩
  ·obtain ⟨e,n,ne,nf,d⟩:=I.pin p hp
   exact ⟨(hs.2 p.1 ne).trans e,n,ne,nf,d⟩
 ·have hfn:X.fn x=true:=by
   rcases hf with z | z
   ·exact z
   ·rw [z] at hk; cases hk
  obtain ⟨c,hc⟩:=I.ok.has x (.inl hk)
  obtain ⟨w',z⟩:=I.cell x c hc
  refine wpAny_storeName_cell I.ok.kind hk hc z (fun h' hc' hs=>?_)
  obtain ⟨oc,hoc,hocd⟩:=id z
  refine h { s with heap:=h' } ⟨I.ok,I.os,I.bare,⟨fun b o e n hb hx=>?_,fun b o e n hb hx=>?_,I.base.free,fun b o e hx=>?_,I.base.tups,I.base.frzs,I.base.tbls⟩,⟨m,hn.sameBut hs (Ne.symm (cne x c hc)),fun j y v' e1 e2 e3=>?_⟩,fun y c' e=>?_,I.free,I.freeC,fun p hp=>?_,tracked ⟨oc,hoc,I.freeC x c hc⟩ hs,by simpa using I.len⟩ ⟨c,hs,.inr hc⟩
  ·exact (hs.2 b (Nat.ne_of_lt (Nat.lt_of_lt_of_le (Heap.lt_size e) (I.ok.cab x c hfn hc)))).trans (I.base.keep b o e n hb hx)
  ·obtain ⟨sl,e1⟩:=I.base.slot b o e n hb hx
   exact ⟨sl,(hs.2 b (Nat.ne_of_lt (Nat.lt_of_lt_of_le (Heap.lt_size e) (I.ok.cab x c hfn hc)))).trans e1⟩
  ·obtain ⟨o',e1⟩:=I.base.there b o e hx
   exact ⟨o',(hs.2 b (Nat.ne_of_lt (Nat.lt_of_lt_of_le (Heap.lt_size e) (I.ok.cab x c hfn hc)))).trans e1⟩
  ·by_cases hj:j=i
   ·subst hj
    rw [hi] at e1; cases e1
    rw [List.getElem?_set_self hiσ] at e2
    cases e2
    exact ⟨u,r,.inr ⟨.inl hk,c,hc,hc'⟩⟩
   ·rw [List.getElem?_set_ne (Ne.symm hj)] at e2
    obtain ⟨u',r',q⟩:=hl j y v' e1 e2 e3
    refine ⟨u',r',?_⟩
    rcases q with q | ⟨k,c',e,z'⟩
    ·exact .inl q
    ·refine .inr ⟨k,c',e,z'.sameBut hs ?_⟩
     rintro rfl
     exact hj (AkL hN e1 (I.ok.inj _ _ _ e hc▸hi))
  ·by_cases hcc:c'=c
   ·subst hcc; exact ⟨_,hc'⟩
   ·obtain ⟨w2,z2⟩:=I.cell y c' e
    exact ⟨w2,z2.sameBut hs hcc⟩
  ·obtain ⟨e,n,ne,nf,d⟩:=I.pin p hp
   refine ⟨(hs.2 p.1 ?_).trans e,n,ne,nf,d⟩
   intro q
   rw [q,hoc] at e
   have q':oc=p.2:=Option.some.inj e
   exact d w' (by rw [← q']; exact hocd)
theorem AkM {M:Model} {A:Around} {E:Value→Shared→Prop} {i:Nat} {x:Str} {v:V} {u:Value} {Q:Unit→Shared→Prop} (I:Inv X pins σ H s) (hN:X.N.Nodup) (hi:X.N[i]?=some x) (hx:Loc X.env.scope x) (r:AbQ v u)
  (h:∀ s',Inv X pins (σ.set i (some v)) H s'→Q () s') (hf:X.fn x=true∨X.env.scope.names.lookup x=some .local:=by first | exact .inl rfl | exact .inr rfl | assumption):wpAny M A (storeName X.env x u) Q E s :=
 Aja I hN hi hx r (fun s' I' _=>h s' I') hf
theorem Inv.call' {s':Shared} {ch:List Addr} (I:Inv X pins σ H s) (ho:s'.os=s.os) (u:Un (frs X.stack) ch H H' s.heap s'.heap) (hok:HOk X.prog X.w H' s'.heap) (hg:AllBare s'.gens)
  (hch:∀ b∈ch,(b∈X.ex∨X.s₀.heap.objs.size≤b)∧b≠X.env.locals∧(∀ x c,X.env.cells.lookup x=some c→c≠b)∧∀ p∈X.pn++pins,p.1≠b):Inv X pins σ H' s':=by
 obtain ⟨h',g',d',t',o'⟩:=s'
 have e:o'=s.os:=ho
 subst e
 exact I.call (g':=g') (t':=t') (d':=d') u hok hg hch
end
abbrev XK:=Value→Option Addr→Hp→Prop
abbrev St:=List (Option V)
abbrev VK:=V→Hp→Prop
abbrev TE:=St→Hp→VK→Prop
abbrev TT:=St→Hp→(Bool→Hp→Prop)→Prop
abbrev TA:=St→Hp→(List V→Hp→Prop)→Prop
structure AkN where
 nx:St→Hp→Prop
 rt:VK
 bk:St→Hp→Prop:=fun _ _=>False
 ct:St→Hp→Prop:=fun _ _=>False
abbrev TS:=AkN→St→Hp→Prop
def EP (X:Cx) (pins:List (Addr×Obj)) (σ:St) (Q:VK) (u:Value) (s':Shared):Prop:=∃ v H',Inv X pins σ H' s'∧AbQ v u∧Q v H'
def TP (X:Cx) (pins:List (Addr×Obj)) (σ:St) (Q:Bool→Hp→Prop) (b:Bool) (s':Shared):Prop:=∃ H',Inv X pins σ H' s'∧Q b H'
def AP (X:Cx) (pins:List (Addr×Obj)) (σ:St) (Q:List V→Hp→Prop) (us:List Value) (s':Shared):Prop:=∃ vs H',Inv X pins σ H' s'∧Aba vs us∧Q vs H'
def SP (X:Cx) (pins:List (Addr×Obj)) (D:AkN) (f:Flow) (s':Shared):Prop :=
 match f with
 | .next=>∃ σ' H',Inv X pins σ' H' s'∧D.nx σ' H'
 | .brk=>∃ σ' H',Inv X pins σ' H' s'∧D.bk σ' H'
 | .cont=>∃ σ' H',Inv X pins σ' H' s'∧D.ct σ' H'
 | .ret u=>∃ v σ' H',Inv X pins σ' H' s'∧AbQ v u∧D.rt v H'
def PE (X:Cx) (e:Expr) (t:TE):Prop :=
 ∀ (pins:List (Addr×Obj)) (s:Shared) (σ:St) (H:Hp) (Q:VK),Inv X pins σ H s→t σ H Q→wpAny (model X.prog X.w) X.A (eval e X.env) (EP X pins σ Q) X.xe s
def PT (X:Cx) (e:Expr) (t:TT):Prop :=
 ∀ (pins:List (Addr×Obj)) (s:Shared) (σ:St) (H:Hp) (Q:Bool→Hp→Prop),Inv X pins σ H s→t σ H Q→wpAny (model X.prog X.w) X.A (isTrue e X.env (eval e X.env)) (TP X pins σ Q) X.xe s
def PW (X:Cx) (e:Expr) (t:TT):Prop :=
 ∀ (whole:Sem Value) (pins:List (Addr×Obj)) (s:Shared) (σ:St) (H:Hp) (Q:Bool→Hp→Prop),Inv X pins σ H s→t σ H Q→wpAny (model X.prog X.w) X.A (isTrue e X.env whole) (TP X pins σ Q) X.xe s
theorem PW.pt {X:Cx} {e:Expr} {t:TT} (h:PW X e t):PT X e t:=h _
def PA (X:Cx) (es:List Expr) (t:TA):Prop :=
 ∀ (pos:Pos) (pins:List (Addr×Obj)) (s:Shared) (σ:St) (H:Hp) (Q:List V→Hp→Prop),Inv X pins σ H s→t σ H Q→wpAny (model X.prog X.w) X.A (spliced (backTo pos (starEach es X.env))) (AP X pins σ Q) X.xe s
def PS (X:Cx) (st:Stmt) (t:TS):Prop :=
 ∀ (pins:List (Addr×Obj)) (s:Shared) (σ:St) (H:Hp) (D:AkN),Inv X pins σ H s→t D σ H→wpAny (model X.prog X.w) X.A (exec st X.env) (SP X pins D) X.xe s
def PSs (X:Cx) (st:List Stmt) (t:TS):Prop :=
 ∀ (pins:List (Addr×Obj)) (s:Shared) (σ:St) (H:Hp) (D:AkN),Inv X pins σ H s→t D σ H→wpAny (model X.prog X.w) X.A (execs st X.env) (SP X pins D) X.xe s
theorem thn {α:Type} {t:Sem α} {Q Q':α→Shared→Prop} {M:Model} {A:Around} {E:Value→Shared→Prop} {s:Shared} (h:wpAny M A t Q E s) (hQ:∀ a s,Q a s→Q' a s):wpAny M A t Q' E s:=wpAny_mono h hQ fun _ _ x=>x
end L2
namespace L2
open PySem PySem.Spec PyProof.Rows
section
variable {X:Cx}
def AqK (i:Nat):TE:=fun σ H Q=>∃ v,σ[i]?=some (some v)∧Q v H
def tC (v:V):TE:=fun _ H Q=>Q v H
theorem AlQ {i:Nat} {x:Str} {pos:Pos} (hN:X.N[i]?=some x) (hv:Vis X.env.scope x) (hd:(x == ("__debug__":Str))=false:=by decide) (hcd:(x == ("__classdict__":Str))=false:=by decide):PE X (.Name x pos) (AqK i):=by
 intro pins s σ H Q I h
 obtain ⟨v,e,h⟩:=h
 obtain ⟨m,hn,hl⟩:=I.loc
 obtain ⟨u,r,l⟩:=hl i x v hN e hv
 have fin:EP X pins σ Q u s:=⟨v,H,I,r,h⟩
 rcases l with ⟨hk,hm⟩ | ⟨hk,c,hc,hcell⟩
 ·exact wpAny_Name (wpAny_loadName_local I.ok.kind hk hn hm fin) hd
 ·rcases hk with hk | hk
  ·exact wpAny_Name (wpAny_loadName_cell I.ok.kind hk hc hcell fin) hd
  ·exact wpAny_Name (wpAny_loadName_free I.ok.kind hk hc hcell fin hcd) hd
theorem Aal {i j pos}:PE X (.Constant (.int i) j pos) (tC (.int i)):=fun _ _ _ H _ I h=>wpAny_Constant_int ⟨.int i,H,I.tok _,⟨_,rfl⟩,h⟩
theorem Aho {b j pos}:PE X (.Constant (.bool b) j pos) (tC (.bl b)):=fun _ _ _ H _ I h=>Constant_bool ⟨.bl b,H,I,rfl,h⟩
theorem AcQ {j pos}:PE X (.Constant .none j pos) (tC .non):=fun _ _ _ H _ I h=>Constant_none ⟨.non,H,I,rfl,h⟩
theorem Aak {x j pos}:PE X (.Constant (.str x) j pos) (tC (.str x)):=fun _ _ _ H _ I h=>Calls.Constant_str ⟨.str x,H,I.tok _,⟨_,rfl⟩,h⟩
def Gl (X:Cx) (x:Str):Prop:=X.env.kindOf x=some .globalImplicit
theorem Aiw {E:Value→Shared→Prop} {pins:List (Addr×Obj)} {s:Shared} {σ:St} {H:Hp} {x:Str} {u:Value} {pos:Pos} {Q:Value→Shared→Prop} (I:Inv X pins σ H s) (hg:Gl X x) (hm:X.mg x=some u) (h:Q u s)
  (hd:(x == ("__debug__":Str))=false:=by decide):wpAny (model X.prog X.w) X.A (eval (.Name x pos) X.env) Q E s :=
 Calls.Name_function_global I.ok.kind hg (Calls.loadGlobal_global (by rw [I.ok.glob]; exact I.mod.glob.keeps I.bk) hm h) hd
theorem Aib {E:Value→Shared→Prop} {pins:List (Addr×Obj)} {s:Shared} {σ:St} {H:Hp} {x:Str} {u:Value} {pos:Pos} {Q:Value→Shared→Prop} (I:Inv X pins σ H s) (hg:Gl X x) (hm:X.mg x=none) (hv:bootBuiltins x=some u) (h:Q u s)
  (hn:x≠"__name__":=by decide) (hd:(x == ("__debug__":Str))=false:=by decide):wpAny (model X.prog X.w) X.A (eval (.Name x pos) X.env) Q E s:=by
 obtain ⟨mb,h1,h2⟩:=I.mod.blt
 exact Calls.Name_function_global I.ok.kind hg (Calls.loadGlobal_builtin (by rw [I.ok.glob]; exact I.mod.glob.keeps I.bk) hm (by rw [I.ok.blt]; exact h1.keeps I.bk) ((h2 x hn).trans hv) h) hd
theorem AoO {x:Str} {v:V} {u:Value} {pos:Pos} (hg:Gl X x) (hm:X.mg x=some u) (r:AbQ v u) (hd:(x == ("__debug__":Str))=false:=by decide):PE X (.Name x pos) (tC v) :=
 fun _ _ _ H _ I h=>Aiw I hg hm ⟨v,H,I,r,h⟩ hd
theorem AoP {x:Str} {v:V} {u:Value} {pos:Pos} (hg:Gl X x) (hm:X.mg x=none) (hv:bootBuiltins x=some u) (r:AbQ v u) (hn:x≠"__name__":=by decide) (hd:(x == ("__debug__":Str))=false:=by decide):PE X (.Name x pos) (tC v) :=
 fun _ _ _ H _ I h=>Aib I hg hm hv ⟨v,H,I,r,h⟩ hn hd
variable {a b:Expr} {ta tb:TE} {pos:Pos}
def tB (t:TE):TT:=fun σ H Q=>t σ H fun x H1=>∃ c,x=.bl c∧Q c H1
theorem Ad9 {e:Expr} {t:TE} (h:PE X e t) (he:∀ whole,isTrue e X.env whole=(do let v ← whole; standAt e.pos; holding [v] (truthy v)):=by intro _; rfl):PT X e (tB t):=by
 intro pins s σ H Q I hw
 refine isTrue_plain (thn (h pins s σ H _ I hw) fun v s1 ⟨x,H1,I1,r1,q1⟩=>?_) (he _)
 obtain ⟨d,rfl,q⟩:=q1
 cases r1
 exact wpAny_truthy_bool ⟨H1,I1,q⟩
variable {tA tB':TT} {rest:List Expr}
def ArP (t u:TT):TT:=fun σ H Q=>t σ H fun c H1=>if c=true then u σ H1 Q else Q false H1
def tOr (t u:TT):TT:=fun σ H Q=>t σ H fun c H1=>if c=true then Q true H1 else u σ H1 Q
def ArQ (t:TT):TT:=fun σ H Q=>t σ H fun c H1=>Q (!c) H1
theorem AjV (ha:PT X a tA):PW X (.BoolOp .And [a] pos) tA:=by
 intro wh pins s σ H Q I h
 refine isTrue_and (thn (ha pins s σ H Q I h) fun c s1 e=>?_)
 cases c with
 | true=>exact isTrue_and_nil e
 | false=>exact e
theorem AkO (ha:PT X a tA):PW X (.BoolOp .Or [a] pos) tA:=by
 intro wh pins s σ H Q I h
 refine isTrue_or (thn (ha pins s σ H Q I h) fun c s1 e=>?_)
 cases c with
 | false=>exact isTrue_or_nil e
 | true=>exact e
theorem AlR (ha:PT X a tA) (hb:PW X (.BoolOp .And (b :: rest) pos) tB'):PW X (.BoolOp .And (a :: b :: rest) pos) (ArP tA tB'):=by
 intro wh pins s σ H Q I h
 refine isTrue_and (thn (ha pins s σ H _ I h) fun c s1 ⟨H1,I1,q1⟩=>?_)
 cases c with
 | true=>exact hb wh pins s1 σ H1 Q I1 q1
 | false=>exact ⟨H1,I1,q1⟩
theorem Ans (ha:PT X a tA) (hb:PW X (.BoolOp .Or (b :: rest) pos) tB'):PW X (.BoolOp .Or (a :: b :: rest) pos) (tOr tA tB'):=by
 intro wh pins s σ H Q I h
 refine isTrue_or (thn (ha pins s σ H _ I h) fun c s1 ⟨H1,I1,q1⟩=>?_)
 cases c with
 | true=>exact ⟨H1,I1,q1⟩
 | false=>exact hb wh pins s1 σ H1 Q I1 q1
theorem Aep (ha:PT X a tA):PT X (.UnaryOp .Not a pos) (ArQ tA):=by
 intro pins s σ H Q I h
 exact isTrue_not (ha pins s σ H (fun c H1=>Q (!c) H1) I h)
def AqT (ta tb:TE):TE:=fun σ H Q=>ta σ H fun x H1=>∃ c,x=.bl c∧if c=true then tb σ H1 Q else Q (.bl false) H1
def AqU (ta:TE):TE:=fun σ H Q=>ta σ H fun x H1=>∃ c,x=.bl c∧Q (.bl (!c)) H1
theorem AlS {op} {t:TE} (h:PE X a t):PE X (.BoolOp op [a] pos) t:=fun pins s σ H Q I hw=>BoolOp_one (h pins s σ H Q I hw)
theorem Aox (ha:PE X a ta) (hb:PE X (.BoolOp .And (b :: rest) pos) tb):PE X (.BoolOp .And (a :: b :: rest) pos) (AqT ta tb):=by
 intro pins s σ H Q I h
 refine BoolOp_and (thn (ha pins s σ H _ I h) fun v s1 ⟨x,H1,I1,r1,q1⟩=>?_)
 obtain ⟨c,rfl,q1⟩:=q1
 cases r1
 refine wpAny_truthy_bool ?_
 cases c with
 | true=>exact hb pins s1 σ H1 Q I1 q1
 | false=>exact ⟨.bl false,H1,I1,rfl,q1⟩
theorem ApW (ha:PE X a ta):PE X (.UnaryOp .Not a pos) (AqU ta):=by
 intro pins s σ H Q I h
 refine UnaryOp_ (thn (ha pins s σ H _ I h) fun v s1 ⟨x,H1,I1,r1,q1⟩=>?_)
 obtain ⟨c,rfl,q1⟩:=q1
 cases r1
 exact not_of (wpAny_truthy_bool ⟨.bl (!c),H1,I1,rfl,q1⟩)
def tIf (t:TT) (ta tb:TE):TE:=fun σ H Q=>t σ H fun c H1=>if c=true then ta σ H1 Q else tb σ H1 Q
theorem AkP {c:Expr} (hc:PT X c tA) (ha:PE X a ta) (hb:PE X b tb):PE X (.IfExp c a b pos) (tIf tA ta tb):=by
 intro pins s σ H Q I h
 refine wpAny_IfExp (thn (hc pins s σ H _ I h) fun d s1 ⟨H1,I1,q1⟩=>?_)
 cases d with
 | true=>exact ha pins s1 σ H1 Q I1 q1
 | false=>exact hb pins s1 σ H1 Q I1 q1
end
end L2
namespace L2
open PySem PySem.Spec PyProof.Rows
def SqL (K:PySem.W.Frag) (H:Hp) (a:Addr) (xs:List V):Prop :=
 Rd H a (.lst xs) ∨
  ∃ (o:Obj) (its:Array Value) (n:Nat),K.lookup a=some o∧o.cls=.type "list"∧o.dict=none∧o.data=.seq its n∧its.size≤sizeLine∧Aba xs its.toList
def SqT (K:PySem.W.Frag) (H:Hp) (a:Addr) (xs:List V):Prop :=
 Rd H a (.tup xs) ∨
  ∃ (o:Obj) (its:Array Value) (n:Nat),K.lookup a=some o∧o.cls=.type "tuple"∧o.data=.seq its n∧its.size≤sizeLine∧Aba xs its.toList
def ArR:Value→Option V
 | .none=>some .non
 | .bool b=>some (.bl b)
 | .int i _=>some (.int i)
 | .str x _=>some (.str x)
 | .bytes b _=>some (.byt b)
 | .float b _=>some (.flt b)
 | .ref a=>some (.ref a)
 | .type n=>some (.ty n)
 | _=>none
theorem AbQ.abs {x:V} {u:Value} (r:AbQ x u):ArR u=some x:=by
 cases x with
 | non=>cases r; rfl
 | bl _=>cases r; rfl
 | int _=>obtain ⟨t,rfl⟩:=r; rfl
 | str _=>obtain ⟨t,rfl⟩:=r; rfl
 | byt _=>obtain ⟨t,rfl⟩:=r; rfl
 | flt _=>obtain ⟨t,rfl⟩:=r; rfl
 | ref _=>cases r; rfl
 | ty _=>cases r; rfl
theorem AbQ.inj {x y:V} {u:Value} (r:AbQ x u) (q:AbQ y u):x=y:=Option.some.inj (r.abs.symm.trans q.abs)
theorem Aba.inj:∀ {xs ys:List V} {us:List Value},Aba xs us→Aba ys us→xs=ys
 | _,_,_,.nil,.nil=>rfl
 | _,_,_,.cons r t,.cons r' t'=>by rw [r.inj r',Aba.inj t t']
section
variable {X:Cx} {pins:List (Addr×Obj)} {σ:St} {H:Hp} {s:Shared} {a:Addr} {xs ys:List V}
theorem SqL.of {K:PySem.W.Frag} (h:H a=some (.lst xs)):SqL K H a xs:=.inl (.inl h)
theorem SqT.of {K:PySem.W.Frag} (h:H a=some (.tup xs)):SqT K H a xs:=.inl (.inl h)
theorem Inv.list (I:Inv X pins σ H s) (h:SqL X.K H a xs):∃ its:List Value,Aba xs its∧PlainL s.heap a its.toArray∧xs.length≤sizeLine:=by
 rcases h with h | ⟨o,its,n,hk,hc,hd,hs,hz,r⟩
 ·obtain ⟨z,its,n,r,e⟩:=h.ok I.hok
  exact ⟨its,r,⟨_,n,e,rfl,rfl,rfl⟩,z⟩
 ·refine ⟨its.toList,r,⟨o,n,I.kIn a o hk,hc,hd,by simpa using hs⟩,?_⟩
  have e:=r.length
  simp only [Array.length_toList] at e
  omega
theorem Inv.tuple (I:Inv X pins σ H s) (h:SqT X.K H a xs):∃ its:List Value,Aba xs its∧IsTup s.heap a its.toArray∧xs.length≤sizeLine:=by
 rcases h with h | ⟨o,its,n,hk,hc,hs,hz,r⟩
 ·obtain ⟨z,its,r,p⟩:=h.ok I.hok
  exact ⟨its,r,p,z⟩
 ·refine ⟨its.toList,r,⟨o,I.kIn a o hk,hc,n,by simpa using hs⟩,?_⟩
  have e:=r.length
  simp only [Array.length_toList] at e
  omega
theorem Inv.list_inj (I:Inv X pins σ H s) (h:SqL X.K H a xs) (h':SqL X.K H a ys):xs=ys:=by
 obtain ⟨its,r,⟨o,n,e,_,_,d⟩,_⟩:=I.list h
 obtain ⟨its',r',⟨o',n',e',_,_,d'⟩,_⟩:=I.list h'
 rw [e] at e'; cases e'
 rw [d] at d'
 injection d' with d1 _
 have:its=its':=by simpa using congrArg Array.toList d1
 subst this
 exact r.inj r'
theorem Inv.tuple_inj (I:Inv X pins σ H s) (h:SqT X.K H a xs) (h':SqT X.K H a ys):xs=ys:=by
 obtain ⟨its,r,⟨o,e,_,n,d⟩,_⟩:=I.tuple h
 obtain ⟨its',r',⟨o',e',_,n',d'⟩,_⟩:=I.tuple h'
 rw [e] at e'; cases e'
 rw [d] at d'
 injection d' with d1 _
 have:its=its':=by simpa using congrArg Array.toList d1
 subst this
 exact r.inj r'
end
abbrev Cx.wish (X:Cx) (E:Value→Shared→Prop):Cx:={ X with xe:=E }
abbrev Cx.nox (X:Cx):Cx:=X.wish fun _ _=>False
theorem Cx.Ok.wish {X:Cx} (ok:X.Ok) (E:Value→Shared→Prop):(X.wish E).Ok :=
 ⟨ok.mod,ok.kind,ok.glob,ok.blt,ok.above,ok.inj,ok.has,ok.cab,ok.hd,ok.frames,ok.stk,ok.exf,ok.bs,ok.bsz,ok.noex,ok.exfs,ok.funs,ok.frf⟩
theorem Cx.Ok.unwish {X:Cx} {E:Value→Shared→Prop} (ok:(X.wish E).Ok):X.Ok :=
 ⟨ok.mod,ok.kind,ok.glob,ok.blt,ok.above,ok.inj,ok.has,ok.cab,ok.hd,ok.frames,ok.stk,ok.exf,ok.bs,ok.bsz,ok.noex,ok.exfs,ok.funs,ok.frf⟩
section
variable {X:Cx} {pins:List (Addr×Obj)} {σ:St} {H:Hp} {s:Shared} {E:Value→Shared→Prop}
theorem Inv.wish (I:Inv X pins σ H s) (E:Value→Shared→Prop):Inv (X.wish E) pins σ H s:=⟨I.ok.wish E,I.os,I.bare,I.base,I.loc,I.cell,I.free,I.freeC,I.pin,I.hok,I.len⟩
theorem Inv.unwish (I:Inv (X.wish E) pins σ H s):Inv X pins σ H s:=⟨I.ok.unwish,I.os,I.bare,I.base,I.loc,I.cell,I.free,I.freeC,I.pin,I.hok,I.len⟩
theorem SP.unwish {D:AkN} {f:Flow} {s':Shared} (h:SP (X.wish E) pins D f s'):SP X pins D f s':=by
 cases f with
 | next=>obtain ⟨σ',H',I,q⟩:=h; exact ⟨σ',H',I.unwish,q⟩
 | brk=>obtain ⟨σ',H',I,q⟩:=h; exact ⟨σ',H',I.unwish,q⟩
 | cont=>obtain ⟨σ',H',I,q⟩:=h; exact ⟨σ',H',I.unwish,q⟩
 | ret u=>obtain ⟨v,σ',H',I,r,q⟩:=h; exact ⟨v,σ',H',I.unwish,r,q⟩
theorem PSs.nox {st:List Stmt} {t:TS} (h:PSs X.nox st t):PSs X st t:=fun pins s σ H D I hw =>
 wpAny_mono (h pins s σ H D (I.wish _) hw) (fun _ _ q=>q.unwish) fun _ _ z=>False.elim z
end
section
variable {X:Cx} {st:Stmt} {rest:List Stmt} {t u:TS} {e:Expr} {te:TE} {pos:Pos}
def AqV:TS:=fun D σ H=>D.nx σ H
def AqL (t u:TS):TS:=fun D σ H=>t { D with nx:=u D } σ H
theorem AaF:PSs X [] AqV:=fun _ _ σ H _ I h=>wpAny_execs_nil ⟨σ,H,I,h⟩
theorem Aae (h1:PS X st t) (h2:PSs X rest u):PSs X (st :: rest) (AqL t u):=by
 intro pins s σ H D I h
 refine wpAny_execs_cons (thn (h1 pins s σ H { D with nx:=u D } I h) fun f s1 q=>?_)
 cases f with
 | next =>
  obtain ⟨σ',H',I',q⟩:=q
  exact h2 pins s1 σ' H' D I' q
 | ret v=>exact q
 | brk=>exact q
 | cont=>exact q
theorem Aag (h1:PS X st t):PSs X [st] t:=by
 intro pins s σ H D I h
 refine wpAny_execs_cons (thn (h1 pins s σ H D I h) fun f s1 q=>?_)
 cases f with
 | next=>exact wpAny_execs_nil q
 | ret v=>exact q
 | brk=>exact q
 | cont=>exact q
theorem Inv.quiet {pins:List (Addr×Obj)} {σ:St} {H:Hp} {s:Shared} (I:Inv X pins σ H s):interactive X.env=false:=by simp [interactive,I.ok.kind]
def AqW (te:TE):TS:=fun D σ H=>te σ H fun _ H1=>D.nx σ H1
theorem AaN (he:PE X e te) (hs:swapsWith e none pos.line X.env=pure false:=by rfl):PS X (.Expr e pos) (AqW te):=by
 intro pins s σ H D I h
 exact wpAny_Expr_any (thn (he pins s σ H _ I h) fun v s1 ⟨x,H1,I1,r1,q1⟩=>⟨σ,H1,I1,q1⟩) I.quiet hs
def ArS (te:TE):TS:=fun D σ H=>te σ H D.rt
theorem AaL (he:PE X e te):PS X (.Return (some e) pos) (ArS te):=by
 intro pins s σ H D I h
 exact wpAny_Return_some (thn (he pins s σ H _ I h) fun v s1 ⟨x,H1,I1,r1,q1⟩=>⟨x,σ,H1,I1,r1,q1⟩)
def ArT (c:TT) (t u:TS):TS:=fun D σ H=>c σ H fun b H1=>if b=true then t D σ H1 else u D σ H1
theorem AbC {c:Expr} {a b:List Stmt} {tc:TT} (hc:PT X c tc) (ha:PSs X a t) (hb:PSs X b u):PS X (.If c a b pos) (ArT tc t u):=by
 intro pins s σ H D I h
 refine wpAny_If (thn (hc pins s σ H _ I h) fun d s1 ⟨H1,I1,q1⟩=>?_)
 cases d with
 | true=>exact ha pins s1 σ H1 D I1 q1
 | false=>exact hb pins s1 σ H1 D I1 q1
end
abbrev TG:=V→St→Hp→(St→Hp→Prop)→Prop
abbrev TGs:=List V→St→Hp→(St→Hp→Prop)→Prop
def PG (X:Cx) (target:Expr) (t:TG):Prop :=
 ∀ (pins:List (Addr×Obj)) (s:Shared) (σ:St) (H:Hp) (v:V) (u:Value) (Q:St→Hp→Prop),Inv X pins σ H s→AbQ v u→t v σ H Q →
  wpAny (model X.prog X.w) X.A (assign target X.env u) (fun _ s'=>∃ σ' H',Inv X pins σ' H' s'∧Q σ' H') X.xe s
def PGs (X:Cx) (ts:List Expr) (t:TGs):Prop :=
 ∀ (pins:List (Addr×Obj)) (s:Shared) (σ:St) (H:Hp) (vs:List V) (us:List Value) (Q:St→Hp→Prop),Inv X pins σ H s→Aba vs us→t vs σ H Q →
  wpAny (model X.prog X.w) X.A (assignInOrder ((assignEach ts X.env).map (·.2)) us) (fun _ s'=>∃ σ' H',Inv X pins σ' H' s'∧Q σ' H') X.xe s
abbrev ApX:=V→V→V→Hp→(Hp→Prop)→Prop
def AqX (X:Cx) (t:ApX):Prop :=
 ∀ (pins:List (Addr×Obj)) (s:Shared) (σ:St) (H:Hp) (o i v:V) (ov iv u:Value) (Q:Hp→Prop),Inv X pins σ H s→AbQ o ov→AbQ i iv→AbQ v u→t o i v H Q →
  wpAny (model X.prog X.w) X.A (setItem ov iv u) (fun _ s'=>∃ H',Inv X pins σ H' s'∧Q H') X.xe s
abbrev TIp:=V→V→Hp→VK→Prop
def PIp (X:Cx) (op:Operator) (t:TIp):Prop :=
 ∀ (pins:List (Addr×Obj)) (s:Shared) (σ:St) (H:Hp) (x y:V) (v u:Value) (Q:VK),Inv X pins σ H s→AbQ x v→AbQ y u→t x y H Q →
  wpAny (model X.prog X.w) X.A (inplaceOp op v u) (EP X pins σ Q) X.xe s
section
variable {X:Cx} {pos:Pos}
def AjW (i:Nat):TG:=fun v σ H Q=>Q (σ.set i (some v)) H
theorem AoQ {i:Nat} {x:Str} (hN:X.N.Nodup) (hi:X.N[i]?=some x) (hx:Loc X.env.scope x) (hf:X.fn x=true∨X.env.scope.names.lookup x=some .local:=by first | exact .inl rfl | exact .inr rfl | assumption):PG X (.Name x pos) (AjW i):=by
 intro pins s σ H v u Q I r h
 exact wpAny_assign_Name (AkM I hN hi hx r (fun s' I'=>⟨_,H,I',h⟩) hf)
def ArU:TGs:=fun vs σ H Q=>vs=[]∧Q σ H
def AqY (t:TG) (u:TGs):TGs:=fun vs σ H Q=>∃ v r,vs=v :: r∧t v σ H fun σ' H'=>u r σ' H' Q
theorem Afk:PGs X [] ArU:=by
 intro pins s σ H vs us Q I r h
 obtain ⟨e,h⟩:=h
 subst e
 cases r
 exact assignInOrder_nil ⟨σ,H,I,h⟩
theorem AbD {e:Expr} {es:List Expr} {t:TG} {u:TGs} (h1:PG X e t) (h2:PGs X es u)
  (hs:(assignEach (e :: es) X.env).map (·.2)=assign e X.env :: (assignEach es X.env).map (·.2):=by rfl):PGs X (e :: es) (AqY t u):=by
 intro pins s σ H vs us Q I r h
 obtain ⟨v,vr,e1,h⟩:=h
 subst e1
 cases r with
 | cons r rr =>
  rw [hs]
  refine assignInOrder_cons (thn (h1 pins s σ H _ _ _ I r h) fun _ s1 ⟨σ1,H1,I1,q1⟩=>?_)
  exact h2 pins s1 σ1 H1 _ _ Q I1 rr q1
def Ary (K:PySem.W.Frag) (n:Nat) (t:TGs):TG:=fun v σ H Q=>∃ a xs,v=.ref a∧SqT K H a xs∧xs.length=n∧t xs σ H Q
theorem Ajb {es:List Expr} {k:Nat} {t:TGs} {n:Nat} (hc:X.calm=true) (h:PGs X es t)
  (hn:(assignEach es X.env).length=n:=by rfl) (hst:(assignEach es X.env).findIdx? (·.1)=none:=by rfl):PG X (.Tuple es k pos) (Ary X.K n t):=by
 intro pins s σ H v u Q I r hw
 obtain ⟨a,xs,e1,hq,hl,hw⟩:=hw
 subst e1
 cases r
 obtain ⟨its,rv,ht,hz⟩:=I.tuple hq
 refine assign_Tuple_tuple (I.ok.hd hc) ht (by simp [hn,← hl,rv.length]) hst fun h' hx=>?_
 have I1:Inv X pins σ H { s with heap:=h' }:=I.kept (t':=s.toks) fun b o e=>hx b o (Nat.ne_of_lt (Heap.lt_size e)) e
 exact h pins _ σ H xs _ Q I1 (by simpa using rv) hw
def ArV (to ti:TE) (t:ApX):TG:=fun v σ H Q=>to σ H fun o H1=>ti σ H1 fun i H2=>t o i v H2 fun H3=>Q σ H3
theorem Agi {o i:Expr} {to ti:TE} {t:ApX} (ho:PE X o to) (hi:PE X i ti) (hs:AqX X t)
  (ha:∀ v,assign (.Subscript o i pos) X.env v=(do
   let ov ← holding [v] (eval o X.env)
   let iv ← holding [v,ov] (eval i X.env)
   standAt pos
   holding [v,ov,iv] (setItem ov iv v)
   release [v,ov,iv] []):=by intro _; rfl):PG X (.Subscript o i pos) (ArV to ti t):=by
 intro pins s σ H v u Q I r h
 rw [ha]
 refine wpAny_bind (wpAny_holding (thn (ho pins s σ H _ I h) fun ov s1 ⟨x,H1,I1,r1,q1⟩=>?_))
 refine wpAny_bind (wpAny_holding (thn (hi pins s1 σ H1 _ I1 q1) fun iv s2 ⟨y,H2,I2,r2,q2⟩=>?_))
 refine wpAny_bind (wpAny_standAt (wpAny_bind (wpAny_holding (thn (hs pins s2 σ H2 x y v ov iv u _ I2 r1 r2 r q2) fun _ s3 ⟨H3,I3,q3⟩=>?_))))
 exact wpAny_release ⟨σ,H3,I3,q3⟩
def ApY (te:TE) (g:TG):TS:=fun D σ H=>te σ H fun x H1=>g x σ H1 D.nx
theorem AfW {tg e:Expr} {te:TE} {g:TG} (he:PE X e te) (hg:PG X tg g) (hs:swapsWithSole [tg] e pos.line X.env=pure false:=by rfl) (hw:swappedStores [tg] e X.env=pure none:=by rfl)
  (h1:(assignEach [tg] X.env).map (·.2)=[assign tg X.env]:=by rfl):PS X (.Assign [tg] e pos) (ApY te g):=by
 intro pins s σ H D I h
 refine wpAny_Assign_stores (thn (he pins s σ H _ I h) fun v s1 ⟨x,H1,I1,r1,q1⟩=>?_) hs hw
 rw [h1]
 exact thn (hg pins s1 σ H1 x v _ I1 r1 q1) fun _ s2 q=>q
theorem Aoy {i:Nat} {x:Str} {e:Expr} {te:TE} {pos':Pos} (hN:X.N.Nodup) (hi:X.N[i]?=some x) (hx:Loc X.env.scope x) (he:PE X e te) (hs:swapsWith e (some (.Name x pos')) pos.line X.env=pure false:=by rfl) (hf:X.fn x=true∨X.env.scope.names.lookup x=some .local:=by first | exact .inl rfl | exact .inr rfl | assumption) :
  PS X (.Assign [.Name x pos'] e pos) (ApY te (AjW i)):=by
 intro pins s σ H D I h
 refine wpAny_Assign_Name (thn (he pins s σ H _ I h) fun v s1 ⟨y,H1,I1,r1,q1⟩=>?_) hs
 exact AkM I1 hN hi hx r1 (fun s2 I2=>⟨_,H1,I2,q1⟩) hf
def AqZ (to ti te:TE) (tget:V→V→Hp→VK→Prop) (tip:TIp) (tset:ApX):TS:=fun D σ H=>to σ H fun o H1=>ti σ H1 fun i H2=>tget o i H2 fun x H3=>te σ H3 fun y H4=>tip x y H4 fun z H5=>tset o i z H5 fun H6=>D.nx σ H6
def Arz (X:Cx) (t:V→V→Hp→VK→Prop):Prop :=
 ∀ (pins:List (Addr×Obj)) (s:Shared) (σ:St) (H:Hp) (o i:V) (ov iv:Value) (Q:VK),Inv X pins σ H s→AbQ o ov→AbQ i iv→t o i H Q →
  wpAny (model X.prog X.w) X.A (getItem ov iv) (EP X pins σ Q) X.xe s
theorem Aix {o i e:Expr} {to ti te:TE} {tget:V→V→Hp→VK→Prop} {tip:TIp} {tset:ApX} {op:Operator} {tpos:Pos} (ho:PE X o to) (hi:PE X i ti) (hg:Arz X tget) (he:PE X e te) (hp:PIp X op tip) (hs:AqX X tset)
  (ha:∀ ov iv new,augStore i ov iv new=(do holding [new,ov,iv] (setItem ov iv new); release [new,ov,iv] []; pure .next):=by intros; rfl):PS X (.AugAssign (.Subscript o i tpos) op e pos) (AqZ to ti te tget tip tset):=by
 intro pins s σ H D I h
 refine wpAny_AugAssign_SubscriptAny (thn (ho pins s σ H _ I h) fun ov s1 ⟨x1,H1,I1,r1,q1⟩=>?_) ha
 refine thn (hi pins s1 σ H1 _ I1 q1) fun iv s2 ⟨x2,H2,I2,r2,q2⟩=>?_
 refine thn (hg pins s2 σ H2 x1 x2 ov iv _ I2 r1 r2 q2) fun old s3 ⟨x3,H3,I3,r3,q3⟩=>?_
 refine thn (he pins s3 σ H3 _ I3 q3) fun v s4 ⟨x4,H4,I4,r4,q4⟩=>?_
 refine thn (hp pins s4 σ H4 x3 x4 old v _ I4 r3 r4 q4) fun new s5 ⟨x5,H5,I5,r5,q5⟩=>?_
 exact thn (hs pins s5 σ H5 x1 x2 x5 ov iv new _ I5 r1 r2 r5 q5) fun _ s6 ⟨H6,I6,q6⟩=>⟨σ,H6,I6,q6⟩
def ipI (f:Int→Int→Int):TIp:=fun x y H Q=>∃ i j,x=.int i∧y=.int j∧Q (.int (f i j)) H
theorem AkQ:PIp X .Add (ipI fun i j=>i + j):=by
 intro pins s σ H x y v u Q I r1 r2 h
 obtain ⟨i,j,e1,e2,q⟩:=h
 subst e1; subst e2
 obtain ⟨t,rfl⟩:=r1
 obtain ⟨t',rfl⟩:=r2
 exact iadd_int ⟨.int _,H,I.tok _,⟨_,rfl⟩,q⟩
end
section
variable {X:Cx} {pos:Pos}
def ApZ (c:TT) (tb:TS):TS:=fun D σ H=>∃ W:Nat→St→Hp→Prop,(∃ m,W m σ H)∧∀ m σ H,W m σ H →
 c σ H fun b H1=>if b=true then ∃ N:St→Hp→Prop,(∀ σ' H',N σ' H'→∃ m',m' < m∧W m' σ' H')∧tb { D with nx:=N,ct:=N,bk:=D.nx } σ H1 else D.nx σ H1
theorem AkR {c:Expr} {body:List Stmt} {tc:TT} {tb:TS} (hp:PassesOwn (model X.prog X.w) X.A X.env X.xe) (hc:PT X c tc) (hb:PSs X body tb):PS X (.While c body [] pos) (ApZ tc tb):=by
 intro pins s σ H D I h
 obtain ⟨W,⟨m0,w0⟩,turn⟩:=h
 refine wpAny_While (codeAny_whileLoop (fun n s'=>∃ σ' H',Inv X pins σ' H' s'∧W n σ' H') ?_ m0 ⟨σ,H,I,w0⟩)
 rintro n s1 ⟨σ1,H1,I1,w1⟩
 refine wpAny_passesOwn hp (thn (hc pins s1 σ1 H1 _ I1 (turn n σ1 H1 w1)) fun b s2 ⟨H2,I2,q2⟩=>?_)
 cases b with
 | true =>
  obtain ⟨N,hN,q2⟩:=q2
  rw [if_pos rfl]
  refine wpAny_passesOwn hp (thn (hb pins s2 σ1 H2 _ I2 q2) fun f s3 q3=>?_)
  cases f with
  | next =>
   obtain ⟨σ3,H3,I3,n3⟩:=q3
   obtain ⟨m',hm,w3⟩:=hN σ3 H3 n3
   exact ⟨m',hm,σ3,H3,I3,w3⟩
  | cont =>
   obtain ⟨σ3,H3,I3,n3⟩:=q3
   obtain ⟨m',hm,w3⟩:=hN σ3 H3 n3
   exact ⟨m',hm,σ3,H3,I3,w3⟩
  | brk=>exact q3
  | ret v=>exact q3
 | false =>
  rw [if_neg Bool.false_ne_true]
  exact wpAny_execs_nil ⟨σ1,H2,I2,q2⟩
end
structure It where
 go:Nat→Hp→Prop
 yld:Nat→Hp→V→Hp→Prop
 stop:Nat→Hp→Prop
def AjX (X:Cx) (pins:List (Addr×Obj)) (H:Hp) (b:Addr):Prop :=
 H b=none∧b≠X.env.locals∧b ∉ X.fs∧(b∈X.ex∨X.s₀.heap.objs.size≤b)∧(∀ x c,X.env.cells.lookup x=some c→c≠b)∧∀ p∈X.pn++pins,p.1≠b
theorem Inv.fpOk {X:Cx} {pins:List (Addr×Obj)} {σ:St} {H H':Hp} {s:Shared} {b:Addr} (I:Inv X pins σ H s) (hb:s.heap.objs.size≤b) (hn:H' b=none):AjX X pins H' b:=by
 refine ⟨hn,Nat.ne_of_gt (Nat.lt_of_lt_of_le I.lt hb),I.nofs hb,.inr (Nat.le_trans I.sz hb),fun x c e z=>?_,fun p hp z=>?_⟩
 ·obtain ⟨v,q⟩:=I.cell x c e
  exact absurd (Nat.lt_of_lt_of_le q.lt (by rw [z]; exact hb)) (Nat.lt_irrefl _)
 ·exact absurd (Nat.lt_of_lt_of_le (Heap.lt_size (I.pin p hp).1) (by rw [z]; exact hb)) (Nat.lt_irrefl _)
structure AoR (P:Program) (w:World) (K:PySem.W.Frag) (tg:Expr) (J:It) (fp:List Addr) (it:Addr) (tn:Nat→Heap→Prop):Prop where
 mem:it∈fp
 obj:∀ i h,tn i h→∀ b∈fp,∃ o,h.get? b=some o∧∀ v,o.data≠.cell v
 keep:∀ i h h',tn i h→(∀ b∈fp,∀ o,h.get? b=some o→h'.get? b=some o)→tn i h'
 item:∀ (X:Cx),X.prog=P→X.w=w→X.K=K→X.calm=true→∀ (i:Nat) (pins:List (Addr×Obj)) (s:Shared) (σ:St) (H:Hp) (E:Value→Shared→Prop),Inv X pins σ H s→(∀ b∈fp,AjX X pins H b)→tn i s.heap→J.go i H →
  wpAny (model P w) X.A (pyNext (.ref it)) (fun r s1=>∃ u,r=some u ∧
   wpAny (model P w) X.A (letOwnedTupleGo tg (.ref it) u) (fun _ s2=>∃ x H',Inv X pins σ H' s2∧AbQ x u∧J.yld i H x H'∧tn (i + 1) s2.heap∧∀ b∈fp,H' b=none) E s1) E s
 done:∀ (X:Cx),X.prog=P→X.w=w→X.K=K→X.calm=true→∀ (i:Nat) (pins:List (Addr×Obj)) (s:Shared) (σ:St) (H:Hp) (E:Value→Shared→Prop),Inv X pins σ H s→(∀ b∈fp,AjX X pins H b)→tn i s.heap→J.stop i H →
  wpAny (model P w) X.A (pyNext (.ref it)) (fun r s1=>r=none∧Inv X pins σ H s1) E s
 self:∀ (A:Around) (i:Nat) (s:Shared) (Q:Value→Shared→Prop) (E:Value→Shared→Prop),tn i s.heap→Q (.ref it) s→wpAny (model P w) A (pyIter (.ref it)) Q E s
abbrev TI:=St→Hp→(It→Hp→Prop)→Prop
def PIE (X:Cx) (pins:List (Addr×Obj)) (σ:St) (tg:Expr) (R:It→Hp→Prop) (itv:Value) (s2:Shared):Prop :=
 ∃ (it:Addr) (fp:List Addr) (tn:Nat→Heap→Prop) (J:It) (H':Hp),itv=.ref it∧Inv X pins σ H' s2∧AoR X.prog X.w X.K tg J fp it tn∧tn 0 s2.heap∧(∀ b∈fp,AjX X pins H' b)∧R J H'
def PI (X:Cx) (tg iter:Expr) (wi:TI):Prop :=
 ∀ (pins:List (Addr×Obj)) (s:Shared) (σ:St) (H:Hp) (R:It→Hp→Prop),Inv X pins σ H s→wi σ H R →
  wpAny (model X.prog X.w) X.A (eval iter X.env) (fun v s1=>wpAny (model X.prog X.w) X.A (pyIter v) (PIE X pins σ tg R) X.xe s1) X.xe s
theorem Ant {M:Model} {A:Around} {E:Value→Shared→Prop} {s:Shared} {tg:Expr} {it:Addr} {u:Value} {o:Obj} {n:String} {vs:Array Value} {Q:Unit→Shared→Prop} (ho:s.heap.get? it=some o) (hc:o.cls=.type n) (hd:o.data=.fields vs)
  (hn:["enumerate","zip","dict_itemiterator","dict_reverseitemiterator","odict_iterator","itertools.zip_longest","itertools.pairwise"].contains n=false) (hQ:Q () s):wpAny M A (letOwnedTupleGo tg (.ref it) u) Q E s:=by
 unfold letOwnedTupleGo
 cases tg <;> first
  | exact wpAny_pure hQ
  | (cases u <;> first
    | exact wpAny_pure hQ
    | (refine wpAny_bind (wpAny_load ho ?_)
       rw [hc,hd]
       show wpAny M A (if (["enumerate","zip","dict_itemiterator","dict_reverseitemiterator","odict_iterator","itertools.zip_longest","itertools.pairwise"].contains n && vs[0]? == some (rawInt _))=true then _ else _) Q E s
       rw [if_neg (by intro h; rw [hn,Bool.false_and] at h; cases h)]
       exact wpAny_pure hQ))
def Itl (K:PySem.W.Frag) (a:Addr):It :=
 ⟨fun i H=>∃ xs x,SqL K H a xs∧xs[i]?=some x,fun i H x H'=>H'=H∧∀ xs,SqL K H a xs→xs[i]?=some x,fun i H=>∃ xs,SqL K H a xs∧xs.length≤i⟩
def Itt (K:PySem.W.Frag) (a:Addr):It :=
 ⟨fun i H=>∃ xs x,SqT K H a xs∧xs[i]?=some x,fun i H x H'=>H'=H∧∀ xs,SqT K H a xs→xs[i]?=some x,fun i H=>∃ xs,SqT K H a xs∧xs.length≤i⟩
def Itr (lo:Int) (n:Nat):It:=⟨fun i _=>i < n,fun i H x H'=>H'=H∧x=.int (lo + i),fun i _=>n≤i⟩
theorem AlT {P:Program} {w:World} {K:PySem.W.Frag} {tg:Expr} (a it:Addr):AoR P w K tg (Itl K a) [it] it (fun i h=>h.IsListIter it a i) where
 mem:=by simp
 obj:=fun i h st b hb=>by
  have e:b=it:=by simpa using hb
  subst e
  obtain ⟨o,e,c,d⟩:=st
  exact ⟨o,e,fun v z=>by rw [d] at z; cases z⟩
 keep:=fun i h h' st k=>st.at fun o e=>k it (by simp) o e
 item:=by
  intro X hP hw hK hc i pins s σ H E I hf st hg
  subst hP hw hK
  obtain ⟨xs,x,hq,hx⟩:=hg
  obtain ⟨its,rv,p,hz⟩:=I.list hq
  obtain ⟨u,hu,ru⟩:=rv.get hx
  obtain ⟨f0,f1,f2,f3,f4,f5⟩:=hf it (by simp)
  refine wpAny_pyNext_list_item st p.isList (x:=u) (by simpa using hu) fun h' st' sb=>?_
  have I1:Inv X pins σ H { s with heap:=h' }:=I.turned (t':=s.toks) (fun b o hb e=>(sb.2 b hb).trans e) f0 f1 f3 f4 f5
  obtain ⟨o,e,c,d⟩:=id st'
  exact ⟨u,rfl,Ant (s:={ s with heap:=h' }) e c d (by decide) ⟨x,H,I1,ru,⟨rfl,fun ys hy=>by rw [I.list_inj hy hq]; exact hx⟩,st',fun b hb=>(hf b hb).1⟩⟩
 done:=by
  intro X hP hw hK hc i pins s σ H E I hf st hg
  subst hP hw hK
  obtain ⟨xs,hq,hx⟩:=hg
  obtain ⟨its,rv,p,hz⟩:=I.list hq
  obtain ⟨f0,f1,f2,f3,f4,f5⟩:=hf it (by simp)
  have hl:=rv.length
  exact wpAny_pyNext_list_end (I.ok.hd hc) st p.isList (by simp; omega) fun h' eb=>⟨rfl,I.turned (t':=s.toks) (fun b o hb e=>eb b o hb e) f0 f1 f3 f4 f5⟩
 self:=fun _ _ _ _ _ st h=>wpAny_pyIter_listiter st h
theorem Alf {P:Program} {w:World} {K:PySem.W.Frag} {tg:Expr} (a it:Addr):AoR P w K tg (Itt K a) [it] it (fun i h=>h.IsTupleIter it a i) where
 mem:=by simp
 obj:=fun i h st b hb=>by
  have e:b=it:=by simpa using hb
  subst e
  obtain ⟨o,e,c,d⟩:=st
  exact ⟨o,e,fun v z=>by rw [d] at z; cases z⟩
 keep:=fun i h h' st k=>st.at fun o e=>k it (by simp) o e
 item:=by
  intro X hP hw hK hc i pins s σ H E I hf st hg
  subst hP hw hK
  obtain ⟨xs,x,hq,hx⟩:=hg
  obtain ⟨its,rv,p,hz⟩:=I.tuple hq
  obtain ⟨u,hu,ru⟩:=rv.get hx
  obtain ⟨f0,f1,f2,f3,f4,f5⟩:=hf it (by simp)
  refine wpAny_pyNext_tuple_item st (show s.heap.IsTuple a its.toArray from p) (x:=u) (by simpa using hu) fun h' st' sb=>?_
  have I1:Inv X pins σ H { s with heap:=h' }:=I.turned (t':=s.toks) (fun b o hb e=>(sb.2 b hb).trans e) f0 f1 f3 f4 f5
  obtain ⟨o,e,c,d⟩:=id st'
  exact ⟨u,rfl,Ant (s:={ s with heap:=h' }) e c d (by decide) ⟨x,H,I1,ru,⟨rfl,fun ys hy=>by rw [I.tuple_inj hy hq]; exact hx⟩,st',fun b hb=>(hf b hb).1⟩⟩
 done:=by
  intro X hP hw hK hc i pins s σ H E I hf st hg
  subst hP hw hK
  obtain ⟨xs,hq,hx⟩:=hg
  obtain ⟨its,rv,p,hz⟩:=I.tuple hq
  obtain ⟨f0,f1,f2,f3,f4,f5⟩:=hf it (by simp)
  have hl:=rv.length
  exact wpAny_pyNext_tuple_end (I.ok.hd hc) st (show s.heap.IsTuple a its.toArray from p) (by simp; omega) fun h' eb=>⟨rfl,I.turned (t':=s.toks) (fun b o hb e=>eb b o hb e) f0 f1 f3 f4 f5⟩
 self:=fun _ _ _ _ _ st h=>wpAny_pyIter_tupleiter st h
theorem Alg {P:Program} {w:World} {K:PySem.W.Frag} {tg:Expr} (it:Addr) (lo:Int) (n:Nat):AoR P w K tg (Itr lo n) [it] it (fun i h=>IsRangeIter h it (lo + (i:Nat) * 1) ((n:Int) - (i:Nat)) 1) where
 mem:=by simp
 obj:=fun i h st b hb=>by
  have e:b=it:=by simpa using hb
  subst e
  exact ⟨_,st,fun v z=>by
   have z':Data.fields _=Data.cell v:=z
   cases z'⟩
 keep:=fun i h h' st k=>k it (by simp) _ st
 item:=by
  intro X hP hw hK hc i pins s σ H E I hf st hg
  subst hP hw hK
  obtain ⟨f0,f1,f2,f3,f4,f5⟩:=hf it (by simp)
  have W:=Walks.range (prog:=X.prog) (w:=X.w) (I.ok.hd hc) it lo 1 n
  refine W.item i s _ _ hg st fun v h' tk hv st' kk=>?_
  obtain ⟨t,rfl⟩:=hv
  have I1:Inv X pins σ H { s with heap:=h',toks:=tk }:=I.turned (fun b o hb e=>kk b o (by simpa using hb) e) f0 f1 f3 f4 f5
  refine ⟨_,rfl,Ant (s:={ s with heap:=h',toks:=tk }) (n:="range_iterator") st' rfl rfl (by decide) ⟨.int (lo + i),H,I1,⟨t,?_⟩,⟨rfl,rfl⟩,st',fun b hb=>(hf b hb).1⟩⟩
  rw [Int.mul_one]
 done:=by
  intro X hP hw hK hc i pins s σ H E I hf st hg
  subst hP hw hK
  obtain ⟨f0,f1,f2,f3,f4,f5⟩:=hf it (by simp)
  exact wpAny_pyNext_range_end (I.ok.hd hc) st (by have:n≤i:=hg; omega) fun h' eb=>⟨rfl,I.turned (t':=s.toks) (fun b o hb e=>eb b o hb e) f0 f1 f3 f4 f5⟩
 self:=fun _ _ _ _ _ st h=>wpAny_pyIter_rangeiter st h
end L2
namespace L2
open PySem PySem.Spec PyProof.Rows
section
variable {X:Cx} {tg:Expr}
def Aq0 (K:PySem.W.Frag) (tl:TE):TI:=fun σ H R=>tl σ H fun x H1=>∃ a,x=.ref a∧(∃ xs,SqL K H1 a xs)∧R (Itl K a) H1
def ArW (K:PySem.W.Frag) (tl:TE):TI:=fun σ H R=>tl σ H fun x H1=>∃ a,x=.ref a∧(∃ xs,SqT K H1 a xs)∧R (Itt K a) H1
theorem Aeh {l:Expr} {tl:TE} (hl:PE X l tl):PI X tg l (Aq0 X.K tl):=by
 intro pins s σ H R I h
 refine thn (hl pins s σ H _ I h) fun v s1 ⟨x,H1,I1,r1,q1⟩=>?_
 obtain ⟨a,e,⟨xs,hq⟩,q⟩:=q1
 subst e
 cases r1
 obtain ⟨its,rv,p,hz⟩:=I1.list hq
 refine wpAny_pyIter_list p.isList ?_
 refine ⟨s1.heap.objs.size,[s1.heap.objs.size],_,_,H1,rfl,I1.kept (t':=s1.toks) fun b o e=>Heap.get?_push_of_some _ e,AlT a _,⟨_,Heap.get?_push_size _ rfl,rfl,rfl⟩,fun b hb=>?_,q⟩
 have e:b=s1.heap.objs.size:=by simpa using hb
 subst e
 exact I1.fpOk (Nat.le_refl _) (I1.hok.fresh (Nat.le_refl _))
theorem Aoz {l:Expr} {tl:TE} (hl:PE X l tl):PI X tg l (ArW X.K tl):=by
 intro pins s σ H R I h
 refine thn (hl pins s σ H _ I h) fun v s1 ⟨x,H1,I1,r1,q1⟩=>?_
 obtain ⟨a,e,⟨xs,hq⟩,q⟩:=q1
 subst e
 cases r1
 obtain ⟨its,rv,p,hz⟩:=I1.tuple hq
 refine wpAny_pyIter_tuple (show s1.heap.IsTuple a its.toArray from p) ?_
 refine ⟨s1.heap.objs.size,[s1.heap.objs.size],_,_,H1,rfl,I1.kept (t':=s1.toks) fun b o e=>Heap.get?_push_of_some _ e,Alf a _,⟨_,Heap.get?_push_size _ rfl,rfl,rfl⟩,fun b hb=>?_,q⟩
 have e:b=s1.heap.objs.size:=by simpa using hb
 subst e
 exact I1.fpOk (Nat.le_refl _) (I1.hok.fresh (Nat.le_refl _))
theorem Anu {pins:List (Addr×Obj)} {σ:St} {H:Hp} {s:Shared} {R:It→Hp→Prop} {E:Value→Shared→Prop} {lo hi:Int} {t u v:Tok} {tk:Nat} (I:Inv X pins σ H s) (h1:-(2 ^ 62)≤lo) (h2:lo < 2 ^ 62) (h3:-(2 ^ 62)≤hi) (h4:hi < 2 ^ 62)
  (q:R (Itr lo (hi - lo).toNat) H):wpAny (model X.prog X.w) X.A (pyIter (.ref s.heap.objs.size)) (PIE X pins σ tg R) E { s with heap:=s.heap.push { cls:=.type "range",data:=.fields #[.int lo t,.int hi u,.int 1 v] },toks:=tk }:=by
 refine wpAny_pyIter_range (IsRange.new ..) (small_one h1 h2 h3 h4) ?_
 have I1:Inv X pins σ H { s with heap:=s.heap.push { cls:=.type "range",data:=.fields #[.int lo t,.int hi u,.int 1 v] },toks:=tk }:=I.kept fun b o e=>Heap.get?_push_of_some _ e
 refine ⟨(s.heap.push { cls:=.type "range",data:=.fields #[.int lo t,.int hi u,.int 1 v] }).objs.size,[(s.heap.push { cls:=.type "range",data:=.fields #[.int lo t,.int hi u,.int 1 v] }).objs.size],_,_,H,rfl,
  I1.kept (t':=tk) fun b o e=>Heap.get?_push_of_some _ e,Alg _ lo (hi - lo).toNat,?_,fun b hb=>?_,q⟩
 ·have e1:lo + ((0:Nat):Int) * 1=lo:=by simp
  have e2:(((hi - lo).toNat:Nat):Int) - ((0:Nat):Int)=Builtin.Range.rangeSize lo hi 1:=by rw [rangeSize_one]; split <;> omega
  show IsRangeIter _ _ (lo + ((0:Nat):Int) * 1) ((((hi - lo).toNat:Nat):Int) - ((0:Nat):Int)) 1
  rw [e1,e2]
  exact Heap.get?_push_size _ rfl
 ·have e:b=(s.heap.push { cls:=.type "range",data:=.fields #[.int lo t,.int hi u,.int 1 v] }).objs.size:=by simpa using hb
  subst e
  exact I1.fpOk (Nat.le_refl _) (I1.hok.fresh (Nat.le_refl _))
def Ap0 (ta:TA):TI:=fun σ H R=>ta σ H fun vs H1=>∃ j:Int,vs=[.int j]∧-(2 ^ 62)≤j∧j < 2 ^ 62∧R (Itr 0 j.toNat) H1
theorem AlU {a:Expr} {ta:TA} {p pos:Pos} (hg:Gl X "range") (hm:X.mg "range"=none) (ha:PA X [a] ta) (hs:starEach [a] X.env=[(false,eval a X.env)]:=by rfl):PI X tg (.Call (.Name "range" p) [a] [] pos) (Ap0 ta):=by
 intro pins s σ H R I h
 refine Call_ (Aib I hg hm boot_range (PyProof.Rows.callWith_type1 (thn (ha pos pins s σ H _ I h) fun us s1 ⟨vs,H1,I1,r1,q1⟩=>?_) hs rfl))
 obtain ⟨j,e,q1,q2,q⟩:=q1
 subst e
 cases r1 with
 | cons r rr =>
  cases rr
  obtain ⟨t,rfl⟩:=r
  exact call_range_1 (Anu I1 (by omega) (by omega) q1 q2 (by simpa using q))
def ArX (wi:TI) (g:TG) (tb:TS):TS:=fun D σ H=>wi σ H fun J H1=>∃ W:Nat→Nat→St→Hp→Prop,(∃ m,W 0 m σ H1)∧∀ i m σ H,W i m σ H →
 (J.stop i H∧D.nx σ H)∨(J.go i H∧∃ N:St→Hp→Prop,(∀ σ' H',N σ' H'→∃ m',m' < m∧W (i + 1) m' σ' H')∧∀ x H',J.yld i H x H'→g x σ H' fun σ2 H2=>tb { D with nx:=N,ct:=N,bk:=D.nx } σ2 H2)
def Ahp (fp:List Addr) (h:Heap):List (Addr×Obj):=fp.filterMap fun b=>(h.get? b).map fun o=>(b,o)
theorem Acv {fp:List Addr} {h:Heap} {b:Addr} {o:Obj} (hb:b∈fp) (e:h.get? b=some o):(b,o)∈Ahp fp h:=List.mem_filterMap.mpr ⟨b,hb,by rw [e]; rfl⟩
theorem AlV {fp:List Addr} {h:Heap} {p:Addr×Obj} (hp:p∈Ahp fp h):p.1∈fp∧h.get? p.1=some p.2:=by
 obtain ⟨b,hb,e⟩:=List.mem_filterMap.mp hp
 cases q:h.get? b with
 | none=>rw [q] at e; cases e
 | some o =>
  rw [q] at e
  have e':(b,o)=p:=Option.some.inj e
  subst e'
  exact ⟨hb,q⟩
theorem Inv.pinned {pins:List (Addr×Obj)} {σ:St} {H:Hp} {s:Shared} {fp:List Addr} (I:Inv X pins σ H s) (hf:∀ b∈fp,AjX X pins H b) (ho:∀ b∈fp,∃ o,s.heap.get? b=some o∧∀ v,o.data≠.cell v):Inv X (pins++Ahp fp s.heap) σ H s :=
 I.pins_of fun p hp=>(List.mem_append.mp hp).elim (fun z=>I.pin p (List.mem_append_right _ z)) fun z=>by
  obtain ⟨hb,e⟩:=AlV z
  obtain ⟨f0,f1,f2,_⟩:=hf p.1 hb
  obtain ⟨o,e',d⟩:=ho p.1 hb
  rw [e] at e'; cases e'
  exact ⟨e,f0,f1,f2,d⟩
theorem Inv.unpinned {pins pl:List (Addr×Obj)} {σ:St} {H:Hp} {s:Shared} (I:Inv X (pins++pl) σ H s):Inv X pins σ H s:=I.pins_of fun p hp=>I.pin p (List.mem_append_right _ (List.mem_append_left _ hp))
theorem Ae3 {iter:Expr} {body:List Stmt} {wi:TI} {g:TG} {tb:TS} {pos:Pos} (hp:PassesOwn (model X.prog X.w) X.A X.env X.xe) (hc:X.calm=true) (hi:PI X tg iter wi) (hg:PG X tg g) (hb:PSs X body tb)
  (hs:∀ x,foldedSetIterable iter X.env x=pure x:=by intro _; rfl):PS X (.For tg iter body [] pos) (ArX wi g tb):=by
 intro pins s σ H D I h
 refine wpAny_For (thn (hi pins s σ H _ I h) fun v s1 h1=>thn h1 fun itv s2 h2=>?_) hs
 obtain ⟨it,fp,tn,J,H2,e,I2,T,st2,f2,W,⟨m0,w0⟩,turn⟩:=h2
 subst e
 have stat:∀ {H':Hp},(∀ b∈fp,H' b=none)→∀ b∈fp,AjX X pins H' b:=fun hn b hb=>⟨hn b hb,(f2 b hb).2⟩
 refine codeAny_forLoop_any (fun n s'=>∃ i σ' H',Inv X pins σ' H' s'∧tn i s'.heap∧(∀ b∈fp,H' b=none)∧W i n σ' H') ?_ m0 ⟨0,σ,H2,I2,st2,fun b hb=>(f2 b hb).1,w0⟩
 rintro n s3 ⟨i,σ3,H3,I3,st3,fr3,w3⟩
 rcases turn i n σ3 H3 w3 with ⟨stop,qn⟩ | ⟨go,N,hN,step⟩
 ·refine wpAny_passesOwn hp (thn (T.done X rfl rfl rfl hc i pins s3 σ3 H3 X.xe I3 (stat fr3) st3 stop) fun r s4 ⟨hr,I4⟩=>?_)
  subst hr
  exact wpAny_execs_nil ⟨σ3,H3,I4,qn⟩
 ·refine wpAny_passesOwn hp (thn (T.item X rfl rfl rfl hc i pins s3 σ3 H3 X.xe I3 (stat fr3) st3 go) fun r s4 ⟨u,hr,h4⟩=>?_)
  subst hr
  refine wpAny_passesOwn hp (thn h4 fun _ s5 ⟨x,H5,I5,r5,y5,st5,fr5⟩=>?_)
  have I5':=I5.pinned (stat fr5) (T.obj _ _ st5)
  refine wpAny_passesOwn hp (thn (hg _ s5 σ3 H5 x u _ I5' r5 (step x H5 y5)) fun _ s6 ⟨σ6,H6,I6,q6⟩=>?_)
  refine wpAny_passesOwn hp (thn (hb _ s6 σ6 H6 _ I6 q6) fun f s7 q7=>?_)
  have again:∀ {σ7:St} {H7:Hp},Inv X (pins++Ahp fp s5.heap) σ7 H7 s7→N σ7 H7→∃ m,m < n∧∃ i σ' H',Inv X pins σ' H' s7∧tn i s7.heap∧(∀ b∈fp,H' b=none)∧W i m σ' H':=fun {σ7 H7} I7 n7=>by
   obtain ⟨m',hm,w7⟩:=hN σ7 H7 n7
   refine ⟨m',hm,i + 1,σ7,H7,I7.unpinned,T.keep _ _ _ st5 fun b hb o e=>(I7.pin (b,o) (List.mem_append_right _ (List.mem_append_right _ (Acv hb e)))).1,fun b hb=>?_,w7⟩
   obtain ⟨o,e,d⟩:=T.obj _ _ st5 b hb
   exact (I7.pin (b,o) (List.mem_append_right _ (List.mem_append_right _ (Acv hb e)))).2.1
  cases f with
  | next=>obtain ⟨σ7,H7,I7,n7⟩:=q7; exact again I7 n7
  | cont=>obtain ⟨σ7,H7,I7,n7⟩:=q7; exact again I7 n7
  | brk=>obtain ⟨σ7,H7,I7,q7⟩:=q7; exact ⟨σ7,H7,I7.unpinned,q7⟩
  | ret v=>obtain ⟨x7,σ7,H7,I7,r7,q7⟩:=q7; exact ⟨x7,σ7,H7,I7.unpinned,r7,q7⟩
end
theorem AeL {K:PySem.W.Frag} {a:Addr} {xs:List V} {g:TG} {tb:TS} {D:AkN} {σ:St} {H:Hp} (Pv:Nat→St→Hp→Prop) (h0:Pv 0 σ H) (hl:∀ i σ H,i≤xs.length→Pv i σ H→SqL K H a xs)
  (hs:∀ i x σ H,xs[i]?=some x→Pv i σ H→g x σ H fun σ2 H2=>tb { D with nx:=Pv (i + 1),ct:=Pv (i + 1),bk:=D.nx } σ2 H2) (hd:∀ σ H,Pv xs.length σ H→D.nx σ H) :
  ∃ W:Nat→Nat→St→Hp→Prop,(∃ m,W 0 m σ H)∧∀ i m σ H,W i m σ H →
   ((Itl K a).stop i H∧D.nx σ H)∨((Itl K a).go i H∧∃ N:St→Hp→Prop,(∀ σ' H',N σ' H'→∃ m',m' < m∧W (i + 1) m' σ' H')∧∀ x H',(Itl K a).yld i H x H'→g x σ H' fun σ2 H2=>tb { D with nx:=N,ct:=N,bk:=D.nx } σ2 H2):=by
 refine ⟨fun i m σ H=>m=xs.length - i∧i≤xs.length∧Pv i σ H,⟨xs.length,by simp,Nat.zero_le _,h0⟩,?_⟩
 rintro i m σ H ⟨rfl,hi,p⟩
 have q:=hl i σ H hi p
 by_cases hlt:i < xs.length
 ·refine .inr ⟨⟨xs,xs[i],q,by simp [hlt]⟩,Pv (i + 1),fun σ' H' p'=>⟨xs.length - (i + 1),by omega,rfl,hlt,p'⟩,fun x H' y=>?_⟩
  obtain ⟨e,y⟩:=y
  subst e
  exact hs i x σ _ (y xs q) p
 ·have e:i=xs.length:=by omega
  subst e
  exact .inl ⟨⟨xs,q,Nat.le_refl _⟩,hd σ H p⟩
theorem AoS {K:PySem.W.Frag} {a:Addr} {xs:List V} {g:TG} {tb:TS} {D:AkN} {σ:St} {H:Hp} (Pv:Nat→St→Hp→Prop) (h0:Pv 0 σ H) (hl:∀ i σ H,i≤xs.length→Pv i σ H→SqT K H a xs)
  (hs:∀ i x σ H,xs[i]?=some x→Pv i σ H→g x σ H fun σ2 H2=>tb { D with nx:=Pv (i + 1),ct:=Pv (i + 1),bk:=D.nx } σ2 H2) (hd:∀ σ H,Pv xs.length σ H→D.nx σ H) :
  ∃ W:Nat→Nat→St→Hp→Prop,(∃ m,W 0 m σ H)∧∀ i m σ H,W i m σ H →
   ((Itt K a).stop i H∧D.nx σ H)∨((Itt K a).go i H∧∃ N:St→Hp→Prop,(∀ σ' H',N σ' H'→∃ m',m' < m∧W (i + 1) m' σ' H')∧∀ x H',(Itt K a).yld i H x H'→g x σ H' fun σ2 H2=>tb { D with nx:=N,ct:=N,bk:=D.nx } σ2 H2):=by
 refine ⟨fun i m σ H=>m=xs.length - i∧i≤xs.length∧Pv i σ H,⟨xs.length,by simp,Nat.zero_le _,h0⟩,?_⟩
 rintro i m σ H ⟨rfl,hi,p⟩
 have q:=hl i σ H hi p
 by_cases hlt:i < xs.length
 ·refine .inr ⟨⟨xs,xs[i],q,by simp [hlt]⟩,Pv (i + 1),fun σ' H' p'=>⟨xs.length - (i + 1),by omega,rfl,hlt,p'⟩,fun x H' y=>?_⟩
  obtain ⟨e,y⟩:=y
  subst e
  exact hs i x σ _ (y xs q) p
 ·have e:i=xs.length:=by omega
  subst e
  exact .inl ⟨⟨xs,q,Nat.le_refl _⟩,hd σ H p⟩
theorem Ahq {lo:Int} {n:Nat} {g:TG} {tb:TS} {D:AkN} {σ:St} {H:Hp} (Pv:Nat→St→Hp→Prop) (h0:Pv 0 σ H)
  (hs:∀ i σ H,i < n→Pv i σ H→g (.int (lo + i)) σ H fun σ2 H2=>tb { D with nx:=Pv (i + 1),ct:=Pv (i + 1),bk:=D.nx } σ2 H2) (hd:∀ σ H,Pv n σ H→D.nx σ H) :
  ∃ W:Nat→Nat→St→Hp→Prop,(∃ m,W 0 m σ H)∧∀ i m σ H,W i m σ H →
   ((Itr lo n).stop i H∧D.nx σ H)∨((Itr lo n).go i H∧∃ N:St→Hp→Prop,(∀ σ' H',N σ' H'→∃ m',m' < m∧W (i + 1) m' σ' H')∧∀ x H',(Itr lo n).yld i H x H'→g x σ H' fun σ2 H2=>tb { D with nx:=N,ct:=N,bk:=D.nx } σ2 H2):=by
 refine ⟨fun i m σ H=>m=n - i∧i≤n∧Pv i σ H,⟨n,by simp,Nat.zero_le _,h0⟩,?_⟩
 rintro i m σ H ⟨rfl,hi,p⟩
 by_cases hlt:i < n
 ·refine .inr ⟨hlt,Pv (i + 1),fun σ' H' p'=>⟨n - (i + 1),by omega,rfl,hlt,p'⟩,fun x H' y=>?_⟩
  obtain ⟨e,y⟩:=y
  subst e y
  exact hs i σ _ hlt p
 ·have e:i=n:=by omega
  subst e
  exact .inl ⟨Nat.le_refl _,hd σ H p⟩
end L2
namespace L2
open PySem PySem.Spec PyProof.Rows
abbrev R2:=V→V→Hp→VK→Prop
def OpR (X:Cx) (f:Value→Value→Sem Value) (r:R2):Prop :=
 ∀ (pins:List (Addr×Obj)) (s:Shared) (σ:St) (H:Hp) (x y:V) (v u:Value) (Q:VK),Inv X pins σ H s→AbQ x v→AbQ y u→r x y H Q →
  wpAny (model X.prog X.w) X.A (f v u) (EP X pins σ Q) X.xe s
def AcA (X:Cx) (f:Value) (r:List V→Hp→VK→Prop):Prop :=
 ∀ (pins:List (Addr×Obj)) (s:Shared) (σ:St) (H:Hp) (xs:List V) (us:List Value) (Q:VK),Inv X pins σ H s→Aba xs us→r xs H Q →
  wpAny (model X.prog X.w) X.A (call f us) (EP X pins σ Q) X.xe s
def ArY (X:Cx) (r:V→Hp→(Bool→Hp→Prop)→Prop):Prop :=
 ∀ (pins:List (Addr×Obj)) (s:Shared) (σ:St) (H:Hp) (x:V) (v:Value) (Q:Bool→Hp→Prop),Inv X pins σ H s→AbQ x v→r x H Q →
  wpAny (model X.prog X.w) X.A (truthy v) (TP X pins σ Q) X.xe s
def tOp (r:R2) (ta tb:TE):TE:=fun σ H Q=>ta σ H fun x H1=>tb σ H1 fun y H2=>r x y H2 Q
def rI (C:Int→Int→Prop) (g:Int→Int→V):R2:=fun x y H Q=>∃ i j,x=.int i∧y=.int j∧C i j∧Q (g i j) H
def rI0 (g:Int→Int→V):R2:=fun x y H Q=>∃ i j,x=.int i∧y=.int j∧Q (g i j) H
section
variable {X:Cx} {a b c:Expr} {ta tb tc:TE} {pos:Pos}
theorem Aq1 (ha:PE X a ta) (hb:PE X b tb) {pins:List (Addr×Obj)} {s:Shared} {σ:St} {H:Hp} {R:V→V→Hp→Prop} (I:Inv X pins σ H s)
  (h:ta σ H fun x H1=>tb σ H1 fun y H2=>R x y H2) {Q:Value→Shared→Prop} {f:Value→Value→Sem Value}
  (hf:∀ v u s2 x y H2,Inv X pins σ H2 s2→AbQ x v→AbQ y u→R x y H2→wpAny (model X.prog X.w) X.A (f v u) Q X.xe s2) :
  wpAny (model X.prog X.w) X.A (eval a X.env) (fun v s₁=>wpAny (model X.prog X.w) X.A (eval b X.env) (fun u s₂=>wpAny (model X.prog X.w) X.A (f v u) Q X.xe s₂) X.xe s₁) X.xe s:=by
 refine thn (ha pins s σ H _ I h) fun v s1 ⟨x,H1,I1,r1,q1⟩=>?_
 refine thn (hb pins s1 σ H1 _ I1 q1) fun u s2 ⟨y,H2,I2,r2,q2⟩=>?_
 exact hf v u s2 x y H2 I2 r1 r2 q2
theorem AaD {op:Operator} {r:R2} (ho:OpR X (binaryOp op) r) (ha:PE X a ta) (hb:PE X b tb):PE X (.BinOp a op b pos) (tOp r ta tb):=by
 intro pins s σ H Q I h
 exact wpAny_BinOp (Aq1 ha hb I h fun v u s2 x y H2 I2 rx ry q=>ho pins s2 σ H2 x y v u Q I2 rx ry q)
theorem opI {f:Value→Value→Sem Value} {C:Int→Int→Prop} {g:Int→Int→Int}
  (rule:∀ (i j:Int) (t u:Tok) (s:Shared) (Q:Value→Shared→Prop) (E:Value→Shared→Prop),C i j→Q (.int (g i j) s.toks) { s with toks:=s.toks + 1 }→wpAny (model X.prog X.w) X.A (f (.int i t) (.int j u)) Q E s) :
  OpR X f (rI C fun i j=>.int (g i j)):=by
 intro pins s σ H x y v u Q I rx ry h
 obtain ⟨i,j,rfl,rfl,hc,q⟩:=h
 obtain ⟨t,rfl⟩:=rx
 obtain ⟨t',rfl⟩:=ry
 exact rule i j t t' s _ _ hc ⟨.int (g i j),H,I.tok _,⟨_,rfl⟩,q⟩
theorem ArA {f:Value→Value→Sem Value} {g:Int→Int→Int}
  (rule:∀ (i j:Int) (t u:Tok) (s:Shared) (Q:Value→Shared→Prop) (E:Value→Shared→Prop),Q (.int (g i j) s.toks) { s with toks:=s.toks + 1 }→wpAny (model X.prog X.w) X.A (f (.int i t) (.int j u)) Q E s) :
  OpR X f (rI0 fun i j=>.int (g i j)):=by
 intro pins s σ H x y v u Q I rx ry h
 obtain ⟨i,j,rfl,rfl,q⟩:=h
 obtain ⟨t,rfl⟩:=rx
 obtain ⟨t',rfl⟩:=ry
 exact rule i j t t' s _ _ ⟨.int (g i j),H,I.tok _,⟨_,rfl⟩,q⟩
theorem AqM {f:Value→Value→Sem Value} {g:Int→Int→Bool}
  (rule:∀ (i j:Int) (t u:Tok) (s:Shared) (Q:Value→Shared→Prop) (E:Value→Shared→Prop),Q (.bool (g i j)) s→wpAny (model X.prog X.w) X.A (f (.int i t) (.int j u)) Q E s) :
  OpR X f (rI0 fun i j=>.bl (g i j)):=by
 intro pins s σ H x y v u Q I rx ry h
 obtain ⟨i,j,rfl,rfl,q⟩:=h
 obtain ⟨t,rfl⟩:=rx
 obtain ⟨t',rfl⟩:=ry
 exact rule i j t t' s _ _ ⟨.bl (g i j),H,I,rfl,q⟩
def Ae4 (i j:Int):Prop:=0 < j∧j < 1073741824
def ArZ (i j:Int):Prop:=0≤j∧j≤1000000∧i.natAbs < 2 ^ 64
def Aeq (i j:Int):Prop:=(-(2 ^ 64) < i∧i < 2 ^ 64)∨(-(2 ^ 64) < j∧j < 2 ^ 64)
theorem Aeq.ok {i j:Int} (h:Aeq i j):IntMulOk i j:=by
 rcases h with ⟨h1,h2⟩ | ⟨h1,h2⟩
 ·exact .of_left (intBits_le_64 h1 h2)
 ·exact .of_right (intBits_le_64 h1 h2)
theorem Ap1:OpR X (binaryOp .Add) (rI0 fun i j=>.int (i + j)):=ArA fun _ _ _ _ _ _ _ q=>add_int q
theorem AkS:OpR X (binaryOp .Sub) (rI0 fun i j=>.int (i - j)):=ArA fun _ _ _ _ _ _ _ q=>sub_int q
theorem Ap2:OpR X (binaryOp .Mult) (rI Aeq fun i j=>.int (i * j)):=opI fun _ _ _ _ _ _ _ hc q=>mul_int q hc.ok
theorem Ahr:OpR X (binaryOp .FloorDiv) (rI Ae4 fun i j=>.int (i / j)):=opI fun i j _ _ _ _ _ hc q=>by
 have h1:(0:Int) < j:=hc.1
 have h2:j < 1073741824:=hc.2
 exact floordiv_int (by omega) (by rw [Int.fdiv_eq_ediv_of_nonneg i (by omega)]; exact q) (.inl (PyProof.noPylong_small (by omega)))
theorem Ab1:OpR X (binaryOp .Mod) (rI (fun _ j=>0 < j) fun i j=>.int (i % j)):=opI fun i j _ _ _ _ _ hc q=>by
 have h1:(0:Int) < j:=hc
 exact mod_int' (by omega) (by rw [Int.fmod_eq_emod_of_nonneg i (by omega)]; exact q)
theorem Ap3:OpR X (binaryOp .Pow) (rI ArZ fun i j=>.int (i ^ j.toNat)):=opI fun _ _ _ _ _ _ _ hc q=>pow_int_small hc.1 hc.2.1 hc.2.2 q
end
def ArB:V→V→Bool
 | .non,.non=>true | .non,.int _=>true | .int _,.non=>true | .non,.bl _=>true | .bl _,.non=>true | .non,.str _=>true | .str _,.non=>true
 | .int _,.int _=>true | .bl _,.bl _=>true | .str _,.str _=>true | .byt _,.byt _=>true
 | .int _,.str _=>true | .str _,.int _=>true | .bl _,.str _=>true | .str _,.bl _=>true
 | _,_=>false
def rEq:R2:=fun x y H Q=>ArB x y=true∧Q (.bl (decide (x=y))) H
def rNe:R2:=fun x y H Q=>ArB x y=true∧Q (.bl (!decide (x=y))) H
theorem AlW {i j:Int}:decide (V.int i=V.int j)=(i == j):=by
 rw [Bool.eq_iff_iff]
 simp
theorem AoA {i j:Bool}:decide (V.bl i=V.bl j)=(i == j):=by
 rw [Bool.eq_iff_iff]
 simp
theorem AlX {i j:Str}:decide (V.str i=V.str j)=(i == j):=by
 rw [Bool.eq_iff_iff]
 simp
theorem AlY {i j:Array UInt8}:decide (V.byt i=V.byt j)=(i.toList == j.toList):=by
 rw [Bool.eq_iff_iff]
 cases i
 cases j
 simp
section
variable {X:Cx} {a b c:Expr} {ta tb tc:TE} {pos:Pos}
theorem Aa2 {pins:List (Addr×Obj)} {σ:St} {H:Hp} {s:Shared} {Q:VK} {k k':Bool} (I:Inv X pins σ H s) (q:Q (.bl k) H) (e:k=k'):EP X pins σ Q (.bool k') s:=by
 subst e
 exact ⟨.bl k,H,I,rfl,q⟩
theorem Aq2:OpR X (compareOp .Eq) rEq:=by
 intro pins s σ H x y v u Q I rx ry h
 obtain ⟨hs,q⟩:=h
 cases x with
 | non =>
  cases rx
  cases y with
  | non=>cases ry; exact PySem.EqNone.eq_none_none (Aa2 I q (by simp))
  | bl j=>cases ry; exact PySem.EqNone.eq_none_bool (Aa2 I q (by simp))
  | int j=>obtain ⟨t',rfl⟩:=ry; exact PySem.EqNone.eq_none_int (Aa2 I q (by simp))
  | str j=>obtain ⟨t',rfl⟩:=ry; exact PySem.EqNone.eq_none_str (Aa2 I q (by simp))
  | _=>exact absurd (show false=true from hs) Bool.false_ne_true
 | bl i =>
  cases rx
  cases y with
  | non=>cases ry; exact PySem.EqNone.eq_bool_none (Aa2 I q (by simp))
  | bl j=>cases ry; exact eq_bool (Aa2 I q AoA)
  | str j=>obtain ⟨t',rfl⟩:=ry; exact PySem.EqMixed.eq_bool_str (Aa2 I q (by simp))
  | _=>exact absurd (show false=true from hs) Bool.false_ne_true
 | int i =>
  obtain ⟨t,rfl⟩:=rx
  cases y with
  | non=>cases ry; exact PySem.EqNone.eq_int_none (Aa2 I q (by simp))
  | int j=>obtain ⟨t',rfl⟩:=ry; exact eq_int (Aa2 I q AlW)
  | str j=>obtain ⟨t',rfl⟩:=ry; exact PySem.EqMixed.eq_int_str (Aa2 I q (by simp))
  | _=>exact absurd (show false=true from hs) Bool.false_ne_true
 | str i =>
  obtain ⟨t,rfl⟩:=rx
  cases y with
  | non=>cases ry; exact PySem.EqNone.eq_str_none (Aa2 I q (by simp))
  | bl j=>cases ry; exact PySem.EqMixed.eq_str_bool (Aa2 I q (by simp))
  | int j=>obtain ⟨t',rfl⟩:=ry; exact PySem.EqMixed.eq_str_int (Aa2 I q (by simp))
  | str j=>obtain ⟨t',rfl⟩:=ry; exact eq_str (Aa2 I q AlX)
  | _=>exact absurd (show false=true from hs) Bool.false_ne_true
 | byt i =>
  obtain ⟨t,rfl⟩:=rx
  cases y with
  | byt j=>obtain ⟨t',rfl⟩:=ry; exact PySem.W.eq_bytes (Aa2 I q AlY)
  | _=>exact absurd (show false=true from hs) Bool.false_ne_true
 | _=>cases y <;> exact absurd (show false=true from hs) Bool.false_ne_true
theorem Aq3:OpR X (compareOp .NotEq) rNe:=by
 intro pins s σ H x y v u Q I rx ry h
 obtain ⟨hs,q⟩:=h
 cases x with
 | non =>
  cases rx
  cases y with
  | non=>cases ry; exact PySem.EqNone.ne_none_none (Aa2 I q (by simp))
  | bl j=>cases ry; exact PySem.EqNone.ne_none_bool (Aa2 I q (by simp))
  | int j=>obtain ⟨t',rfl⟩:=ry; exact PySem.EqNone.ne_none_int (Aa2 I q (by simp))
  | str j=>obtain ⟨t',rfl⟩:=ry; exact PySem.EqNone.ne_none_str (Aa2 I q (by simp))
  | _=>exact absurd (show false=true from hs) Bool.false_ne_true
 | bl i =>
  cases rx
  cases y with
  | non=>cases ry; exact PySem.EqNone.ne_bool_none (Aa2 I q (by simp))
  | bl j=>cases ry; exact ne_bool (Aa2 I q (congrArg not AoA))
  | str j=>obtain ⟨t',rfl⟩:=ry; exact PySem.EqMixed.ne_bool_str (Aa2 I q (by simp))
  | _=>exact absurd (show false=true from hs) Bool.false_ne_true
 | int i =>
  obtain ⟨t,rfl⟩:=rx
  cases y with
  | non=>cases ry; exact PySem.EqNone.ne_int_none (Aa2 I q (by simp))
  | int j=>obtain ⟨t',rfl⟩:=ry; exact ne_int (Aa2 I q (congrArg not AlW))
  | str j=>obtain ⟨t',rfl⟩:=ry; exact PySem.EqMixed.ne_int_str (Aa2 I q (by simp))
  | _=>exact absurd (show false=true from hs) Bool.false_ne_true
 | str i =>
  obtain ⟨t,rfl⟩:=rx
  cases y with
  | non=>cases ry; exact PySem.EqNone.ne_str_none (Aa2 I q (by simp))
  | bl j=>cases ry; exact PySem.EqMixed.ne_str_bool (Aa2 I q (by simp))
  | int j=>obtain ⟨t',rfl⟩:=ry; exact PySem.EqMixed.ne_str_int (Aa2 I q (by simp))
  | str j=>obtain ⟨t',rfl⟩:=ry; exact ne_str (Aa2 I q (congrArg not AlX))
  | _=>exact absurd (show false=true from hs) Bool.false_ne_true
 | byt i =>
  obtain ⟨t,rfl⟩:=rx
  cases y with
  | byt j=>obtain ⟨t',rfl⟩:=ry; exact PySem.W.ne_bytes (Aa2 I q (congrArg not AlY))
  | _=>exact absurd (show false=true from hs) Bool.false_ne_true
 | _=>cases y <;> exact absurd (show false=true from hs) Bool.false_ne_true
theorem Aq4:OpR X (compareOp .Lt) (rI0 fun i j=>.bl (decide (i < j))):=AqM fun _ _ _ _ _ _ _ q=>lt_int q
theorem Ap4:OpR X (compareOp .LtE) (rI0 fun i j=>.bl (decide (i≤j))):=AqM fun _ _ _ _ _ _ _ q=>le_int q
theorem Anv:OpR X (compareOp .Gt) (rI0 fun i j=>.bl (decide (j < i))):=AqM fun _ _ _ _ _ _ _ q=>gt_int q
theorem Aq5:OpR X (compareOp .GtE) (rI0 fun i j=>.bl (decide (j≤i))):=AqM fun _ _ _ _ _ _ _ q=>ge_int q
theorem AlZ:OpR X (compareOp .In) (fun x y H Q=>∃ i j,x=.str i∧y=.str j∧Q (.bl (!(Builtin.Str.occurrences j i 0 j.length 1).isEmpty)) H):=by
 intro pins s σ H x y v u Q I rx ry h
 obtain ⟨i,j,rfl,rfl,q⟩:=h
 obtain ⟨t,rfl⟩:=rx
 obtain ⟨t',rfl⟩:=ry
 exact in_str (Aa2 I q rfl)
theorem Aic:OpR X (compareOp .Is) (fun x y H Q=>y=.non∧Q (.bl (decide (x=.non))) H):=by
 intro pins s σ H x y v u Q I rx ry h
 obtain ⟨rfl,q⟩:=h
 cases ry
 refine is_none_gen (Aa2 I q ?_)
 cases x <;> first
  | (cases rx; rfl)
  | (obtain ⟨t,rfl⟩:=rx; rfl)
theorem Al0:OpR X (compareOp .IsNot) (fun x y H Q=>y=.non∧Q (.bl (!decide (x=.non))) H):=by
 intro pins s σ H x y v u Q I rx ry h
 obtain ⟨rfl,q⟩:=h
 cases ry
 refine isnot_none_gen (Aa2 I q ?_)
 cases x <;> first
  | (cases rx; rfl)
  | (obtain ⟨t,rfl⟩:=rx; rfl)
theorem OpR.or {f:Value→Value→Sem Value} {r r':R2} (h:OpR X f r) (h':OpR X f r'):OpR X f (fun x y H Q=>r x y H Q∨r' x y H Q):=by
 intro pins s σ H x y v u Q I rx ry q
 rcases q with q | q
 ·exact h pins s σ H x y v u Q I rx ry q
 ·exact h' pins s σ H x y v u Q I rx ry q
theorem AaY (b:Expr) {op:CmpOp} (h:op≠.In:=by decide) (h2:op≠.NotIn:=by decide):behindInMarks op b=false:=by
 have e1:(op == CmpOp.In)=false:=by cases op <;> first | rfl | exact absurd rfl h
 have e2:(op == CmpOp.NotIn)=false:=by cases op <;> first | rfl | exact absurd rfl h2
 cases b <;> simp [behindInMarks,e1,e2]
theorem Aiy {op:CmpOp} {r:R2} (ho:OpR X (compareOp op) r) (ha:PE X a ta) (hb:PE X b tb) (hm:behindInMarks op b=false):PE X (.Compare a [op] [b] pos) (tOp r ta tb):=by
 intro pins s σ H Q I h
 exact wpAny_Compare1 (Aq1 ha hb I h fun v u s2 x y H2 I2 rx ry q=>ho pins s2 σ H2 x y v u Q I2 rx ry q) hm
def Aq6 (t:TE):TT:=fun σ H Q=>t σ H fun x H'=>∃ k,x=.bl k∧Q k H'
theorem AaB {op:CmpOp} {r:R2} (ho:OpR X (compareOp op) r) (ha:PE X a ta) (hb:PE X b tb) (hm:behindInMarks op b=false):PT X (.Compare a [op] [b] pos) (Aq6 (tOp r ta tb)):=by
 intro pins s σ H Q I h
 refine wpAny_isTrue_Compare1 (thn (ha pins s σ H _ I h) fun v s1 ⟨x,H1,I1,r1,q1⟩=>thn (hb pins s1 σ H1 _ I1 q1) fun u s2 ⟨y,H2,I2,r2,q2⟩ =>
  thn (ho pins s2 σ H2 x y v u _ I2 r1 r2 q2) fun c s3 ⟨z,H3,I3,r3,k,e,q3⟩=>?_) hm
 subst e
 cases r3
 exact wpAny_truthy_bool ⟨H3,I3,q3⟩
def Ap5 (r r':R2) (ta tb tc:TE):TE:=fun σ H Q=>ta σ H fun x H1=>tb σ H1 fun y H2=>r x y H2 fun z H3=>∃ k,z=.bl k ∧
 (if k=true then tc σ H3 fun w' H4=>r' y w' H4 Q else Q (.bl false) H3)
theorem Anw {op op':CmpOp} {r r':R2} (ho:OpR X (compareOp op) r) (ho':OpR X (compareOp op') r') (ha:PE X a ta) (hb:PE X b tb) (hc:PE X c tc)
  (hm:lastMarks [op,op'] [b,c]=false:=by with_unfolding_all rfl):PE X (.Compare a [op,op'] [b,c] pos) (Ap5 r r' ta tb tc):=by
 intro pins s σ H Q I h
 refine Compare_chain (thn (ha pins s σ H _ I h) fun v s1 ⟨x,H1,I1,r1,q1⟩=>chain_link (thn (hb pins s1 σ H1 _ I1 q1) fun u s2 ⟨y,H2,I2,r2,q2⟩ =>
  thn (ho pins s2 σ H2 x y v u _ I2 r1 r2 q2) fun d s3 ⟨z,H3,I3,r3,k,e,q3⟩=>?_)) hm
 subst e
 cases r3
 refine wpAny_truthy_bool ?_
 cases k with
 | false=>exact ite_ff ⟨.bl false,H3,I3,rfl,q3⟩
 | true=>exact ite_tt (chain_last (thn (hc pins s3 σ H3 _ I3 q3) fun w' s4 ⟨z',H4,I4,r4,q4⟩=>ho' pins s4 σ H4 y z' u w' Q I4 r2 r4 q4))
def Aq7 (K:PySem.W.Frag) (x:V) (H:Hp) (k:Bool):Prop :=
 match x with
 | .non=>k=false
 | .bl b=>k=b
 | .int i=>k=(i != 0)
 | .str y=>y.length≤sizeLine∧k=((y.length:Int) != 0)
 | .byt y=>y.size≤sizeLine∧k=((y.size:Int) != 0)
 | .ref p=>(∃ xs,SqL K H p xs∧k=!xs.isEmpty)∨(∃ xs,SqT K H p xs∧k=!xs.isEmpty)∨∃ kvs,H p=some (.dK kvs)∧k=!kvs.isEmpty
 | _=>False
theorem Alh {κ:Type} {kvs:List (κ×V)} {vs:List (κ×Value)} (r:KV kvs vs):(!vs.isEmpty)=!kvs.isEmpty:=by
 cases r <;> rfl
theorem Aid {xs:List V} {its:List Value} (r:Aba xs its):(!its.toArray.isEmpty)=!xs.isEmpty:=by
 cases r <;> simp
theorem AgY:(sizeLine:Nat) < 2 ^ 63:=by rw [sizeLine_eq]; decide
theorem AoB:ArY X (fun x H Q=>∃ k,Aq7 X.K x H k∧Q k H):=by
 intro pins s σ H x v Q I rx h
 obtain ⟨k,e,q⟩:=h
 have hl:=AgY
 have hs:sizeLine=16777216:=sizeLine_eq
 cases x with
 | non =>
  cases rx
  have e':k=false:=e
  subst e'
  exact truthy_none ⟨H,I,q⟩
 | bl b =>
  cases rx
  have e':k=b:=e
  subst e'
  exact wpAny_truthy_bool ⟨H,I,q⟩
 | int i =>
  obtain ⟨t,rfl⟩:=rx
  have e':k=(i != 0):=e
  subst e'
  exact PySem.P.truthy_int ⟨H,I,q⟩
 | str y =>
  obtain ⟨t,rfl⟩:=rx
  obtain ⟨hy,e'⟩:y.length≤sizeLine∧k=((y.length:Int) != 0):=e
  subst e'
  exact PySem.P.truthy_str (by omega) ⟨H,I.tok _,q⟩
 | byt y =>
  obtain ⟨t,rfl⟩:=rx
  obtain ⟨hy,e'⟩:y.size≤sizeLine∧k=((y.size:Int) != 0):=e
  subst e'
  exact PySem.W.truthy_bytes (by omega) ⟨H,I.tok _,q⟩
 | ref p =>
  cases rx
  have e':(∃ xs,SqL X.K H p xs∧k=!xs.isEmpty)∨(∃ xs,SqT X.K H p xs∧k=!xs.isEmpty)∨∃ kvs,H p=some (.dK kvs)∧k=!kvs.isEmpty:=e
  rcases e' with ⟨xs,hx,e'⟩ | ⟨xs,hx,e'⟩ | ⟨kvs,hx,e'⟩
  ·subst e'
   obtain ⟨its,r,pl,hz⟩:=I.list hx
   have hlen:=r.length
   exact wpAny_truthy_list pl.isList (by simp only [List.size_toArray]; omega) ⟨H,I.tok _,by rw [Aid r]; exact q⟩
  ·subst e'
   obtain ⟨its,r,pl,hz⟩:=I.tuple hx
   have hlen:=r.length
   exact truthy_tuple pl (by simp only [List.size_toArray]; omega) ⟨H,I.tok _,by rw [Aid r]; exact q⟩
  ·subst e'
   obtain ⟨hz,hS,vs,r,m⟩:kvs.length≤sizeLine∧(p == sysModules)=false∧∃ vs,KV kvs vs∧s.heap.DictOf (AaH X.prog X.w) p vs:=I.hok p _ hx
   have hlen:kvs.length=vs.length:=Paired.length r
   exact wpAny_truthy_dict hS m (by omega) ⟨H,I.tok _,by rw [Alh r]; exact q⟩
 | _=>exact (show False from e).elim
theorem Anx (ha:PE X a ta) (he:∀ whole,isTrue a X.env whole=(do let v ← whole; standAt a.pos; holding [v] (truthy v))) :
  PT X a (fun σ H Q=>ta σ H fun x H'=>∃ k,Aq7 X.K x H' k∧Q k H'):=by
 intro pins s σ H Q I h
 exact isTrue_plain (thn (ha pins s σ H _ I h) fun v s1 ⟨x,H1,I1,r1,q1⟩=>AoB pins s1 σ H1 x v Q I1 r1 q1) (he _)
theorem Ali:OpR X (binaryOp .Add) (fun x y H Q=>∃ i j,x=.str i∧y=.str j∧i.length + j.length≤sizeLine∧Q (.str (i++j)) H):=by
 intro pins s σ H x y v u Q I rx ry h
 obtain ⟨i,j,rfl,rfl,hz,q⟩:=h
 obtain ⟨t,rfl⟩:=rx
 obtain ⟨t',rfl⟩:=ry
 exact add_str (fun t' tk=>⟨.str (i++j),H,I.tok _,⟨_,rfl⟩,q⟩) hz
theorem Af3 {x:V} {us:List Value} (r:Aba [x] us):∃ u,us=[u]∧AbQ x u:=by
 cases r with
 | cons r1 r2=>cases r2; exact ⟨_,rfl,r1⟩
theorem Aq8 {x y:V} {us:List Value} (r:Aba [x,y] us):∃ u w',us=[u,w']∧AbQ x u∧AbQ y w':=by
 cases r with
 | cons r1 r2 =>
  cases r2 with
  | cons r3 r4=>cases r4; exact ⟨_,_,rfl,r1,r3⟩
theorem Ajc:AcA X (.type "int") (fun xs H Q=>(∃ i,xs=[.int i]∧Q (.int i) H)∨∃ k,xs=[.bl k]∧Q (.int (if k then 1 else 0)) H):=by
 intro pins s σ H xs us Q I r h
 rcases h with ⟨i,rfl,q⟩ | ⟨k,rfl,q⟩
 ·obtain ⟨u,rfl,t,rfl⟩:=Af3 r
  exact call_int_int ⟨.int i,H,I,⟨_,rfl⟩,q⟩
 ·obtain ⟨u,rfl,r1⟩:=Af3 r
  cases r1
  exact call_int_bool ⟨.int (if k then 1 else 0),H,I.tok _,⟨_,rfl⟩,q⟩
theorem Ajd:AcA X (.type "str") (fun xs H Q=>∃ i,xs=[.int i]∧i.natAbs.log2 < 1920∧Q (.str (toString i)) H):=by
 intro pins s σ H xs us Q I r h
 obtain ⟨i,rfl,hz,q⟩:=h
 obtain ⟨u,rfl,t,rfl⟩:=Af3 r
 exact PySem.P.str_of_int hz ⟨.str _,H,I.tok _,⟨_,rfl⟩,q⟩
end
end L2
namespace L2
open PySem PySem.Spec PyProof.Rows
structure AoT (h:Heap) (x dx C:Addr) (mA:Str→Option Value):Prop where
 obj:h.get? x=some (PySem.W.instObj C dx)
 ns:h.Ns1 dx mA
 ne:dx≠x
theorem Al1 {h:Heap} {dx:Addr} {mA:Str→Option Value} (n:h.Ns1 dx mA):∃ od,h.get? dx=some od∧∀ name,PySem.W.lookIn name od=some (mA name):=by
 obtain ⟨o,es,ep,ho,hd,hk,_,hm⟩:=n
 refine ⟨o,ho,fun name=>?_⟩
 have e:=hm name
 unfold nsFind findBy at e
 rw [← Array.find?_toList] at e
 unfold PySem.W.lookIn
 rw [hd]
 dsimp only
 split
 ·rename_i y q
  rw [q] at e
  exact congrArg some e
 ·rename_i q
  rw [q] at e
  have a:es.toList.any (·.refKey)=false:=by
   rw [List.any_eq_false]
   intro y hy
   obtain ⟨z,t,hkey⟩:=hk y (Array.mem_toList_iff.mp hy)
   simp [DictEntry.refKey,hkey]
  have a':¬ es.toList.any (·.refKey)=true:=by rw [a]; exact Bool.false_ne_true
  rw [if_neg a']
  exact congrArg some e
theorem AoT.look {h:Heap} {x dx C:Addr} {mA:Str→Option Value} (I:AoT h x dx C mA):∃ od,PySem.W.InstAt h x (PySem.W.instObj C dx) C (some od)∧∀ name,PySem.W.lookIn name od=some (mA name) :=
 let ⟨od,ho,hl⟩:=Al1 I.ns
 ⟨od,⟨I.obj,rfl,rfl,ho⟩,hl⟩
section
variable {prog:Program} {w:World} {A:Around} {E:Value→Shared→Prop} {s:Shared} {K:PySem.W.Frag} {x dx C f:Addr} {mA:Str→Option Value} {name:Str} {v:Value}
theorem AoU {expr:Bool} {Q:Value→Shared→Prop} (X:K.In s.heap) (I:AoT s.heap x dx C mA) (hg:PySem.W.plainGet K C name=true) (hh:PySem.W.hasDictIn K C=true)
  (ha:PySem.W.findIn K (.ref C) name=some none) (hv:mA name=some v) (hv':PySem.W.handedIn v=true) (h:Q v { s with toks:=s.toks + 1 }) :
  wpAny (model prog w) A (getAttr (.ref x) name expr) Q E s:=by
 obtain ⟨od,J,hl⟩:=I.look
 exact PySem.W.get_value X J (PySem.W.plainGet_of hg).1 (PySem.W.findObj_own hh ha rfl (by rw [hl,hv])) hv' h
theorem Any {pl:Sem Bool} {Q:Value×List Value→Shared→Prop} (X:K.In s.heap) (I:AoT s.heap x dx C mA) (hg:PySem.W.plainGet K C name=true)
  (hf:PySem.W.findIn K (.ref C) name=some (some (.ref f))) (ht:PySem.W.isFn K (.ref f)=true) (hv:mA name=none) (h:Q (.ref f,[.ref x]) s) :
  wpAny (model prog w) A (getMethod (.ref x) name pl) Q E s:=by
 obtain ⟨od,J,hl⟩:=I.look
 exact PySem.W.method_fn X J (PySem.W.plainGet_of hg).1 (PySem.W.plainGet_of hg).2 hf (beq_iff_eq.mp ht) (by show (PySem.W.lookIn name od).map (·.isSome)=some false; rw [hl,hv]; rfl) h
theorem AoV {ns:List Str} {Q:Unit→Shared→Prop} (X:K.In s.heap) (I:AoT s.heap x dx C mA)
  (hs:PySem.W.findIn K (.ref C) "__setattr__"=some (some (.builtin "object.__setattr__"))) (hp:PySem.W.plainOver K C=true) (ht:PySem.W.takerIn K C name=some none) (hh:PySem.W.hasDictIn K C=true)
  (hw:PySem.Within mA ns) (hsz:ns.length≤sizeLine)
  (h:∀ h',AoT h' x dx C (fun y=>if y=name then some v else mA y)→Heap.SameBut dx s.heap h'→Q () { s with heap:=h',toks:=s.toks + 2 }) :
  wpAny (model prog w) A (setAttr (.ref x) name v) Q E s:=by
 obtain ⟨od,J,hl⟩:=I.look
 refine PySem.W.set_plain X J hs (PySem.W.osa_open (s:={ s with toks:=s.toks + 1 }) (r:=none) X J hp ht fun b=>?_)
 obtain ⟨cd,hc,hd'⟩:=PySem.W.any_some hh
 have hx:s.heap.get? x=some ⟨.ref C,some dx,.plain,#[]⟩:=I.obj
 refine wpAny_bind (wpAny_pure (wpAny_bind (wpAny_bind (wpAny_loadPart hx (wpAny_bind (PySem.W.Looks.here (s:={ s with toks:=s.toks + 1 }) (PySem.W.looks_clsIn X hc) ?_))))))
 rw [hd']
 refine wpAny_pure (a:=some dx) (wpAny_bind (wpAny_pure (wpAny_bind ?_)))
 refine wpAny_nsSet1 (s:={ s with toks:=s.toks + 1 }) I.ns fun h' hn2 hs2=>?_
 obtain ⟨oD,esD,epD,hoD,hdD,hcD⟩:=hn2.count (PySem.Within.cons name v hw)
 refine wpAny_bind (wpAny_lookBehind hoD (by rw [hdD]; exact pastItsLine_dict (Nat.le_trans hcD (by rw [List.length_cons]; omega))) ?_)
 exact wpAny_pure (h _ ⟨(hs2.2 _ (Ne.symm I.ne)).trans I.obj,hn2,I.ne⟩ hs2)
theorem Anz {R:Result→Shared→Prop} {vs:List Value} {kw:List (Str×Value)} (X:K.In s.heap) (hm:PySem.W.makesIn K C=true)
  (hi:PySem.W.findIn K (.ref C) "__init__"=some (some (.ref f))) (hf:PySem.W.typeIn K (.ref f)=some (.type "function"))
  (h:codeAny (model prog w) (A.under (.builtin "type.__call__" ⟨.ref C :: vs,kw⟩)) (.call (.ref f) ⟨.ref (s.heap.objs.size + 1) :: vs,kw⟩) (PySem.W.InitBack (s.heap.objs.size + 1) R)
   { s with heap:=(s.heap.push PySem.W.emptyDict).push (PySem.W.instObj C s.heap.objs.size) }) :
  codeAny (model prog w) A (.call (.ref C) ⟨vs,kw⟩) R s:=by
 obtain ⟨hh,g,d,t,os⟩:=s
 exact PySem.W.make_core (PySem.W.makes_of X hm) (PySem.W.looks_findIn X hi) (fun self=>PySem.W.bind_fn X self hf) (.inl rfl) h
end
def AbN (f:Str) (v:V):List (Str×V)→List (Str×V)
 | []=>[(f,v)]
 | (g,x) :: r=>if g=f then (g,v) :: r else (g,x) :: AbN f v r
theorem Ahs (f g:Str) (v:V):∀ fs:List (Str×V),(AbN f v fs).lookup g=if g=f then some v else fs.lookup g
 | []=>by
  show List.lookup g [(f,v)]=_
  by_cases h:g=f
  ·have hb:(g == f)=true:=beq_iff_eq.mpr h
   simp only [List.lookup,hb,if_pos h]
  ·have hb:(g == f)=false:=beq_eq_false_iff_ne.mpr h
   simp only [List.lookup,hb,if_neg h]
 | (k,x) :: r=>by
  have ih:=Ahs f g v r
  rw [show AbN f v ((k,x) :: r)=(if k=f then (k,v) :: r else (k,x) :: AbN f v r) from rfl]
  by_cases hk:k=f
  ·rw [if_pos hk]
   by_cases h:g=k
   ·have hb:(g == k)=true:=beq_iff_eq.mpr h
    simp only [List.lookup,hb,if_pos (h.trans hk)]
   ·have hb:(g == k)=false:=beq_eq_false_iff_ne.mpr h
    simp only [List.lookup,hb,if_neg (fun e:g=f=>h (e.trans hk.symm))]
  ·rw [if_neg hk]
   by_cases h:g=k
   ·have hb:(g == k)=true:=beq_iff_eq.mpr h
    simp only [List.lookup,hb,if_neg (fun e:g=f=>hk (h.symm.trans e))]
   ·have hb:(g == k)=false:=beq_eq_false_iff_ne.mpr h
    simp only [List.lookup,hb]
    exact ih
theorem Aht (f:Str) (v:V):∀ fs:List (Str×V),f∈(AbN f v fs).map (·.1)∧∀ g,g∈fs.map (·.1)→g∈(AbN f v fs).map (·.1)
 | []=>⟨by simp [AbN],fun g h=>by simp at h⟩
 | (k,x) :: r=>by
  obtain ⟨i1,i2⟩:=Aht f v r
  rw [show AbN f v ((k,x) :: r)=(if k=f then (k,v) :: r else (k,x) :: AbN f v r) from rfl]
  by_cases hk:k=f
  ·rw [if_pos hk]
   subst hk
   exact ⟨by simp,fun g h=>by simpa using h⟩
  ·rw [if_neg hk]
   refine ⟨?_,fun g h=>?_⟩
   ·rw [List.map_cons]
    exact List.mem_cons_of_mem _ i1
   ·rw [List.map_cons] at h ⊢
    rcases List.mem_cons.mp h with e | e
    ·exact List.mem_cons.mpr (.inl e)
    ·exact List.mem_cons_of_mem _ (i2 g e)
theorem Ahu (f:Str) (v:V):∀ fs:List (Str×V),(AbN f v fs).length≤fs.length + 1
 | []=>by simp [AbN]
 | (k,x) :: r=>by
  have ih:=Ahu f v r
  rw [show AbN f v ((k,x) :: r)=(if k=f then (k,v) :: r else (k,x) :: AbN f v r) from rfl]
  by_cases hk:k=f
  ·rw [if_pos hk,List.length_cons,List.length_cons]; omega
  ·rw [if_neg hk,List.length_cons,List.length_cons]; omega
theorem Ai9.some_of {v:V} {o:Option Value} (r:Ai9 (some v) o):∃ u,o=some u∧AbQ v u:=by
 cases o with
 | none=>exact (show False from r).elim
 | some u=>exact ⟨u,rfl,r⟩
theorem Ai9.none_of {o:Option Value} (r:Ai9 none o):o=none:=by
 cases o with
 | none=>rfl
 | some u=>exact (show False from r).elim
theorem Al2 {v:V} {u:Value} (r:AbQ v u):PySem.W.handedIn u=true:=by
 cases v with
 | non=>cases (show u=Value.none from r); rfl
 | bl b=>cases (show u=Value.bool b from r); rfl
 | int i=>obtain ⟨t,e⟩:=(show ∃ t,u=Value.int i t from r); cases e; rfl
 | str x=>obtain ⟨t,e⟩:=(show ∃ t,u=Value.str x t from r); cases e; rfl
 | byt b=>obtain ⟨t,e⟩:=(show ∃ t,u=Value.bytes b t from r); cases e; rfl
 | flt b=>obtain ⟨t,e⟩:=(show ∃ t,u=Value.float b t from r); cases e; rfl
 | ref a=>cases (show u=Value.ref a from r); rfl
 | ty n=>cases (show u=Value.type n from r); rfl
section
variable {P:Program} {w:World} {H H':Hp} {h h':Heap} {a C dx:Addr} {fs fs':List (Str×V)}
theorem Aiz (hok:HOk P w H h) (e:H a=some (.ins C dx fs)):∃ mA,AoT h a dx C mA∧(∀ f,Ai9 (fs.lookup f) (mA f))∧PySem.Within mA (fs.map (·.1))∧fs.length≤1000∧H dx=some (.own a):=by
 obtain ⟨d,z,ne,ob,mA,n,r,q⟩:=(show AbR P w H h a (.ins C dx fs) from hok a _ e)
 exact ⟨mA,⟨ob,n,ne⟩,r,q,z,d⟩
end
structure Cls (K:PySem.W.Frag) (C:Addr):Prop where
 pg:PySem.W.plainGet K C Str.empty=true
 hd:PySem.W.hasDictIn K C=true
 po:PySem.W.plainOver K C=true
 sa:PySem.W.findIn K (.ref C) "__setattr__"=some (some (.builtin "object.__setattr__"))
theorem Cls.get {K:PySem.W.Frag} {C:Addr} (c:Cls K C) (f:Str):PySem.W.plainGet K C f=true:=c.pg
def Abh (K:PySem.W.Frag) (C:Addr) (f:Str):Prop:=PySem.W.findIn K (.ref C) f=some none
theorem Abh.taker {K:PySem.W.Frag} {C:Addr} {f:Str} (n:Abh K C f):PySem.W.takerIn K C f=some none:=by
 unfold PySem.W.takerIn
 rw [show PySem.W.findIn K (.ref C) f=some none from n]
 rfl
structure Con (K:PySem.W.Frag) (C:Addr) (f:Str) (v:V) (u:Value):Prop where
 at_:PySem.W.findIn K (.ref C) f=some (some u)
 rel:AbQ v u
 get:PySem.W.specialIn K u "__get__"=some none
 cp:PySem.W.copiedNames.contains f=false
structure AqN (K:PySem.W.Frag) (C:Addr) (m:Str) (f:Addr):Prop where
 at_:PySem.W.findIn K (.ref C) m=some (some (.ref f))
 fn:PySem.W.isFn K (.ref f)=true
 kp:PySem.W.keepIn K (.ref f)=true
section
variable {X:Cx} {pins:List (Addr×Obj)} {σ:St} {H:Hp} {s:Shared} {a C dx:Addr} {fs:List (Str×V)} {f:Str} {v:V} {A:Around} {E:Value→Shared→Prop}
theorem Alj {b:Bool} {Q:Value→Shared→Prop} (I:Inv X pins σ H s) (e:H a=some (.ins C dx fs)) (c:Cls X.K C) (n:Abh X.K C f) (l:fs.lookup f=some v)
  (h:∀ u s',Inv X pins σ H s'→AbQ v u→Q u s'):wpAny (model X.prog X.w) A (getAttr (.ref a) f b) Q E s:=by
 obtain ⟨mA,O,r,_,_,_⟩:=Aiz I.hok e
 obtain ⟨u,hu,ru⟩:=Ai9.some_of (v:=v) (o:=mA f) (by rw [← l]; exact r f)
 exact AoU I.kIn O (c.get f) c.hd n hu (Al2 ru) (h u _ (I.tok _) ru)
theorem Aie {m:Str} {g:Addr} {pl:Sem Bool} {Q:Value×List Value→Shared→Prop} (I:Inv X pins σ H s) (e:H a=some (.ins C dx fs)) (c:Cls X.K C) (k:AqN X.K C m g) (l:fs.lookup m=none)
  (h:Q (.ref g,[.ref a]) s):wpAny (model X.prog X.w) A (getMethod (.ref a) m pl) Q E s:=by
 obtain ⟨mA,O,r,_,_,_⟩:=Aiz I.hok e
 have hn:mA m=none:=Ai9.none_of (by rw [← l]; exact r m)
 exact Any I.kIn O (c.get m) k.at_ k.fn hn h
theorem Alk {y:V} {u:Value} {Q:Unit→Shared→Prop} (I:Inv X pins σ H s) (e:H a=some (.ins C dx fs)) (c:Cls X.K C) (n:Abh X.K C f) (hl:fs.length < 1000) (ry:AbQ y u)
  (h:∀ s',Inv X pins σ (upd H a (.ins C dx (AbN f y fs))) s'→Q () s'):wpAny (model X.prog X.w) A (setAttr (.ref a) f u) Q E s:=by
 obtain ⟨mA,O,r,wi,_,ho⟩:=Aiz I.hok e
 have hz:(fs.map (·.1)).length≤sizeLine:=by rw [List.length_map,sizeLine_eq]; omega
 refine AoV I.kIn O c.sa c.po n.taker c.hd wi hz fun h' O' sb=>h _ ?_
 have hd:∃ o,h'.get? dx=some o:=let ⟨o,_,_,e',_⟩:=O'.ns; ⟨o,e'⟩
 refine I.write (x:=a) (e:=dx) (by rw [e]; exact True.intro) (.inr ho) (fun b q hb z=>(sb.2 b hb).trans z) hd ?_
 refine ⟨by rw [Aah O.ne]; exact ho,?_,O.ne,O'.obj,_,O'.ns,fun g=>?_,fun g hg=>?_⟩
 ·have:=Ahu f y fs; omega
 ·show Ai9 ((AbN f y fs).lookup g) (if g=f then some u else mA g)
  rw [Ahs]
  by_cases q:g=f
  ·rw [if_pos q,if_pos q]; exact ry
  ·rw [if_neg q,if_neg q]; exact r g
 ·by_cases q:g=f
  ·rw [q]; exact (Aht f y fs).1
  ·refine (Aht f y fs).2 g (wi g fun z=>hg ?_)
   show (if g=f then some u else mA g)=none
   rw [if_neg q]; exact z
theorem Inv.made (I:Inv X pins σ H s):Inv X pins σ (upd (upd H s.heap.objs.size (.own (s.heap.objs.size + 1))) (s.heap.objs.size + 1) (.ins C s.heap.objs.size []))
  { s with heap:=(s.heap.push PySem.W.emptyDict).push (PySem.W.instObj C s.heap.objs.size) }:=by
 have e1:(s.heap.push PySem.W.emptyDict).get? s.heap.objs.size=some PySem.W.emptyDict:=Heap.get?_push_size s.heap rfl
 have e2:((s.heap.push PySem.W.emptyDict).push (PySem.W.instObj C s.heap.objs.size)).get? (s.heap.objs.size + 1)=some (PySem.W.instObj C s.heap.objs.size):=by
  have:=Heap.get?_push_size (s.heap.push PySem.W.emptyDict) (o:=PySem.W.instObj C s.heap.objs.size) rfl
  rwa [Heap.size_push] at this
 have e3:(s.heap.push PySem.W.emptyDict).Ns s.heap.objs.size (fun _=>none):=⟨PySem.W.emptyDict,#[],_,e1,rfl,(fun e he=>absurd he (by simp)),fun _=>rfl⟩
 have I1:=I.laid (a:=s.heap.objs.size) (o:=.own (s.heap.objs.size + 1)) (h':=s.heap.push PySem.W.emptyDict) (t':=s.toks) (fun b u q=>Heap.get?_push_of_some _ q) (Nat.le_refl _) ⟨_,e1⟩
 refine I1.laid (a:=s.heap.objs.size + 1) (o:=.ins C s.heap.objs.size []) (t':=s.toks) (fun b u q=>Heap.get?_push_of_some _ q) (Nat.le_of_eq (Heap.size_push _ _)) ?_
 have ne:s.heap.objs.size≠s.heap.objs.size + 1:=Nat.ne_of_lt (Nat.lt_succ_self _)
 refine ⟨by rw [Aah ne,Aad],Nat.zero_le _,ne,e2,fun _=>none,(Heap.Ns1.of_empty e3).at fun o q=>Heap.get?_push_of_some _ q,fun _=>True.intro,fun y hy=>absurd rfl hy⟩
theorem AoW {prog:Program} {w:World} {env:Env} {e:Expr} {f:Str} {pos:Pos} {s:Shared} {Q:Value→Shared→Prop} (hb:attributeBase e f env (eval e env)=eval e env)
  (h:wpAny (model prog w) A (eval e env) (fun o s₁=>wpAny (model prog w) A (getAttr o f true) Q E s₁) E s):wpAny (model prog w) A (eval (.Attribute e f pos) env) Q E s :=
 Attribute_any_ h (by rw [arm_eval_Attribute,hb])
end
def Ar0 (K:PySem.W.Frag) (ta:TE) (f:Str):TE:=fun σ H Q=>ta σ H fun x H1=>∃ a C dx fs v,x=.ref a∧H1 a=some (.ins C dx fs)∧Cls K C∧Abh K C f∧fs.lookup f=some v∧Q v H1
def Ar1 (K:PySem.W.Frag) (ta tv:TE) (f:Str):TS:=fun D σ H=>tv σ H fun y H1=>ta σ H1 fun x H2=>∃ a C dx fs,x=.ref a∧H2 a=some (.ins C dx fs)∧Cls K C∧Abh K C f∧fs.length < 1000 ∧
 D.nx σ (upd H2 a (.ins C dx (AbN f y fs)))
section
variable {X:Cx} {o e value:Expr} {f:Str} {pos pos' tpos:Pos} {ta tv:TE}
theorem Aau (he:PE X e ta) (hb:attributeBase e f X.env (eval e X.env)=eval e X.env):PE X (.Attribute e f pos) (Ar0 X.K ta f):=by
 intro pins s σ H Q I h
 refine AoW hb (thn (he pins s σ H _ I h) fun u s1 ⟨x,H1,I1,rx,a,C,dx,fs,v,ex,ea,c,n,l,q⟩=>?_)
 subst ex
 obtain rfl:u=Value.ref a:=rx
 exact Alj I1 ea c n l fun u' s2 I2 ru=>⟨v,H1,I2,ru,q⟩
theorem AbB (ha:PE X o ta) (hv:PE X value tv) (hs:swapsWith value (some (.Attribute o f pos')) pos.line X.env=pure false):PS X (.Assign [.Attribute o f pos'] value pos) (Ar1 X.K ta tv f):=by
 intro pins s σ H D I h
 refine plainObj_wpAny_Assign_Attribute (thn (hv pins s σ H _ I h) fun u s1 ⟨y,H1,I1,ry,q⟩=>thn (ha pins s1 σ H1 _ I1 q) fun ov s2 ⟨x,H2,I2,rx,a,C,dx,fs,ex,ea,c,n,l,q2⟩=>?_) hs
 subst ex
 obtain rfl:ov=Value.ref a:=rx
 exact Alk I2 ea c n l ry fun s3 I3=>⟨σ,_,I3,q2⟩
end
section
variable {X:Cx} {pins:List (Addr×Obj)} {σ:St} {H:Hp} {s:Shared} {A:Around} {E:Value→Shared→Prop} {Q:Value→Shared→Prop} {c:Value} {b:Bool}
inductive Alm (K:PySem.W.Frag) (H:Hp):V→Value→Prop where
 | non:Alm K H .non (.type "NoneType")
 | bl (x:Bool):Alm K H (.bl x) (.type "bool")
 | int (i:Int):Alm K H (.int i) (.type "int")
 | str (x:Str):Alm K H (.str x) (.type "str")
 | flt (x:UInt64):Alm K H (.flt x) (.type "float")
 | lst {a:Addr} {xs:List V} (e:H a=some (.lst xs)):Alm K H (.ref a) (.type "list")
 | frz {a:Addr} {o:Obj} {xs:List V} (e:H a=some (.frz o (.lst xs))):Alm K H (.ref a) (.type "list")
 | tup {a:Addr} {xs:List V} (e:H a=some (.tup xs)):Alm K H (.ref a) (.type "tuple")
 | dK {a:Addr} {kvs:List (Key×V)} (e:H a=some (.dK kvs)):Alm K H (.ref a) (.type "dict")
 | dT {a:Addr} {kvs:List (List Key×V)} (e:H a=some (.dT kvs)):Alm K H (.ref a) (.type "dict")
 | ins {a C dx:Addr} {fs:List (Str×V)} (e:H a=some (.ins C dx fs)) (cl:Cls K C) (ha:PySem.W.findIn K (.ref C) "__class__"=some (some (.builtin "object.__class__")))
   (hn:PySem.W.specialIn K (.builtin "object.__class__") "__get__"=some (some (.builtin "getset_descriptor.__get__"))) (htk:PySem.W.takesIn K (.builtin "object.__class__")=some true)
   (hm:PySem.W.mroIn K C (.type "object")=some true):Alm K H (.ref a) (.ref C)
theorem Al3 {x:V} {u t:Value} (I:Inv X pins σ H s) (rx:AbQ x u) (ty:Alm X.K H x t) (e:PySem.W.kitOne X.K t c=some b) (h:∀ tk,Q (.bool b) { s with toks:=tk }) :
  wpAny (model X.prog X.w) A (call (.builtin "isinstance") [u,c]) Q E s:=by
 cases ty with
 | non=>cases (show u=Value.none from rx); exact PySem.W.kia_one PySem.W.kitx_none I.kIn True.intro e (fun z=>nomatch z) h
 | bl y=>cases (show u=Value.bool y from rx); exact PySem.W.kia_one PySem.W.kitx_bool I.kIn True.intro e (fun z=>nomatch z) h
 | int i=>obtain ⟨t,q⟩:=(show ∃ t,u=Value.int i t from rx); cases q; exact PySem.W.kia_one PySem.W.kitx_int I.kIn True.intro e (fun z=>nomatch z) h
 | str y=>obtain ⟨t,q⟩:=(show ∃ t,u=Value.str y t from rx); cases q; exact PySem.W.kia_one PySem.W.kitx_str I.kIn True.intro e (fun z=>nomatch z) h
 | flt y=>obtain ⟨t,q⟩:=(show ∃ t,u=Value.float y t from rx); cases q; exact PySem.W.kia_one PySem.W.kitx_float I.kIn True.intro e (fun z=>nomatch z) h
 | @lst a xs ea =>
  cases (show u=Value.ref a from rx)
  obtain ⟨_,_,n,_,h1⟩:=(show AbR X.prog X.w H s.heap a (.lst xs) from I.hok a _ ea)
  exact PySem.W.kia_one PySem.W.kitx_list I.kIn ⟨_,h1,rfl⟩ e (fun z=>nomatch z) h
 | @frz a ob xs ea =>
  cases (show u=Value.ref a from rx)
  obtain ⟨_,_,_,n,_,h1⟩:=(show AbR X.prog X.w H s.heap a (.frz ob (.lst xs)) from I.hok a _ ea)
  exact PySem.W.kia_one PySem.W.kitx_list I.kIn ⟨_,h1,rfl⟩ e (fun z=>nomatch z) h
 | @tup a xs ea =>
  cases (show u=Value.ref a from rx)
  obtain ⟨_,_,_,p⟩:=(show AbR X.prog X.w H s.heap a (.tup xs) from I.hok a _ ea)
  obtain ⟨o,h1,h2,_⟩:=p
  exact PySem.W.kia_one PySem.W.kitx_tuple I.kIn ⟨o,h1,h2⟩ e (fun z=>nomatch z) h
 | @dK a kvs ea =>
  cases (show u=Value.ref a from rx)
  obtain ⟨_,_,vs,_,p⟩:=(show AbR X.prog X.w H s.heap a (.dK kvs) from I.hok a _ ea)
  obtain ⟨o,es,ep,h1,h2,_⟩:=p
  exact PySem.W.kia_one PySem.W.kitx_dict I.kIn ⟨o,h1,h2.1⟩ e (fun z=>nomatch z) h
 | @dT a kvs ea =>
  cases (show u=Value.ref a from rx)
  obtain ⟨_,_,xs,_,o,es,ep,h1,h2,_⟩:=(show AbR X.prog X.w H s.heap a (.dT kvs) from I.hok a _ ea)
  exact PySem.W.kia_one PySem.W.kitx_dict I.kIn ⟨o,h1,h2.1⟩ e (fun z=>nomatch z) h
 | @ins a C dx fs ea cl ha hn htk hm =>
  cases (show u=Value.ref a from rx)
  obtain ⟨mA,O,_⟩:=Aiz I.hok ea
  obtain ⟨od,J,_⟩:=O.look
  exact PySem.W.kia_one (PySem.W.kitx_own (cl.get _) cl.hd ha hn htk hm) I.kIn J e (fun z=>nomatch z) h
end
end L2
namespace L2
open PySem PySem.Spec PyProof.Rows
structure Af4 (k:Nat) (A:Around):Prop where
 hd:A.handled=none
 dp:A.depth + 3 * k + 5 < recursionLimit
 un:A.units + 16 * k + 200 < cLine
theorem Af4.mono {j k:Nat} {A:Around} (r:Af4 k A) (h:j≤k):Af4 j A:=⟨r.hd,by have:=r.dp; omega,by have:=r.un; omega⟩
theorem Af4.deeper {k:Nat} {A:Around} (r:Af4 (k + 1) A) (env:Env):Af4 k (A.deeper env) :=
 ⟨r.hd,by have:=r.dp; show A.depth + 1 + 3 * k + 5 < _; omega,by have:=r.un; show A.units + 3 + 16 * k + 200 < _; omega⟩
theorem Aln {A:Around} {C:Addr} {us:List Value} {kw:List (Str×Value)}:(A.under (.builtin "type.__call__" ⟨.ref C :: us,kw⟩)).depth=A.depth + 1:=by
 first | rfl | simp [Around.under,Code.weight,Code.isCreation,Code.isGuard,Code.isCaller,Code.frames,Code.isFrame,guardIds]
theorem Alo {A:Around} {C:Addr} {us:List Value} {kw:List (Str×Value)}:(A.under (.builtin "type.__call__" ⟨.ref C :: us,kw⟩)).units=A.units + 1:=by
 first | rfl | simp [Around.under,Code.cUnits,Code.frames,Code.isFrame]
theorem Af4.make {k:Nat} {A:Around} (r:Af4 (k + 1) A) (C:Addr) (us:List Value) (kw:List (Str×Value)):Af4 k (A.under (.builtin "type.__call__" ⟨.ref C :: us,kw⟩)) :=
 ⟨r.hd,by have:=r.dp; rw [Aln]; omega,by have:=r.un; rw [Alo]; omega⟩
theorem Af4.depth {k:Nat} {A:Around} (r:Af4 k A):A.depth < recursionLimit:=by have:=r.dp; omega
theorem Af4.units {k:Nat} {A:Around} (r:Af4 k A):A.units + 64 < cLine:=by have:=r.un; omega
def Aq9:TA:=fun _ H Q=>Q [] H
def Ara (ta:TE) (tr:TA):TA:=fun σ H Q=>ta σ H fun x H1=>tr σ H1 fun xs H2=>Q (x :: xs) H2
section
variable {X:Cx} {e:Expr} {es:List Expr} {te:TE} {t:TA} {pos:Pos}
theorem Aaf:PA X [] Aq9:=fun _ _ _ _ H Q I h=>Calls.spliced_nil ⟨[],H,I,.nil,h⟩
theorem Aac (ha:PE X e te) (hr:PA X es t) (hs:starEach (e :: es) X.env=(false,eval e X.env) :: starEach es X.env:=by rfl):PA X (e :: es) (Ara te t):=by
 intro pos pins s σ H Q I h
 rw [hs]
 show wpAny _ _ (spliced ((false,eval e X.env) :: backTo pos (starEach es X.env))) _ _ s
 refine Calls.spliced_cons (thn (ha pins s σ H _ I h) fun u s1 ⟨x,H1,I1,r1,q1⟩=>?_)
 exact thn (hr pos pins s1 σ H1 _ I1 q1) fun us s2 ⟨xs,H2,I2,r2,q2⟩=>⟨x :: xs,H2,I2,.cons r1 r2,q2⟩
def Ar2 (t:TA):TE:=fun σ H Q=>t σ H fun xs H1=>xs.length≤sizeLine∧∀ p,H1 p=none→Q (.ref p) (upd H1 p (.tup xs))
def Ar3 (t:TA):TE:=fun σ H Q=>t σ H fun xs H1=>xs.length≤sizeLine∧∀ p,H1 p=none→Q (.ref p) (upd H1 p (.lst xs))
theorem Adh {x1} (h:PA X es t):PE X (.Tuple es x1 pos) (Ar2 t):=by
 intro pins s σ H Q I hq
 refine wpAny_Tuple_spliced (thn (h pos pins s σ H _ I hq) fun us s1 ⟨xs,H1,I1,r,z,q⟩=>⟨by rw [← r.length]; exact z,?_⟩)
 have hf:H1 s1.heap.objs.size=none:=I1.hok.fresh (Nat.le_refl _)
 refine ⟨.ref s1.heap.objs.size,upd H1 s1.heap.objs.size (.tup xs),I1.laid (t':=s1.toks) (fun b u e=>Heap.get?_push_of_some _ e) (Nat.le_refl _) ?_,rfl,q _ hf⟩
 exact ⟨z,us,r,⟨_,Heap.get?_push_size _ rfl,rfl,_,rfl⟩⟩
theorem Aa6 (h:PA X es t):PE X (.List es pos) (Ar3 t):=by
 intro pins s σ H Q I hq
 refine wpAny_List_spliced (thn (h pos pins s σ H _ I hq) fun us s1 ⟨xs,H1,I1,r,z,q⟩=>⟨by rw [← r.length]; exact z,?_⟩)
 have hf:H1 s1.heap.objs.size=none:=I1.hok.fresh (Nat.le_refl _)
 refine ⟨.ref s1.heap.objs.size,upd H1 s1.heap.objs.size (.lst xs),I1.laid (t':=s1.toks) (fun b u e=>Heap.get?_push_of_some _ e) (Nat.le_refl _) ?_,rfl,q _ hf⟩
 exact ⟨z,us,0,r,Heap.get?_push_size _ rfl⟩
end
abbrev Sp:=List V→Hp→VK→XK→Prop
abbrev CXT:=List Env→Hp→Shared→XK→Value→Shared→Prop
structure AoX (P:Program) (w:World) (K:PySem.W.Frag) (mg:Str→Option Value) (base:Heap) (A:Around) (outer:List Env) (s:Shared) (H:Hp):Prop where
 frames:A.frames=some outer
 mod:Mod K mg base
 bs:∀ b o,base.get? b=some o→s.heap.get? b=some o∧H b=none
 bsz:base.objs.size≤s.heap.objs.size
 funs:s.heap.FunFrames base outer
 frf:∀ b∈frs outer,H b=none
 hok:HOk P w H s.heap
 bare:AllBare s.gens
def CE (outer:List Env) (P:Program) (w:World) (H:Hp) (s:Shared) (Q:VK) (u:Value) (s':Shared):Prop :=
 ∃ v H',s'.os=s.os∧AllBare s'.gens∧Un (frs outer) [] H H' s.heap s'.heap∧HOk P w H' s'.heap∧AbQ v u∧Q v H'
def CR (CX:CXT) (outer:List Env) (P:Program) (w:World) (H:Hp) (s:Shared) (Q:VK) (E:XK) (r:Result) (s':Shared):Prop :=
 match r with
 | .ok (.ret u)=>CE outer P w H s Q u s'
 | .ok _=>False
 | .error e=>CX outer H s E e s'
structure Aco (P:Program) (w:World) (K:PySem.W.Frag) (mg:Str→Option Value) (base:Heap) (CX:CXT) (k:Nat) (f:Addr) (fd:FuncData) (ps:List Str) (sp:Sp):Prop where
 len:∀ vs H Q E,sp vs H Q E→vs.length=ps.length
 run:∀ (A:Around) (outer:List Env) (s:Shared) (H:Hp) (args:Args) (us:List Value) (vs:List V) (Q:VK) (E:XK),Af4 k A→AoX P w K mg base A outer s H→BindsTo s fd args (ps.zip us)→Aba vs us→sp vs H Q E →
  codeAny (model P w) A (.call (.ref f) args) (CR CX outer P w H s Q E) s
theorem Aco.mono {P:Program} {w:World} {K:PySem.W.Frag} {mg:Str→Option Value} {base:Heap} {CX:CXT} {j k:Nat} {f:Addr} {fd:FuncData} {ps:List Str} {sp:Sp} (F:Aco P w K mg base CX j f fd ps sp) (h:j≤k) :
  Aco P w K mg base CX k f fd ps sp:=⟨F.len,fun A outer s H args us vs Q E hr=>F.run A outer s H args us vs Q E (hr.mono h)⟩
theorem AoX.make {P:Program} {w:World} {K:PySem.W.Frag} {mg:Str→Option Value} {base:Heap} {A:Around} {outer:List Env} {s:Shared} {H:Hp} (e:AoX P w K mg base A outer s H) (C:Addr) (us:List Value) (kw:List (Str×Value)) :
  AoX P w K mg base (A.under (.builtin "type.__call__" ⟨.ref C :: us,kw⟩)) outer s H:=⟨by first | exact e.frames | (simpa [Around.under,Code.envs,Code.isFrame,pushEnvs] using e.frames),e.mod,e.bs,e.bsz,e.funs,e.frf,e.hok,e.bare⟩
section
variable {X:Cx} {pins:List (Addr×Obj)} {σ:St} {H:Hp} {s s':Shared}
theorem Inv.env0 (I:Inv X pins σ H s):AoX X.prog X.w X.K X.mg X.base X.A X.stack s H :=
 ⟨I.ok.frames,I.ok.mod,I.bs,Nat.le_trans I.ok.bsz I.sz,I.stack,I.stkFree,I.hok,I.bare⟩
theorem Inv.after {Q:VK} {u:Value} (I:Inv X pins σ H s) (h:CE X.stack X.prog X.w H s Q u s'):EP X pins σ Q u s':=by
 obtain ⟨v,H',os,bare,un,hok,r,q⟩:=h
 obtain ⟨hh,g,d,t,os'⟩:=s'
 obtain rfl:os'=s.os:=os
 exact ⟨v,H',I.call (h':=hh) (g':=g) (d':=d) (t':=t) (ch:=[]) un hok bare (fun b z=>absurd z (by simp)),r,q⟩
end
def AnA (sp:Sp) (dvs:List V) (E:XK) (t:TA):TE:=fun σ H Q=>t σ H fun vs H1=>sp (vs++dvs) H1 Q E
def AnB (C:Addr) (m:Str) (sp:Sp) (dvs:List V) (E:XK) (ta:TE) (t:TA):TE:=fun σ H Q=>ta σ H fun x H1=>∃ a dx fs,x=.ref a∧H1 a=some (.ins C dx fs)∧fs.lookup m=none ∧
 t σ H1 fun vs H2=>sp (x :: (vs++dvs)) H2 Q E
def Ap6 (C:Addr) (sp:Sp) (dvs:List V) (E:XK) (t:TA):TE:=fun σ H Q=>t σ H fun vs H1=>∀ x dx,H1 x=none→H1 dx=none→dx≠x →
 sp (.ref x :: (vs++dvs)) (upd (upd H1 dx (.own x)) x (.ins C dx [])) (fun v H2=>v=.non∧Q (.ref x) H2) E
def Agj (K:PySem.W.Frag) (fd:FuncData) (ps:List Str) (ds:List Value):Prop :=
 ∀ (s:Shared) (us:List Value),K.In s.heap→(us++ds).length=ps.length→BindsTo s fd ⟨us,[]⟩ (ps.zip (us++ds))
theorem Agj.all {K:PySem.W.Frag} {fd:FuncData} {ps:List Str} (h:∀ us:List Value,us.length=ps.length→bindArgs fd ⟨us,[]⟩=pure (ps.zip us)):Agj K fd ps []:=fun s us _ hl=>by
 rw [List.append_nil] at hl ⊢
 exact .of_eq (h us hl)
def AdI (CX:CXT) (X:Cx) (E:XK):Prop:=∀ (pins:List (Addr×Obj)) (σ:St) (H:Hp) (s:Shared) (e:Value) (s':Shared),Inv X pins σ H s→CX X.stack H s E e s'→X.xe e s'
section
variable {X:Cx} {CX:CXT} {k:Nat} {f C:Addr} {fd:FuncData} {ps:List Str} {sp:Sp} {dvs:List V} {ds:List Value} {E:XK} {x m:Str} {p pos apos:Pos} {e o:Expr} {es:List Expr} {ta:TE} {t:TA}
theorem AkT {pins:List (Addr×Obj)} {σ:St} {H:Hp} {s:Shared} {Q:VK} {us:List Value} {vs:List V} (F:Aco X.prog X.w X.K X.mg X.base CX k f fd ps sp) (hr:Af4 k X.A) (hb:Agj X.K fd ps ds) (hd:Aba dvs ds) (hx:AdI CX X E)
  (I:Inv X pins σ H s) (r:Aba vs us) (h:sp (vs++dvs) H Q E):wpAny (model X.prog X.w) X.A (call (.ref f) us) (EP X pins σ Q) X.xe s:=by
 have r2:Aba (vs++dvs) (us++ds):=r.append hd
 have hl:(us++ds).length=ps.length:=by rw [← r2.length]; exact F.len _ _ _ _ h
 refine wpAny_call (codeAny_mono (F.run X.A X.stack s H ⟨us,[]⟩ (us++ds) (vs++dvs) Q E hr I.env0 (hb s us I.kIn hl) r2 h) fun r s' hq=>?_)
 cases r with
 | error e=>exact hx pins σ H s e s' I hq
 | ok fl =>
  cases fl with
  | ret u=>exact I.after hq
  | next=>exact False.elim hq
  | brk=>exact False.elim hq
  | cont=>exact False.elim hq
theorem AoY (F:Aco X.prog X.w X.K X.mg X.base CX k f fd ps sp) (hr:Af4 k X.A) (hg:Gl X x) (hm:X.mg x=some (.ref f)) (hk:PySem.W.keepIn X.K (.ref f)=true) (hb:Agj X.K fd ps ds) (hd:Aba dvs ds) (hx:AdI CX X E)
  (ha:PA X (e :: es) t) (hdb:(x == ("__debug__":Str))=false:=by decide) (he:starEach (e :: es) X.env=(false,eval e X.env) :: starEach es X.env:=by rfl) (hpl:(backTo pos (starEach es X.env)).any (·.1)=false:=by rfl) :
  PE X (.Call (.Name x p) (e :: es) [] pos) (AnA sp dvs E t):=by
 intro pins s σ H Q I h
 refine wpAny_Call_Name_kw (Aiw I hg hm ?_ hdb)
 refine PySem.W.callWith_K (h₀:=X.base) I.ok.mod.kin hk (thn (ha pos pins s σ H _ I h) fun us s1 ⟨vs,H1,I1,r,q⟩=>⟨I1.kIn,?_⟩) he hpl
 exact AkT F hr hb hd hx I1 r q
theorem AoZ {pl:Sem Bool} (he:PE X o ta) (c:Cls X.K C) (hm:AqN X.K C m f) (F:Aco X.prog X.w X.K X.mg X.base CX k f fd ps sp) (hr:Af4 k X.A) (hb:Agj X.K fd ps ds) (hd:Aba dvs ds) (hx:AdI CX X E) (ha:PA X (e :: es) t)
  (hst:starEach (e :: es) X.env=(false,eval e X.env) :: starEach es X.env:=by rfl) (hpl:(backTo pos (starEach es X.env)).any (·.1)=false:=by rfl)
  (ht:eval (.Call (.Attribute o m apos) (e :: es) [] pos) X.env=(do
   let ov ← eval o X.env
   standAt apos.atName
   let (f,first) ← holding [ov] (getMethod ov m pl)
   callWith pos f first (backTo pos (starEach (e :: es) X.env)) (backToKw pos (keywordEach [] X.env))):=by rfl) :
  PE X (.Call (.Attribute o m apos) (e :: es) [] pos) (AnB C m sp dvs E ta t):=by
 intro pins s σ H Q I h
 refine PySem.W.methodCall_KW (pl:=pl) (thn (he pins s σ H _ I h) fun u s1 ⟨x,H1,I1,rx,a,dx,fs,ex,ea,l,q⟩=>?_) ht
 subst ex
 obtain rfl:u=Value.ref a:=rx
 refine Aie I1 ea c hm l ?_
 refine PySem.W.callWith_K (first:=[.ref a]) (h₀:=X.base) I.ok.mod.kin hm.kp (thn (ha pos pins s1 σ H1 _ I1 q) fun us s2 ⟨vs,H2,I2,r,q2⟩=>⟨I2.kIn,?_⟩) hst hpl
 exact AkT (us:=.ref a :: us) (vs:=.ref a :: vs) F hr hb hd hx I2 (.cons rfl r) q2
theorem AnC {pl:Sem Bool} (he:PE X o ta) (c:Cls X.K C) (hm:AqN X.K C m f) (F:Aco X.prog X.w X.K X.mg X.base CX k f fd ps sp) (hr:Af4 k X.A) (hb:Agj X.K fd ps ds) (hd:Aba dvs ds) (hx:AdI CX X E)
  (ht:eval (.Call (.Attribute o m apos) [] [] pos) X.env=(do
   let ov ← eval o X.env
   standAt apos.atName
   let (f,first) ← holding [ov] (getMethod ov m pl)
   callWith pos f first (backTo pos (starEach [] X.env)) (backToKw pos (keywordEach [] X.env))):=by rfl) :
  PE X (.Call (.Attribute o m apos) [] [] pos) (AnB C m sp dvs E ta Aq9):=by
 intro pins s σ H Q I h
 refine PySem.W.methodCall_KW (pl:=pl) (thn (he pins s σ H _ I h) fun u s1 ⟨x,H1,I1,rx,a,dx,fs,ex,ea,l,q⟩=>?_) ht
 subst ex
 obtain rfl:u=Value.ref a:=rx
 refine Aie I1 ea c hm l ?_
 exact PySem.W.callWith_K0 (first:=[.ref a]) I1.kIn hm.kp (AkT (us:=[.ref a]) (vs:=[.ref a]) F hr hb hd hx I1 (.cons rfl .nil) q)
structure Mk (K:PySem.W.Frag) (C f:Addr):Prop where
 makes:PySem.W.makesIn K C=true
 init:PySem.W.findIn K (.ref C) "__init__"=some (some (.ref f))
 fn:PySem.W.isFn K (.ref f)=true
 kp:PySem.W.keepIn K (.ref C)=true
theorem AnD {pins:List (Addr×Obj)} {σ:St} {H:Hp} {s:Shared} {Q:VK} {us:List Value} {vs:List V} (M:Mk X.K C f) (F:Aco X.prog X.w X.K X.mg X.base CX k f fd ps sp) (hr:Af4 (k + 1) X.A) (hb:Agj X.K fd ps ds) (hd:Aba dvs ds)
  (hx:AdI CX X E) (I:Inv X pins σ H s) (r:Aba vs us)
  (h:∀ x dx,H x=none→H dx=none→dx≠x→sp (.ref x :: (vs++dvs)) (upd (upd H dx (.own x)) x (.ins C dx [])) (fun v H2=>v=.non∧Q (.ref x) H2) E) :
  wpAny (model X.prog X.w) X.A (call (.ref C) us) (EP X pins σ Q) X.xe s:=by
 have hq:=h (s.heap.objs.size + 1) s.heap.objs.size (I.hok.fresh (Nat.le_succ _)) (I.hok.fresh (Nat.le_refl _)) (Nat.ne_of_lt (Nat.lt_succ_self _))
 have I2:=Inv.made (C:=C) I
 have r2:Aba (V.ref (s.heap.objs.size + 1) :: (vs++dvs)) (Value.ref (s.heap.objs.size + 1) :: (us++ds)):=.cons rfl (r.append hd)
 have hl:(Value.ref (s.heap.objs.size + 1) :: us++ds).length=ps.length:=by
  have e:=r2.length
  rw [F.len _ _ _ _ hq] at e
  exact e.symm
 refine wpAny_call (Anz (f:=f) I.kIn M.makes M.init (beq_iff_eq.mp M.fn) (codeAny_mono (F.run _ X.stack _ _ ⟨Value.ref (s.heap.objs.size + 1) :: us,[]⟩ (Value.ref (s.heap.objs.size + 1) :: (us++ds)) _ _ E (hr.make C us [])
  (I2.env0.make C us []) (hb _ (Value.ref (s.heap.objs.size + 1) :: us) I2.kIn hl) r2 hq) fun r s' hq'=>?_))
 cases r with
 | error e=>exact hx pins σ _ _ e s' I2 hq'
 | ok fl =>
  cases fl with
  | ret u =>
   obtain ⟨v,H',I3,rv,ev,q3⟩:=I2.after hq'
   subst ev
   exact ⟨rv,⟨V.ref (s.heap.objs.size + 1),H',I3,rfl,q3⟩⟩
  | next=>exact False.elim hq'
  | brk=>exact False.elim hq'
  | cont=>exact False.elim hq'
theorem Ao0 (M:Mk X.K C f) (F:Aco X.prog X.w X.K X.mg X.base CX k f fd ps sp) (hr:Af4 (k + 1) X.A) (hg:Gl X x) (hm:X.mg x=some (.ref C)) (hb:Agj X.K fd ps ds) (hd:Aba dvs ds) (hx:AdI CX X E)
  (ha:PA X (e :: es) t) (hdb:(x == ("__debug__":Str))=false:=by decide) (he:starEach (e :: es) X.env=(false,eval e X.env) :: starEach es X.env:=by rfl) (hpl:(backTo pos (starEach es X.env)).any (·.1)=false:=by rfl) :
  PE X (.Call (.Name x p) (e :: es) [] pos) (Ap6 C sp dvs E t):=by
 intro pins s σ H Q I h
 refine wpAny_Call_Name_kw (Aiw I hg hm ?_ hdb)
 refine PySem.W.callWith_K (h₀:=X.base) I.ok.mod.kin M.kp (thn (ha pos pins s σ H _ I h) fun us s1 ⟨vs,H1,I1,r,q⟩=>⟨I1.kIn,?_⟩) he hpl
 exact AnD M F hr hb hd hx I1 r q
end
section
variable {X:Cx} {CX:CXT} {k:Nat} {f C:Addr} {fd:FuncData} {ps ks:List Str} {sp:Sp} {E:XK} {x m:Str} {p pos apos kpos:Pos} {e o:Expr} {es:List Expr} {kws:List Keyword} {te ta:TE} {t tk:TA} {nm:Option Str}
structure ArC (K:PySem.W.Frag) (fd:FuncData) (ps ks:List Str) (g:List Value→List Value→List Value) (gV:List V→List V→List V):Prop where
 to:∀ (s:Shared) (us ws:List Value),K.In s.heap→(g us ws).length=ps.length→BindsTo s fd ⟨us,ks.zip ws⟩ (ps.zip (g us ws))
 rel:∀ {vs:List V} {us:List Value} {zs:List V} {ws:List Value},Aba vs us→Aba zs ws→Aba (gV vs zs) (g us ws)
variable {g:List Value→List Value→List Value} {gV:List V→List V→List V}
end
structure Aat (N P:List Str) (sc:Scope):Prop where
 kind:sc.kind=.function
 co:sc.isCoroutine=false
 gen:sc.isGenerator=false
 nd:N.Nodup
 pre:N.take P.length=P
 par:∀ x∈P,sc.names.lookup x=some .local∨sc.names.lookup x=some .cell
 nofree:∀ y∈sc.names,y.2≠.free
theorem Aje {kindOf:Str→Option NameKind} {x:Str}:∀ {binds:List (Str×Value)} {m:Str→Option Value},(∀ v,(x,v) ∉ binds)→bindL kindOf binds m x=m x
 | [],_,_=>rfl
 | (n,v) :: r,m,h=>by
  unfold bindL
  rw [Aje fun w hw=>h w (List.mem_cons_of_mem _ hw)]
  split
  ·have:x≠n:=by rintro rfl; exact h v List.mem_cons_self
   simp [this]
  ·rfl
theorem Ajf {kindOf:Str→Option NameKind} {x:Str}:∀ {binds:List (Str×Value)} {m:Str→Option Value},(∀ v,(x,v) ∉ binds)→bindC kindOf binds m x=m x
 | [],_,_=>rfl
 | (n,v) :: r,m,h=>by
  unfold bindC
  rw [Ajf fun w hw=>h w (List.mem_cons_of_mem _ hw)]
  split
  ·rfl
  ·have:x≠n:=by rintro rfl; exact h v List.mem_cons_self
   simp [this]
theorem Ajg {kindOf:Str→Option NameKind} {x:Str} {v:Value}:∀ {P:List Str} {vs:List Value} {i:Nat} {m:Str→Option Value},P.Nodup→P[i]?=some x→vs[i]?=some v→kindOf x=some .local →
  bindL kindOf (P.zip vs) m x=some v
 | [],_,_,_,_,h,_,_=>by simp at h
 | _ :: _,[],_,_,_,_,h,_=>by simp at h
 | p :: P,w :: vs,0,m,nd,h1,h2,hk=>by
  simp at h1 h2; subst h1; subst h2
  show bindL kindOf ((p,w) :: P.zip vs) m p=_
  unfold bindL
  rw [Aje fun v hv=>(List.nodup_cons.mp nd).1 (List.of_mem_zip hv).1,if_pos hk]
  simp
 | p :: P,w :: vs,i + 1,m,nd,h1,h2,hk=>by
  show bindL kindOf ((p,w) :: P.zip vs) m x=_
  unfold bindL
  exact Ajg (i:=i) (List.nodup_cons.mp nd).2 (by simpa using h1) (by simpa using h2) hk
theorem Ajh {kindOf:Str→Option NameKind} {x:Str} {v:Value}:∀ {P:List Str} {vs:List Value} {i:Nat} {m:Str→Option Value},P.Nodup→P[i]?=some x→vs[i]?=some v→kindOf x≠some .local →
  bindC kindOf (P.zip vs) m x=some v
 | [],_,_,_,_,h,_,_=>by simp at h
 | _ :: _,[],_,_,_,_,h,_=>by simp at h
 | p :: P,w :: vs,0,m,nd,h1,h2,hk=>by
  simp at h1 h2; subst h1; subst h2
  show bindC kindOf ((p,w) :: P.zip vs) m p=_
  unfold bindC
  rw [Ajf fun v hv=>(List.nodup_cons.mp nd).1 (List.of_mem_zip hv).1,if_neg hk]
  simp
 | p :: P,w :: vs,i + 1,m,nd,h1,h2,hk=>by
  show bindC kindOf ((p,w) :: P.zip vs) m x=_
  unfold bindC
  exact Ajh (i:=i) (List.nodup_cons.mp nd).2 (by simpa using h1) (by simpa using h2) hk
def AaV (N:List Str) (vs:List V):St:=vs.map some++List.replicate (N.length - vs.length) none
def AjT (CX:CXT) (P:Program) (w:World) (K:PySem.W.Frag) (mg:Str→Option Value) (base:Heap) (N:List Str) (qual:Str) (scope:Scope) (f:Addr) (cd:Value) (A:Around) (outer:List Env) (s:Shared) (H:Hp) (E:XK):Cx where
 prog:=P
 w:=w
 K:=K
 mg:=mg
 base:=base
 A:=A.deeper (envOfC qual scope s.heap.objs.size f cd)
 N:=N
 s₀:=s
 H₀:=H
 env:=envOfC qual scope s.heap.objs.size f cd
 outer:=outer
 stack:=envOfC qual scope s.heap.objs.size f cd :: outer
 ex:=[]
 calm:=true
 fn:=fun _=>true
 pn:=[]
 xe:=fun e s'=>wpAny (model P w) (A.deeper (envOfC qual scope s.heap.objs.size f cd)) (leaving (envOfC qual scope s.heap.objs.size f cd) e) (fun _ s''=>CX outer H s E e s'') (fun e' s''=>CX outer H s E e' s'') s'
theorem AkU {sc:Scope} {n:Nat} {x:Str} (h:sc.names.lookup x=some .cell):∃ c,(cellsFrom n sc.names []).lookup x=some c:=by
 have q:=PySem.W.cellsFrom_some sc.names n [] (.inl h)
 exact Option.isSome_iff_exists.mp q
theorem Al4 {CX:CXT} {P:Program} {w:World} {K:PySem.W.Frag} {mg:Str→Option Value} {base:Heap} {N ps:List Str} {qual:Str} {scope:Scope} {f:Addr} {cd:Value} {A:Around} {outer:List Env} {s s1:Shared} {H:Hp} {E:XK} {us:List Value} {vs:List V}
  (S:Aat N ps scope) (hd:A.handled=none) (e0:AoX P w K mg base A outer s H) (hl:vs.length=ps.length) (r:Aba vs us)
  (x:InCallC s s.heap.objs.size (bindL (envOfC qual scope s.heap.objs.size f cd).kindOf (ps.zip us) fun _=>none) (cellsFrom (s.heap.objs.size + 1) scope.names []) (bindC (envOfC qual scope s.heap.objs.size f cd).kindOf (ps.zip us) fun _=>none) s1) :
  Inv (AjT CX P w K mg base N qual scope f cd A outer s H E) [] (AaV N vs) H s1:=by
 have hpl:ps.length≤N.length:=by have:=congrArg List.length S.pre; rw [List.length_take] at this; omega
 obtain ⟨h1,tk,rfl,hk⟩:=x.done
 have noA:∀ b:Addr,b ∉ (AjT CX P w K mg base N qual scope f cd A outer s H E).ex:=fun b z=>absurd (show b∈([]:List Addr) from z) (by simp)
 refine ⟨⟨e0.mod,S.kind,rfl,rfl,Nat.le_refl _,fun y z c h1 h2=>?_,fun y hy=>?_,fun y c _ h=>?_,fun _=>hd,Around.frames_deeper e0.frames,.inr ⟨rfl,rfl⟩,fun b z=>absurd z (noA b),e0.bs,e0.bsz,fun b _ _=>noA b,fun b z=>absurd z (noA b),e0.funs,e0.frf⟩,
  rfl,e0.bare,Un.kept hk,⟨_,x.toInCall.ns,fun i y v h1 h2 h3=>?_⟩,fun y c h=>⟨_,x.cell y c h⟩,e0.hok.fresh (Nat.le_refl _),fun y c h=>?_,fun p hp=>absurd (show p∈([]:List (Addr×Obj)) from hp) (by simp),e0.hok.kept hk,?_⟩
 ·exact name_of_addr x.apart (PySem.mem_of_lookup h1) (PySem.mem_of_lookup h2)
 ·have hy:scope.names.lookup y=some .cell∨scope.names.lookup y=some .free:=hy
  rcases hy with hy | hy
  ·exact AkU hy
  ·exact absurd rfl (S.nofree _ (PySem.mem_of_lookup hy))
 ·exact Nat.le_of_lt (x.above y c (PySem.mem_of_lookup h))
 ·have hi:i < vs.length:=by
   unfold AaV at h2
   by_cases hi:i < vs.length
   ·exact hi
   ·rw [List.getElem?_append_right (by simpa using hi)] at h2
    rw [List.getElem?_replicate] at h2
    split at h2 <;> cases h2
  have ha:vs[i]?=some v:=by
   unfold AaV at h2
   rw [List.getElem?_append_left (by simpa using hi),List.getElem?_map] at h2
   cases e:vs[i]? with
   | none=>rw [e] at h2; cases h2
   | some a=>rw [e] at h2; cases h2; rfl
  obtain ⟨u,hu,rv⟩:=r.get ha
  have hp:ps[i]?=some y:=by
   rw [← S.pre,List.getElem?_take_of_lt (by omega)]; exact h1
  have ndP:ps.Nodup:=by rw [← S.pre]; exact S.nd.sublist (List.take_sublist _ _)
  refine ⟨u,rv,?_⟩
  rcases S.par y (List.mem_of_getElem? hp) with k | k
  ·exact .inl ⟨k,Ajg ndP hp hu k⟩
  ·obtain ⟨c,e⟩:=AkU (n:=s.heap.objs.size + 1) k
   refine .inr ⟨.inl k,c,e,?_⟩
   have q:=x.cell y c e
   rw [Ajh ndP hp hu (by show scope.names.lookup y≠_; rw [k]; decide)] at q
   exact q
 ·exact e0.hok.fresh (Nat.le_of_lt (x.above y c (PySem.mem_of_lookup h)))
 ·unfold AaV
  show _=N.length
  rw [List.length_append,List.length_map,List.length_replicate]
  omega
theorem Ap7 {CX:CXT} {P:Program} {w:World} {K:PySem.W.Frag} {mg:Str→Option Value} {base:Heap} {k:Nat} {f:Addr} {name qual:Str} {params:Arguments} {body:List Stmt} {scope:Scope} {dV kV doc pm cdv ct oc:Value} {an od:Option Addr}
  {osl:Array (Option Value)} {N ps:List Str} {sp:Sp} (lk:K.lookup f=some ⟨oc,od,.func (PySem.W.fnOf name qual params body scope dV kV doc pm an cdv ct),osl⟩) (hcd:PySem.W.codeIn K cdv qual=true) (S:Aat N ps scope)
  (len:∀ vs H Q E,sp vs H Q E→vs.length=ps.length)
  (hbody:∀ (A:Around) (outer:List Env) (s:Shared) (H:Hp) (vs:List V) (Q:VK) (E:XK),Af4 k (A.deeper (envOfC qual scope s.heap.objs.size f cdv))→sp vs H Q E →
   ∃ t,PSs (AjT CX P w K mg base N qual scope f cdv A outer s H E) body t∧t { nx:=fun _ H'=>Q .non H',rt:=Q } (AaV N vs) H) :
  Aco P w K mg base CX (k + 1) f (PySem.W.fnOf name qual params body scope dV kV doc pm an cdv ct) ps sp:=by
 refine ⟨len,fun A outer s H args us vs Q E hr e0 hb r hsp=>?_⟩
 have hl:=len _ _ _ _ hsp
 have KX:K.In s.heap:=e0.mod.kin.keeps fun b o e=>(e0.bs b o e).1
 have lim:s.heap.NoLimit:=e0.mod.nolimit.keeps fun b o e=>(e0.bs b o e).1
 have hkind:∀ y∈ps.zip us,scope.names.lookup y.1=some .local∨(scope.names.lookup y.1=some .cell∧((cellsFrom (s.heap.objs.size + 1) scope.names []).lookup y.1).isSome=true):=fun ⟨n,v⟩ hy=>by
  rcases S.par n (List.of_mem_zip hy).1 with q | q
  ·exact .inl q
  ·exact .inr ⟨q,PySem.W.cellsFrom_some _ _ _ (.inl q)⟩
 refine codeAny_call_function hr.depth (KX _ _ lk) rfl S.co S.gen rfl (PySem.W.codeRec_of KX hcd) (hb _ _ _ _ ?_)
 refine wpAny_newFunctionEnv_cells S.kind hkind fun env he s1 x=>?_
 subst he
 refine ⟨lim.keeps x.toInCall.keep,codeAny_func ?_⟩
 obtain ⟨t,ht,hq⟩:=hbody A outer s H vs Q E (hr.deeper _) hsp
 have I:Inv (AjT CX P w K mg base N qual scope f cdv A outer s H E) [] (AaV N vs) H s1:=Al4 S hr.hd e0 hl r x
 refine wpAny_mono (ht [] s1 (AaV N vs) H _ I hq) (fun fl s' hs=>?_) fun e s' hs=>hs
 have fin:∀ {σ':St} {H':Hp} {v:V} {u:Value},Inv (AjT CX P w K mg base N qual scope f cdv A outer s H E) [] σ' H' s'→AbQ v u→Q v H'→CE outer P w H s Q u s' :=
  fun {σ' H' v u} J rv q=>⟨v,H',J.os,J.bare,J.base,J.hok,rv,q⟩
 cases fl with
 | ret u =>
  obtain ⟨v,σ',H',J,rv,q⟩:=hs
  exact fin J rv q
 | next =>
  obtain ⟨σ',H',J,q⟩:=hs
  exact fin (v:=V.non) (u:=Value.none) J rfl q
 | brk =>
  obtain ⟨_,_,_,q⟩:=hs
  exact False.elim q
 | cont =>
  obtain ⟨_,_,_,q⟩:=hs
  exact False.elim q
end L2
namespace L2
open PySem PySem.Spec PyProof.Rows
section
variable {X:Cx} {x:Str} {p pos:Pos} {e:Expr} {es:List Expr} {t:TA} {id T:String} {r:List V→Hp→VK→Prop}
def tCB (r:List V→Hp→VK→Prop) (t:TA):TE:=fun σ H Q=>t σ H fun vs H1=>r vs H1 Q
theorem AnE (hc:AcA X (.builtin id) r) (hg:Gl X x) (hm:X.mg x=none) (hv:bootBuiltins x=some (.builtin id)) (ha:PA X (e :: es) t) (hn:x≠"__name__":=by decide) (hdb:(x == ("__debug__":Str))=false:=by decide)
  (he:starEach (e :: es) X.env=(false,eval e X.env) :: starEach es X.env:=by rfl) (hpl:(backTo pos (starEach es X.env)).any (·.1)=false:=by rfl):PE X (.Call (.Name x p) (e :: es) [] pos) (tCB r t):=by
 intro pins s σ H Q I h
 refine wpAny_Call_Name_kw (Aib I hg hm hv ?_ hn hdb)
 exact PyProof.Rows.callWith_builtin1 (thn (ha pos pins s σ H _ I h) fun us s1 ⟨vs,H1,I1,r1,q1⟩=>hc pins s1 σ H1 vs us Q I1 r1 q1) he hpl
theorem Al5 (hc:AcA X (.type T) r) (hg:Gl X x) (hm:X.mg x=none) (hv:bootBuiltins x=some (.type T)) (ha:PA X (e :: es) t) (hn:x≠"__name__":=by decide) (hdb:(x == ("__debug__":Str))=false:=by decide)
  (he:starEach (e :: es) X.env=(false,eval e X.env) :: starEach es X.env:=by rfl) (hpl:(backTo pos (starEach es X.env)).any (·.1)=false:=by rfl):PE X (.Call (.Name x p) (e :: es) [] pos) (tCB r t):=by
 intro pins s σ H Q I h
 refine wpAny_Call_Name_kw (Aib I hg hm hv ?_ hn hdb)
 exact PyProof.Rows.callWith_type1 (thn (ha pos pins s σ H _ I h) fun us s1 ⟨vs,H1,I1,r1,q1⟩=>hc pins s1 σ H1 vs us Q I1 r1 q1) he hpl
end
end L2
namespace HT
open PySem PyProof.Rows
section
open PySem.SeqAt
open PySem.AutoSeq1 (wpAny_loadPart')
open PySem.MeetsSeq PySem.MeetsSeq2 PySem.MeetsSeq3
end
section
variable {prog:Program} {w:World} {A:Around} {E:Value→Shared→Prop} {s:Shared}
def sIx (n d:Nat):Option Int→Nat
 | none=>d
 | some v=>if v < 0 then (v + (n:Int)).toNat else min v.toNat n
theorem sIx_le (n d:Nat) (hd:d≤n) (o:Option Int):sIx n d o≤n:=by
 cases o with
 | none=>exact hd
 | some v =>
  show (if v < 0 then (v + (n:Int)).toNat else min v.toNat n)≤n
  by_cases hv:v < 0
  ·rw [if_pos hv]; omega
  ·rw [if_neg hv]; exact Nat.min_le_right _ _
theorem clip_eq (v:Int) (n d:Nat):(if v < 0 then max (v + (n:Int)) 0 else min v (n:Int))=((sIx n d (some v):Nat):Int):=by
 show (if v < 0 then max (v + (n:Int)) 0 else min v (n:Int))=(((if v < 0 then (v + (n:Int)).toNat else min v.toNat n):Nat):Int)
 by_cases hv:v < 0
 ·simp only [if_pos hv]; omega
 ·simp only [if_neg hv]; omega
end
end HT
namespace L2
open PySem PySem.Spec PyProof.Rows
abbrev TO:=St→Hp→(Option Int→Hp→Prop)→Prop
def PO (X:Cx) (e:Option Expr) (t:TO):Prop :=
 ∀ (pins:List (Addr×Obj)) (s:Shared) (σ:St) (H:Hp) (Q:Option Int→Hp→Prop),Inv X pins σ H s→t σ H Q →
  wpAny (model X.prog X.w) X.A (evalPart e X.env) (fun u s'=>∃ o H',Inv X pins σ H' s'∧IsPart u o∧Q o H') X.xe s
def Ao1:TO:=fun _ H Q=>Q none H
def Arb (t:TE):TO:=fun σ H Q=>t σ H fun x H1=>∃ i,x=.int i∧Q (some i) H1
section
variable {X:Cx} {e:Expr} {te:TE} {lo hi:Option Expr} {tl th:TO} {pos p2:Pos}
theorem Ao2:PO X none Ao1:=by
 intro pins s σ H Q I h
 rw [evalPart_none]
 exact wpAny_pure ⟨none,H,I,.none,h⟩
theorem Ao3 (h:PE X e te):PO X (some e) (Arb te):=by
 intro pins s σ H Q I hw
 rw [evalPart_some]
 refine thn (h pins s σ H _ I hw) fun u s1 ⟨x,H1,I1,r1,q1⟩=>?_
 obtain ⟨i,rfl,q⟩:=q1
 obtain ⟨t,rfl⟩:=r1
 exact ⟨some i,H1,I1,.int i t,q⟩
def SlR (X:Cx) (r:V→Option Int→Option Int→Hp→VK→Prop):Prop :=
 ∀ (pins:List (Addr×Obj)) (s:Shared) (σ:St) (H:Hp) (x:V) (v vl vu:Value) (lo hi:Option Int) (sl:Addr) (Q:VK),Inv X pins σ H s→AbQ x v→s.heap.IsSliceOf sl vl vu .none→IsPart vl lo→IsPart vu hi→r x lo hi H Q →
  ∃ T id,typeLookup (.type T) "__getitem__"=pure (some (.builtin id))∧s.TypeIs v T∧wpAny (model X.prog X.w) X.A (getItem v (.ref sl)) (EP X pins σ Q) X.xe s
theorem SlR.or {r r':V→Option Int→Option Int→Hp→VK→Prop} (h:SlR X r) (h':SlR X r'):SlR X (fun x lo hi H Q=>r x lo hi H Q∨r' x lo hi H Q):=by
 intro pins s σ H x v vl vu lo hi sl Q I rx hs pl pu q
 rcases q with q | q
 ·exact h pins s σ H x v vl vu lo hi sl Q I rx hs pl pu q
 ·exact h' pins s σ H x v vl vu lo hi sl Q I rx hs pl pu q
def tSl (r:V→Option Int→Option Int→Hp→VK→Prop) (te:TE) (tl th:TO):TE:=fun σ H Q=>te σ H fun x H1=>tl σ H1 fun l H2=>th σ H2 fun u H3=>r x l u H3 Q
theorem AnF {r:V→Option Int→Option Int→Hp→VK→Prop} (hr:SlR X r) (he:PE X e te) (hl:PO X lo tl) (hu:PO X hi th):PE X (.Subscript e (.Slice lo hi none p2) pos) (tSl r te tl th):=by
 intro pins s σ H Q I h
 refine Subscript_ (thn (he pins s σ H _ I h) fun v s1 ⟨x,H1,I1,r1,q1⟩=>?_)
 refine wpAny_Slice (thn (hl pins s1 σ H1 _ I1 q1) fun vl s2 ⟨l,H2,I2,pl,q2⟩=>thn (hu pins s2 σ H2 _ I2 q2) fun vu s3 ⟨u,H3,I3,pu,q3⟩=>?_)
 rw [evalPart_none]
 refine wpAny_pure ?_
 have I4:Inv X pins σ H3 { s3 with heap:=s3.heap.push { cls:=.type "slice",data:=.fields #[vl,vu,.none] } }:=I3.kept (t':=s3.toks) fun b ob q=>Heap.get?_push_of_some _ q
 obtain ⟨T,id,hT,ht,hg⟩:=hr pins { s3 with heap:=s3.heap.push { cls:=.type "slice",data:=.fields #[vl,vu,.none] } } σ H3 x v vl vu l u s3.heap.objs.size Q I4 r1 (Heap.IsSliceOf.new ..) pl pu q3
 show wpAny (model X.prog X.w) X.A (subscriptTail e (.Slice lo hi none p2) v (.ref s3.heap.objs.size)) (EP X pins σ Q) X.xe { s3 with heap:=s3.heap.push { cls:=.type "slice",data:=.fields #[vl,vu,.none] } }
 exact tail_any (ops:=[.ref s3.heap.objs.size,v]) ht hT hg (by with_unfolding_all rfl)
def ApO (xs:List V) (lo hi:Option Int):List V:=(xs.drop (HT.sIx xs.length 0 lo)).take (HT.sIx xs.length xs.length hi - HT.sIx xs.length 0 lo)
theorem AjY (xs:List V) (lo hi:Option Int):(ApO xs lo hi).length≤xs.length:=by
 unfold ApO
 rw [List.length_take,List.length_drop]
 omega
end
end L2
namespace L2
open PySem PySem.Spec PyProof.Rows
def ixN (n:Nat) (i:Int):Option Nat:=if 0≤i then (if i < n then some i.toNat else none) else if -(n:Int)≤i then some (i + n).toNat else none
def atI {α:Type} (xs:List α) (i:Int):Option α:=(ixN xs.length i).bind fun j=>xs[j]?
theorem AjZ {n:Nat} {i:Int} {j:Nat} (h:ixN n i=some j):seqIndex? i n=some j∧j < n∧-(n:Int)≤i∧i < n:=by
 unfold ixN at h
 by_cases h0:0≤i
 ·rw [if_pos h0] at h
  by_cases h1:i < n
  ·rw [if_pos h1] at h
   have e:i.toNat=j:=Option.some.inj h
   exact ⟨by rw [seqIndex_of h0 h1,e],by omega,by omega,h1⟩
  ·rw [if_neg h1] at h; cases h
 ·rw [if_neg h0] at h
  by_cases h1:-(n:Int)≤i
  ·rw [if_pos h1] at h
   have e:(i + n).toNat=j:=Option.some.inj h
   exact ⟨by rw [seqIndex_neg (by omega) h1,e],by omega,h1,by omega⟩
  ·rw [if_neg h1] at h; cases h
theorem AiA {α:Type} {xs:List α} {i:Int} {v:α} (h:atI xs i=some v):∃ j,seqIndex? i xs.length=some j∧xs[j]?=some v∧j < xs.length∧-(xs.length:Int)≤i∧i < xs.length:=by
 unfold atI at h
 cases e:ixN xs.length i with
 | none=>rw [e] at h; cases h
 | some j =>
  rw [e] at h
  obtain ⟨h1,h2,h3,h4⟩:=AjZ e
  exact ⟨j,h1,h,h2,h3,h4⟩
theorem Ac2 {α:Type} {xs:List α} {j:Nat} {v:α} (h:xs[j]?=some v):atI xs (j:Int)=some v:=by
 have hj:j < xs.length:=(List.getElem?_eq_some_iff.mp h).1
 have e:ixN xs.length (j:Int)=some j:=by
  unfold ixN
  rw [if_pos (by omega),if_pos (by omega)]; simp
 unfold atI; rw [e]; exact h
def Ao4 (b:Expr):Prop:=∀ o i,subscripted b false o i=operate [o,i] (getItem o i)
def IxR (X:Cx) (r:R2):Prop :=
 ∀ (value slice:Expr) (pins:List (Addr×Obj)) (s:Shared) (σ:St) (H:Hp) (x y:V) (v u:Value) (Q:VK),Inv X pins σ H s→AbQ x v→AbQ y u→r x y H Q →
  subscripted slice false v u=operate [v,u] (getItem v u)→wpAny (model X.prog X.w) X.A (subscriptTail value slice v u) (EP X pins σ Q) X.xe s
def MtR (X:Cx) (id:String) (r:V→List V→Hp→VK→Prop):Prop :=
 ∀ (pins:List (Addr×Obj)) (s:Shared) (σ:St) (H:Hp) (x:V) (xs:List V) (v:Value) (us:List Value) (Q:VK),Inv X pins σ H s→AbQ x v→Aba xs us→r x xs H Q →
  wpAny (model X.prog X.w) X.A (call (.builtin id) (v :: us)) (EP X pins σ Q) X.xe s
section
variable {X:Cx} {a b:Expr} {ta tb:TE} {pos:Pos}
theorem IxR.or {r r':R2} (h:IxR X r) (h':IxR X r'):IxR X (fun x y H Q=>r x y H Q∨r' x y H Q):=by
 intro value slice pins s σ H x y v u Q I rx ry q hs
 rcases q with q | q
 ·exact h value slice pins s σ H x y v u Q I rx ry q hs
 ·exact h' value slice pins s σ H x y v u Q I rx ry q hs
theorem Abt {r:R2} (hr:IxR X r) (ha:PE X a ta) (hb:PE X b tb) (hs:Ao4 b):PE X (.Subscript a b pos) (tOp r ta tb):=by
 intro pins s σ H Q I h
 exact Subscript_ (Aq1 ha hb I h fun v u s2 x y H2 I2 rx ry q=>hr a b pins s2 σ H2 x y v u Q I2 rx ry q (hs _ _))
def ArD (K:PySem.W.Frag):R2:=fun x y H Q=>∃ p xs i v,x=.ref p∧y=.int i∧SqL K H p xs∧atI xs i=some v∧Q v H
def ArE (K:PySem.W.Frag):R2:=fun x y H Q=>∃ p xs i v,x=.ref p∧y=.int i∧SqT K H p xs∧atI xs i=some v∧Q v H
def ArF:R2:=fun x y H Q=>∃ z i c,x=.str z∧y=.int i∧z.length≤sizeLine∧atI z.cps.toList i=some c∧Q (.str ⟨#[c]⟩) H
theorem Ao5:IxR X (ArD X.K):=by
 intro value slice pins s σ H x y v u Q I rx ry h hs
 obtain ⟨p,xs,i,z,rfl,rfl,hq,he,q⟩:=h
 cases rx
 obtain ⟨t,rfl⟩:=ry
 obtain ⟨its,r,pl,hz⟩:=I.list hq
 obtain ⟨j,h1,h2,h3,h4,h5⟩:=AiA he
 obtain ⟨w,ew,rw'⟩:=r.get h2
 have hl:=r.length
 have hn:=AgY
 have fin:EP X pins σ Q w s:=⟨z,H,I,rw',q⟩
 by_cases h0:0≤i
 ·have hj:i.toNat=j:=by
   rw [seqIndex_of h0 h5] at h1
   exact Option.some.inj h1
  exact item_listR pl.isList h0 (by omega) (by rw [hj]; simpa using ew) fin hs
 ·have hj:(i + (its.toArray.size:Int)).toNat=j:=by
   rw [seqIndex_neg (by omega) h4] at h1
   rw [List.size_toArray,← hl]
   exact Option.some.inj h1
  exact subscriptTail_builtinR (x:=w) pl.isList.typeIs slot_list_getitem.lookup
   (wpAny_getItem_list_neg (Q:=fun r s'=>r=w∧EP X pins σ Q r s') pl.isList (by omega) (by rw [List.size_toArray] <;> omega) (by omega) (by rw [hj]; simpa using ew) ⟨rfl,fin⟩) hs
theorem Ap8:IxR X (ArE X.K):=by
 intro value slice pins s σ H x y v u Q I rx ry h hs
 obtain ⟨p,xs,i,z,rfl,rfl,hq,he,q⟩:=h
 cases rx
 obtain ⟨t,rfl⟩:=ry
 obtain ⟨its,r,pl,hz⟩:=I.tuple hq
 obtain ⟨j,h1,h2,h3,h4,h5⟩:=AiA he
 obtain ⟨w,ew,rw'⟩:=r.get h2
 have hl:=r.length
 have hn:=AgY
 have fin:EP X pins σ Q w s:=⟨z,H,I,rw',q⟩
 exact subscriptTail_builtinR (x:=w) pl.typeIs slot_tuple_getitem.lookup
  (getItem_tuple (j:=j) (Q:=fun r s'=>r=w∧EP X pins σ Q r s') pl (by omega) (by omega) (by rw [List.size_toArray,← hl]; exact h1) (by simpa using ew) ⟨rfl,fin⟩) hs
theorem Ap9:IxR X ArF:=by
 intro value slice pins s σ H x y v u Q I rx ry h hs
 obtain ⟨z,i,c,rfl,rfl,hz,he,q⟩:=h
 obtain ⟨t,rfl⟩:=rx
 obtain ⟨t',rfl⟩:=ry
 obtain ⟨j,h1,h2,h3,h4,h5⟩:=AiA he
 have hl:z.cps.toList.length=z.length:=by simp [Str.length]
 rw [hl] at h1 h4 h5
 have hn:=AgY
 exact tail_any (typeIs_str s z t) slot_str_getitem.lookup (getItem_str (c:=c) (by
  have e1:decide (i < -(2 ^ 63:Int))=false:=decide_eq_false (by omega)
  have e2:decide (i ≥ 2 ^ 63)=false:=decide_eq_false (by omega)
  rw [e1,e2,Bool.or_false]) (by rw [h1]; simpa using h2) ⟨.str ⟨#[c]⟩,H,I.tok _,⟨_,rfl⟩,q⟩) hs
def rIx (K:PySem.W.Frag):R2:=fun x y H Q=>ArD K x y H Q∨ArE K x y H Q∨ArF x y H Q
theorem AaT:IxR X (rIx X.K):=Ao5.or (Ap8.or Ap9)
theorem Alp (its:List Value) (n j:Nat) (u:Value):Obj.mapSeq (·.setIfInBounds j u) { cls:=.type "list",data:=.seq its.toArray n }={ cls:=.type "list",data:=.seq (its.set j u).toArray n }:=by
 simp [Obj.mapSeq]
theorem Inv.lst {pins:List (Addr×Obj)} {σ:St} {H:Hp} {s:Shared} {p:Addr} {xs:List V} (I:Inv X pins σ H s) (h:H p=some (.lst xs)) :
  ∃ (its:List Value) (n:Nat),Aba xs its∧s.heap.get? p=some { cls:=.type "list",data:=.seq its.toArray n }∧xs.length≤sizeLine:=by
 obtain ⟨z,its,n,r,e⟩:=I.hok p _ h
 exact ⟨its,n,r,e,z⟩
theorem Inv.lstUpd {pins:List (Addr×Obj)} {σ:St} {H:Hp} {s:Shared} {p:Addr} {xs ys:List V} {its its':List Value} {n n':Nat} {f:Obj→Obj} (I:Inv X pins σ H s) (h:H p=some (.lst xs))
  (ho:s.heap.get? p=some { cls:=.type "list",data:=.seq its.toArray n }) (hf:f { cls:=.type "list",data:=.seq its.toArray n }={ cls:=.type "list",data:=.seq its'.toArray n' }) (r:Aba ys its') (hz:ys.length≤sizeLine) (t:Nat) :
  Inv X pins σ (upd H p (.lst ys)) { s with heap:=s.heap.update p f,toks:=t }:=by
 have e:(s.heap.update p f).get? p=some { cls:=.type "list",data:=.seq its'.toArray n' }:=by
  rw [Heap.get?_update_self f ho (by rw [hf] <;> rfl),hf]
 refine I.write (x:=p) (e:=p) (by rw [h]; trivial) (.inl rfl) (fun b u hb q=>(Heap.get?_update_other _ _ (Ne.symm hb)).trans q) ⟨_,e⟩ ?_
 exact ⟨hz,its',n',r,e⟩
def Arc:V→V→V→Hp→(Hp→Prop)→Prop:=fun o i v H Q=>∃ p xs k j,o=.ref p∧i=.int k∧H p=some (.lst xs)∧ixN xs.length k=some j∧Q (upd H p (.lst (xs.set j v)))
theorem Ace:AqX X Arc:=by
 intro pins s σ H o i v ov iv u Q I ro ri rv h
 obtain ⟨p,xs,k,j,rfl,rfl,hp,hj,q⟩:=h
 cases ro
 obtain ⟨t,rfl⟩:=ri
 obtain ⟨its,n,r,ho,hz⟩:=I.lst hp
 obtain ⟨h1,h2,h3,h4⟩:=AjZ hj
 have hl:=r.length
 have hn:=AgY
 have I':Inv X pins σ (upd H p (.lst (xs.set j v))) { s with heap:=s.heap.update p (Obj.mapSeq (·.setIfInBounds j u)) } :=
  I.lstUpd hp ho (Alp its n j u) (r.set rv j) (by rw [List.length_set]; exact hz) s.toks
 by_cases h0:0≤k
 ·have hk:k.toNat=j:=by
   rw [seqIndex_of h0 h4] at h1
   exact Option.some.inj h1
  exact PySem.W.ki_setAt ho h0 (by omega) (by rw [List.size_toArray,← hl]; exact h4) (by rw [hk]; exact ⟨_,I',q⟩)
 ·have hk:(k + (its.toArray.size:Int)).toNat=j:=by
   rw [seqIndex_neg (by omega) h3] at h1
   rw [List.size_toArray,← hl]
   exact Option.some.inj h1
  exact PySem.W.ki_setBack ho (by omega) (by rw [List.size_toArray,← hl]; exact h3) (by omega) (by rw [hk]; exact ⟨_,I',q⟩)
theorem Aji (lo hi:Option Int) (n:Nat):(sliceBounds lo hi none n).1=((HT.sIx n 0 lo:Nat):Int)∧(sliceBounds lo hi none n).2.1=((HT.sIx n n hi:Nat):Int)∧(sliceBounds lo hi none n).2.2=1:=by
 refine ⟨?_,?_,rfl⟩
 ·cases lo with
  | none=>simp [sliceBounds,HT.sIx]
  | some i =>
   simp only [sliceBounds,HT.sIx,Option.getD_none,show (1:Int) > 0 by decide,if_true]
   by_cases h:i < 0
   ·simp only [h,if_true] <;> omega
   ·simp only [h,if_false] <;> omega
 ·cases hi with
  | none=>simp [sliceBounds,HT.sIx]
  | some i =>
   simp only [sliceBounds,HT.sIx,Option.getD_none,show (1:Int) > 0 by decide,if_true]
   by_cases h:i < 0
   ·simp only [h,if_true] <;> omega
   ·simp only [h,if_false] <;> omega
theorem AiB (its:List Value) (lo hi:Option Int):slicePick its.toArray lo hi none=((its.drop (HT.sIx its.length 0 lo)).take (HT.sIx its.length its.length hi - HT.sIx its.length 0 lo)).toArray:=by
 obtain ⟨h1,h2,h3⟩:=Aji lo hi its.toArray.size
 unfold slicePick
 rw [h1,h2,h3]
 simp only [sliceRange_one,pick_run,List.size_toArray] <;> rfl
def ArG (K:PySem.W.Frag):V→Option Int→Option Int→Hp→VK→Prop:=fun x lo hi H Q=>∃ a xs,x=.ref a∧SqL K H a xs∧∀ p,H p=none→Q (.ref p) (upd H p (.lst (ApO xs lo hi)))
theorem Ao6:SlR X (ArG X.K):=by
 intro pins s σ H x v vl vu lo hi sl Q I rx hs pl pu h
 obtain ⟨a,xs,rfl,hx,q⟩:=h
 cases rx
 obtain ⟨its,r,ht,hz⟩:=I.list hx
 have hlen:=r.length
 refine ⟨"list",_,slot_list_getitem.lookup,ht.isList.typeIs,?_⟩
 refine wpAny_getItem_list_slice ht.isList hs pl pu .none (by simp) ?_ (by rw [List.size_toArray] <;> omega)
 rw [AiB,← hlen]
 refine ⟨.ref s.heap.objs.size,_,I.laid (t':=s.toks) (o:=.lst (ApO xs lo hi)) (fun b ob q=>Heap.get?_push_of_some _ q) (Nat.le_refl _) ?_,rfl,q _ (I.hok.fresh (Nat.le_refl _))⟩
 exact ⟨Nat.le_trans (AjY xs lo hi) hz,_,0,(r.drop (HT.sIx xs.length 0 lo)).take (HT.sIx xs.length xs.length hi - HT.sIx xs.length 0 lo),Heap.get?_push_size _ rfl⟩
def Afl:V→Bool
 | .non=>true
 | .bl _=>true
 | .int _=>true
 | .str _=>true
 | _=>false
def eqV:V→V→Bool
 | .non,.non=>true
 | .bl a,.bl b=>a == b
 | .bl a,.int b=>(if a then 1 else 0) == b
 | .int a,.bl b=>a == (if b then 1 else 0)
 | .int a,.int b=>a == b
 | .str a,.str b=>a == b
 | _,_=>false
theorem Aqa {A:Around} {s:Shared} {y x:V} {u v:Value} (ry:AbQ y u) (rx:AbQ x v) (fy:Afl y=true) (fx:Afl x=true):SeqAt.EqAt A s u v (eqV y x):=by
 cases y with
 | non =>
  cases ry
  cases x with
  | non=>cases rx; exact SeqAt.EqAt.same _
  | bl b=>cases rx; exact SeqAt.EqAt.none_bool b
  | int b=>obtain ⟨t,rfl⟩:=rx; exact SeqAt.EqAt.none_int b t
  | str b=>obtain ⟨t,rfl⟩:=rx; exact SeqAt.EqAt.none_str b t
  | _=>exact absurd (show false=true from fx) Bool.false_ne_true
 | bl a =>
  cases ry
  cases x with
  | non=>cases rx; exact SeqAt.EqAt.bool_none a
  | bl b=>cases rx; exact SeqAt.EqAt.bool_bool a b
  | int b=>obtain ⟨t,rfl⟩:=rx; exact SeqAt.EqAt.bool_int a b t
  | str b=>obtain ⟨t,rfl⟩:=rx; exact SeqAt.EqAt.bool_str a b t
  | _=>exact absurd (show false=true from fx) Bool.false_ne_true
 | int a =>
  obtain ⟨t',rfl⟩:=ry
  cases x with
  | non=>cases rx; exact SeqAt.EqAt.int_none a t'
  | bl b=>cases rx; exact SeqAt.EqAt.int_bool a t' b
  | int b=>obtain ⟨t,rfl⟩:=rx; exact SeqAt.EqAt.int_int a t' b t
  | str b=>obtain ⟨t,rfl⟩:=rx; exact SeqAt.EqAt.int_str a t' b t
  | _=>exact absurd (show false=true from fx) Bool.false_ne_true
 | str a =>
  obtain ⟨t',rfl⟩:=ry
  cases x with
  | non=>cases rx; exact SeqAt.EqAt.str_none a t'
  | bl b=>cases rx; exact SeqAt.EqAt.str_bool a t' b
  | int b=>obtain ⟨t,rfl⟩:=rx; exact SeqAt.EqAt.str_int a t' b t
  | str b=>obtain ⟨t,rfl⟩:=rx; exact SeqAt.EqAt.str_str a t' b t
  | _=>exact absurd (show false=true from fx) Bool.false_ne_true
 | _=>exact absurd (show false=true from fy) Bool.false_ne_true
def eqU (x:V) (u:Value):Bool:=match u with
 | .none=>eqV .non x
 | .bool b=>eqV (.bl b) x
 | .int i _=>eqV (.int i) x
 | .str z _=>eqV (.str z) x
 | _=>false
theorem AkV {x y:V} {u:Value} (r:AbQ y u) (f:Afl y=true):eqU x u=eqV y x:=by
 cases y with
 | non=>cases r; rfl
 | bl b=>cases r; rfl
 | int i=>obtain ⟨t,rfl⟩:=r; rfl
 | str z=>obtain ⟨t,rfl⟩:=r; rfl
 | _=>exact absurd (show false=true from f) Bool.false_ne_true
theorem Ahv {x:V}:∀ {xs:List V} {us:List Value},Aba xs us→xs.all Afl=true→us.any (eqU x)=xs.any fun y=>eqV y x
 | _,_,.nil,_=>rfl
 | y :: xs,u :: us,.cons r t,f=>by
  rw [List.all_cons,Bool.and_eq_true] at f
  rw [List.any_cons,List.any_cons,AkV r f.1,Ahv t f.2]
theorem AfE {A:Around} {s:Shared} {x:V} {v:Value} (rx:AbQ x v) (fx:Afl x=true):∀ {xs:List V} {us:List Value},Aba xs us→xs.all Afl=true→∀ u∈us,SeqAt.EqAt A s u v (eqU x u)
 | _,_,.nil,_=>fun u hu=>by cases hu
 | y :: xs,u :: us,.cons r t,f=>fun u' hu=>by
  rw [List.all_cons,Bool.and_eq_true] at f
  rcases List.mem_cons.mp hu with rfl | hu
  ·rw [AkV r f.1]; exact Aqa r rx f.1 fx
  ·exact AfE rx fx t f.2 u' hu
def inV (x:V) (xs:List V):Bool:=xs.any fun y=>eqV y x
def rIn (K:PySem.W.Frag) (neg:Bool):R2:=fun x y H Q=>∃ p xs,y=.ref p∧(SqL K H p xs∨SqT K H p xs)∧Afl x=true∧xs.all Afl=true∧Q (.bl (if neg then !inV x xs else inV x xs)) H
theorem Al6:OpR X (compareOp .In) (rIn X.K false):=by
 intro pins s σ H x y v u Q I rx ry h
 obtain ⟨p,xs,rfl,hq,fx,fs,q⟩:=h
 cases ry
 rcases hq with hq | hq
 ·obtain ⟨its,r,pl,hz⟩:=I.list hq
  refine SeqAt.in_listAt (eqU x) pl.isList (fun w hw=>AfE rx fx r fs w (by simpa using hw)) ⟨.bl _,H,I,rfl,?_⟩
  rw [show its.toArray.any (eqU x)=its.any (eqU x) by simp,Ahv r fs]
  exact q
 ·obtain ⟨its,r,pl,hz⟩:=I.tuple hq
  refine SeqAt.in_tupleAt (eqU x) pl (fun w hw=>AfE rx fx r fs w (by simpa using hw)) ⟨.bl _,H,I,rfl,?_⟩
  rw [show its.toArray.any (eqU x)=its.any (eqU x) by simp,Ahv r fs]
  exact q
theorem Ajj:OpR X (compareOp .NotIn) (rIn X.K true):=by
 intro pins s σ H x y v u Q I rx ry h
 obtain ⟨p,xs,rfl,hq,fx,fs,q⟩:=h
 cases ry
 rcases hq with hq | hq
 ·obtain ⟨its,r,pl,hz⟩:=I.list hq
  refine SeqAt.notIn_listAt (eqU x) pl.isList (fun w hw=>AfE rx fx r fs w (by simpa using hw)) ⟨.bl _,H,I,rfl,?_⟩
  rw [show its.toArray.any (eqU x)=its.any (eqU x) by simp,Ahv r fs]
  exact q
 ·obtain ⟨its,r,pl,hz⟩:=I.tuple hq
  refine SeqAt.notIn_tupleAt (eqU x) pl (fun w hw=>AfE rx fx r fs w (by simpa using hw)) ⟨.bl _,H,I,rfl,?_⟩
  rw [show its.toArray.any (eqU x)=its.any (eqU x) by simp,Ahv r fs]
  exact q
theorem Ajk:OpR X (compareOp .NotIn) (fun x y H Q=>∃ i j,x=.str i∧y=.str j∧Q (.bl (!(!(Builtin.Str.occurrences j i 0 j.length 1).isEmpty))) H):=by
 intro pins s σ H x y v u Q I rx ry h
 obtain ⟨i,j,rfl,rfl,q⟩:=h
 obtain ⟨t,rfl⟩:=rx
 obtain ⟨t',rfl⟩:=ry
 exact notIn_str ⟨.bl _,H,I,rfl,q⟩
theorem Ajl:AcA X (.builtin "len") (fun xs H Q=>∃ p ys,xs=[.ref p]∧(SqL X.K H p ys∨SqT X.K H p ys)∧Q (.int ys.length) H):=by
 intro pins s σ H xs us Q I r h
 obtain ⟨p,ys,rfl,hq,q⟩:=h
 obtain ⟨u,rfl,rx⟩:=Af3 r
 cases rx
 have hn:=AgY
 rcases hq with hq | hq
 ·obtain ⟨its,r',pl,hz⟩:=I.list hq
  have hlen:=r'.length
  exact Calls.call_len_list pl.isList (by simp only [List.size_toArray] <;> omega) ⟨.int ys.length,H,I.tok _,⟨s.toks + 1,by rw [List.size_toArray,hlen]⟩,q⟩
 ·obtain ⟨its,r',pl,hz⟩:=I.tuple hq
  have hlen:=r'.length
  exact len_tuple pl (by simp only [List.size_toArray] <;> omega) ⟨.int ys.length,H,I.tok _,⟨s.toks + 1,by rw [List.size_toArray,hlen]⟩,q⟩
theorem Ajm:AcA X (.builtin "len") (fun xs H Q=>∃ z,xs=[.str z]∧z.length≤sizeLine∧Q (.int z.length) H):=by
 intro pins s σ H xs us Q I r h
 obtain ⟨z,rfl,hz,q⟩:=h
 obtain ⟨u,rfl,t,rfl⟩:=Af3 r
 have hn:=AgY
 exact len_str (by omega) ⟨.int z.length,H,I.tok _,⟨_,rfl⟩,q⟩
theorem AcA.or {f:Value} {r r':List V→Hp→VK→Prop} (h:AcA X f r) (h':AcA X f r'):AcA X f (fun xs H Q=>r xs H Q∨r' xs H Q):=by
 intro pins s σ H xs us Q I rs q
 rcases q with q | q
 ·exact h pins s σ H xs us Q I rs q
 ·exact h' pins s σ H xs us Q I rs q
theorem Ajn:AcA X (.type "list") (fun xs H Q=>∃ p ys,xs=[.ref p]∧(SqL X.K H p ys∨SqT X.K H p ys)∧∀ l,H l=none→Q (.ref l) (upd H l (.lst ys))):=by
 intro pins s σ H xs us Q I r h
 obtain ⟨p,ys,rfl,hq,q⟩:=h
 obtain ⟨u,rfl,rx⟩:=Af3 r
 cases rx
 have fin:∀ (its:List Value),Aba ys its→ys.length≤sizeLine→∀ (h':Heap) (c':Nat),(∀ b o',s.heap.get? b=some o'→h'.get? b=some o') →
   h'.get? s.heap.objs.size=some { cls:=.type "list",dict:=none,data:=.seq its.toArray c',slots:=#[] }→EP X pins σ Q (.ref s.heap.objs.size) { s with heap:=h' }:=fun its r' hz h' c' kp e =>
  ⟨.ref s.heap.objs.size,_,I.laid (t':=s.toks) kp (Nat.le_refl _) (show AbR X.prog X.w _ h' _ (.lst ys) from ⟨hz,its,c',r',e⟩),rfl,q _ (I.hok.fresh (Nat.le_refl _))⟩
 rcases hq with hq | hq
 ·obtain ⟨its,r',pl,hz⟩:=I.list hq
  have hlen:=r'.length
  obtain ⟨o,ho,hc,n,hd⟩:=pl.isList
  exact call_list_seq p (.inl rfl) ho hc hd (fun h' c' kp e=>fin its r' hz h' c' kp e) (by simp only [List.size_toArray] <;> omega)
 ·obtain ⟨its,r',pl,hz⟩:=I.tuple hq
  have hlen:=r'.length
  obtain ⟨o,ho,hc,n,hd⟩:=pl
  exact call_list_seq p (.inr rfl) ho hc hd (fun h' c' kp e=>fin its r' hz h' c' kp e) (by simp only [List.size_toArray] <;> omega)
theorem AdA:AcA X (.type "tuple") (fun xs H Q=>∃ p ys,xs=[.ref p]∧((SqL X.K H p ys∧∀ l,H l=none→Q (.ref l) (upd H l (.tup ys)))∨(SqT X.K H p ys∧Q (.ref p) H))):=by
 intro pins s σ H xs us Q I r h
 obtain ⟨p,ys,rfl,h⟩:=h
 obtain ⟨u,rfl,rx⟩:=Af3 r
 cases rx
 rcases h with ⟨hq,q⟩ | ⟨hq,q⟩
 ·obtain ⟨its,r',pl,hz⟩:=I.list hq
  have hlen:=r'.length
  refine call_tuple_list pl.isList (fun h' kp=>?_) (by simp only [List.size_toArray] <;> omega)
  have I1:Inv X pins σ H { s with heap:=h' }:=I.kept (t':=s.toks) kp
  have I2:Inv X pins σ (upd H h'.objs.size (.tup ys)) { s with heap:=h'.push { cls:=.type "tuple",data:=.seq its.toArray } } :=
   I1.laid (t':=s.toks) (fun b o e=>Heap.get?_push_of_some _ e) (Nat.le_refl _) (show AbR X.prog X.w _ _ _ (.tup ys) from ⟨hz,its,r',IsTup.new _ _⟩)
  exact ⟨.ref h'.objs.size,_,I2,rfl,q _ (I1.hok.fresh (Nat.le_refl _))⟩
 ·obtain ⟨its,r',pl,hz⟩:=I.tuple hq
  exact call_tuple_same pl ⟨.ref p,H,I,rfl,q⟩
def tyV (K:PySem.W.Frag) (T:String) (x:V) (H:Hp):Prop:=match x with
 | .str _=>T="str"
 | .int _=>T="int"
 | .ref p=>(T="list"∧∃ xs,SqL K H p xs)∨(T="tuple"∧∃ o,K.lookup p=some o∧o.cls=.type "tuple"∧o.dict=none) ∨
   (T="dict"∧((∃ kvs,H p=some (.dK kvs))∨∃ kvs,H p=some (.dT kvs)))∨(T="set"∧∃ S n,H p=some (.set S n))
 | _=>False
theorem Aqb {pins:List (Addr×Obj)} {σ:St} {H:Hp} {s:Shared} {T:String} {x:V} {v:Value} (I:Inv X pins σ H s) (r:AbQ x v) (ty:tyV X.K T x H) :
  s.TypeIs v T∧∀ a,v=.ref a→∃ ob,s.heap.get? a=some ob∧ob.dict=none:=by
 cases x with
 | str z =>
  obtain ⟨t,rfl⟩:=r
  cases (show T="str" from ty)
  exact ⟨typeIs_str s z t,fun _ e=>nomatch e⟩
 | int i =>
  obtain ⟨t,rfl⟩:=r
  cases (show T="int" from ty)
  exact ⟨typeIs_int s i t,fun _ e=>nomatch e⟩
 | ref p =>
  cases r
  rcases ty with ⟨rfl,xs,hq⟩ | ⟨rfl,o,hk,hc,hd⟩ | ⟨rfl,hk⟩ | ⟨rfl,S,n,hk⟩
  ·obtain ⟨its,_,pl,_⟩:=I.list hq
   refine ⟨pl.isList.typeIs,fun a e=>?_⟩
   cases e
   obtain ⟨o,n,e,c,hd,_⟩:=pl
   exact ⟨o,e,hd⟩
  ·refine ⟨⟨o,I.kIn p o hk,hc⟩,fun a e=>?_⟩
   cases e
   exact ⟨o,I.kIn _ o hk,hd⟩
  ·have z:∃ o,s.heap.get? p=some o∧o.ExactDict:=by
    rcases hk with ⟨kvs,hk⟩ | ⟨kvs,hk⟩
    ·obtain ⟨_,_,_,_,o,_,_,e,ex,_⟩:=I.hok p _ hk
     exact ⟨o,e,ex⟩
    ·obtain ⟨_,_,_,_,o,_,_,e,ex,_⟩:=I.hok p _ hk
     exact ⟨o,e,ex⟩
   obtain ⟨o,e,ex⟩:=z
   refine ⟨⟨o,e,ex.1⟩,fun a e2=>?_⟩
   cases e2
   exact ⟨o,e,ex.2.1⟩
  ·obtain ⟨o,_,_,_,e,ex,_⟩:=I.hok p _ hk
   refine ⟨⟨o,e,ex.1⟩,fun a e2=>?_⟩
   cases e2
   exact ⟨o,e,ex.2.1⟩
 | _=>exact False.elim ty
def tBM (K:PySem.W.Frag) (T:String) (r:V→List V→Hp→VK→Prop) (to:TE) (t:TA):TE:=fun σ H Q=>to σ H fun x H1=>tyV K T x H1∧t σ H1 fun xs H2=>r x xs H2 Q
variable {o e:Expr} {es:List Expr} {to:TE} {t:TA} {name:Str} {apos cpos:Pos} {T id:String} {r:V→List V→Hp→VK→Prop}
theorem Aer (pa:PlainAttrs T) (slot:Slot T name id) (hty:typeOf (.builtin id)=pure (.type "method_descriptor")) (hm:MtR X id r) (ho:PE X o to) (ha:PA X (e :: es) t)
  (hbase:attributeBase o name X.env (eval o X.env)=eval o X.env:=by rfl)
  (hfew:((backTo cpos (starEach (e :: es) X.env)).all (fun x=>!x.1) && (backToKw cpos (keywordEach [] X.env)).all (fun x=>x.1.isSome)
   && decide ((e :: es).length + ([]:List Keyword).length + (if ([]:List Keyword).isEmpty then 0 else 1) < 30))=true:=by rfl)
  (hline:(apos.endLine == cpos.line)=true:=by rfl) (hs:starEach (e :: es) X.env=(false,eval e X.env) :: starEach es X.env:=by rfl) (hplain:(backTo cpos (starEach es X.env)).any (·.1)=false:=by rfl) :
  PE X (.Call (.Attribute o name apos) (e :: es) [] cpos) (tBM X.K T r to t):=by
 intro pins s σ H Q I h
 refine wpAny_Call_method_late hbase hfew hline rfl (thn (ho pins s σ H _ I h) fun v s1 ⟨x,H1,I1,r1,ty,q1⟩=>?_)
 obtain ⟨h1,h2⟩:=Aqb I1 r1 ty
 refine ⟨T,id,pa,slot,hty,h1,h2,?_⟩
 have hA:=ha cpos pins s1 σ H1 _ I1 q1
 rw [hs] at hA ⊢
 refine Calls.callWith_builtin (by show (false || (backTo cpos (starEach es X.env)).any (·.1))=false; rw [hplain] <;> rfl) (Calls.evalArgs_plain ?_)
 exact thn hA fun us s2 ⟨vs,H2,I2,r2,q2⟩=>hm pins s2 σ H2 x vs v us Q I2 r1 r2 q2
end
end L2
namespace L2
open PySem PySem.Spec PyProof.Rows
def MtM (X:Cx) (id:String) (r:V→List V→Hp→VK→Prop):Prop :=
 ∀ (pins:List (Addr×Obj)) (s:Shared) (σ:St) (H:Hp) (x:V) (xs:List V) (v:Value) (us:List Value) (Q:VK),Inv X pins σ H s→AbQ x v→Aba xs us→r x xs H Q →
  wpAny (model X.prog X.w) X.A (call (.builtin id) (v :: us)) (EP X pins σ Q) X.xe s
theorem Aba.one:∀ {x:V} {us:List Value},Aba [x] us→∃ u,us=[u]∧AbQ x u
 | _,_,.cons r .nil=>⟨_,rfl,r⟩
theorem Aba.two:∀ {x y:V} {us:List Value},Aba [x,y] us→∃ u v,us=[u,v]∧AbQ x u∧AbQ y v
 | _,_,_,.cons r (.cons q .nil)=>⟨_,_,rfl,r,q⟩
theorem Aba.eraseIdx:∀ {xs:List V} {us:List Value} (i:Nat),Aba xs us→Aba (xs.eraseIdx i) (us.eraseIdx i)
 | _,_,_,.nil=>.nil
 | _,_,0,.cons _ t=>t
 | _,_,i + 1,.cons r t=>.cons r (Aba.eraseIdx i t)
theorem Aba.rep {xs:List V} {us:List Value} (h:Aba xs us):∀ k:Nat,Aba (List.replicate k xs).flatten (List.replicate k us).flatten
 | 0=>.nil
 | k + 1=>by
  rw [List.replicate_succ,List.replicate_succ,List.flatten_cons,List.flatten_cons]
  exact Aba.append h (Aba.rep h k)
theorem Ajo {α:Type}:∀ (l:List α) (i:Nat),(l.eraseIdx i).length≤l.length
 | [],_=>Nat.le_refl _
 | _ :: _,0=>Nat.le_succ _
 | _ :: r,i + 1=>Nat.succ_le_succ (Ajo r i)
theorem Ajp (its:List Value):∀ (k:Nat) (acc:List Value),
  List.foldl (fun x1 x2=>x1++x2) acc.toArray (List.replicate k its.toArray)=(acc++(List.replicate k its).flatten).toArray
 | 0,acc=>by simp
 | k + 1,acc=>by
  have e:acc.toArray++its.toArray=(acc++its).toArray:=by simp
  have e2:(acc++its)++(List.replicate k its).flatten=acc++(List.replicate (k + 1) its).flatten:=by
   rw [List.replicate_succ,List.flatten_cons,List.append_assoc]
  rw [← e2,← Ajp its k (acc++its),← e,List.replicate_succ,List.foldl_cons]
section
variable {X:Cx} {pins:List (Addr×Obj)} {σ:St} {H:Hp} {s:Shared} {l b:Addr} {xs ys zs:List V}
theorem Inv.lset {its its':List Value} {n:Nat} {f:Array Value→Array Value} {t':Nat} (I:Inv X pins σ H s) (hH:H l=some (.lst xs))
  (e:s.heap.get? l=some { cls:=.type "list",data:=.seq its.toArray n }) (hf:f its.toArray=its'.toArray) (hv:Aba ys its') (hz:ys.length≤sizeLine) :
  Inv X pins σ (upd H l (.lst ys)) { s with heap:=s.heap.update l (Obj.mapSeq f),toks:=t' }:=by
 have q:=PySem.IsL.update e f
 rw [hf] at q
 refine I.write (x:=l) (e:=l) (by rw [hH]; exact trivial) (.inl rfl) (fun b' u hb hu=>(Heap.get?_update_other s.heap (Obj.mapSeq f) (Ne.symm hb)).trans hu) ⟨_,q⟩ ?_
 exact ⟨hz,its',_,hv,q⟩
theorem Inv.lnew {its:List Value} {t':Nat} (I:Inv X pins σ H s) (hv:Aba ys its) (hz:ys.length≤sizeLine) :
  Inv X pins σ (upd H s.heap.objs.size (.lst ys)) { s with heap:=s.heap.push { cls:=.type "list",data:=.seq its.toArray },toks:=t' } :=
 I.laid (fun _ _ q=>Heap.get?_push_of_some _ q) (Nat.le_refl _) ⟨hz,its,0,hv,Heap.get?_push_size _ rfl⟩
theorem Inv.fresh (I:Inv X pins σ H s):H s.heap.objs.size=none:=I.hok.fresh (Nat.le_refl _)
theorem Inv.lstM (I:Inv X pins σ H s) (hH:H l=some (.lst xs)):xs.length≤sizeLine∧∃ (its:List Value) (n:Nat),Aba xs its∧xs.length=its.length∧s.heap.get? l=some { cls:=.type "list",data:=.seq its.toArray n }:=by
 obtain ⟨z,its,n,r,e⟩:=I.hok l _ hH
 exact ⟨z,its,n,r,r.length,e⟩
theorem AnG {n:Nat} (h:n≤sizeLine):Builtin.List.listTooLong n=false:=by
 unfold Builtin.List.listTooLong
 exact decide_eq_false (by omega)
end
section
variable {X:Cx}
def Ao7:V→List V→Hp→VK→Prop:=fun x vs H Q=>∃ l xs y,x=.ref l∧vs=[y]∧H l=some (.lst xs)∧xs.length < sizeLine∧Q .non (upd H l (.lst (xs++[y])))
theorem AbF:MtM X "list.append" Ao7:=by
 intro pins s σ H x vs v us Q I rx rv h
 obtain ⟨l,xs,y,rfl,rfl,hH,hz,q⟩:=h
 cases rx
 obtain ⟨u,rfl,ru⟩:=rv.one
 obtain ⟨z,its,n,r,hl,e⟩:=I.lstM hH
 refine call_meets F.slot_list_append ⟨_,e,rfl⟩ F.entry_list_append (F.args_list_append_2 _ _) (PySem.list_append l its.toArray n u (by rw [List.size_toArray]; omega)) ⟨e,?_⟩
 refine ⟨.non,_,I.lset (its':=its++[u]) hH e (by simp) (r.append (.cons ru .nil)) ?_,rfl,q⟩
 rw [List.length_append,List.length_singleton]
 omega
def Aqc:V→List V→Hp→VK→Prop:=fun x vs H Q=>∃ l xs i k y,x=.ref l∧vs=[.int i]∧H l=some (.lst xs)∧-(2 ^ 63)≤i∧i < 2 ^ 63∧seqIndex? i xs.length=some k∧xs[k]?=some y∧Q y (upd H l (.lst (xs.eraseIdx k)))
theorem AiC:MtM X "list.pop" Aqc:=by
 intro pins s σ H x vs v us Q I rx rv h
 obtain ⟨l,xs,i,k,y,rfl,rfl,hH,h1,h2,hk,hy,q⟩:=h
 cases rx
 obtain ⟨u,rfl,ru⟩:=rv.one
 obtain ⟨t,rfl⟩:=ru
 obtain ⟨z,its,n,r,hl,e⟩:=I.lstM hH
 obtain ⟨w,hw,rw'⟩:=r.get hy
 refine call_meets F.slot_list_pop ⟨_,e,rfl⟩ F.entry_list_pop (F.args_list_pop_2 _ _)
  (MeetsSeq.list_pop_at l its.toArray n i t k w (fitsIndex_both h1 h2) (by rw [List.size_toArray,← hl]; exact hk) (by rw [← Array.getElem?_toList]; exact hw) (by rw [List.size_toArray]; omega)) ⟨e,?_⟩
 refine ⟨y,_,I.lset (its':=its.eraseIdx k) hH e ?_ (r.eraseIdx k) ?_,rw',q⟩
 ·show its.toArray.eraseIdxIfInBounds k=(its.eraseIdx k).toArray
  rw [List.eraseIdxIfInBounds_toArray]
 ·have:=Ajo xs k
  omega
def ArH:R2:=fun x y H Q=>∃ l b xs zs,x=.ref l∧y=.ref b∧H l=some (.lst xs)∧H b=some (.lst zs)∧xs.length + zs.length≤sizeLine∧∀ p,H p=none→Q (.ref p) (upd H p (.lst (xs++zs)))
theorem Aqd:OpR X (binaryOp .Add) ArH:=by
 intro pins s σ H x y v u Q I rx ry h
 obtain ⟨l,b,xs,zs,rfl,rfl,hH,hB,hz,q⟩:=h
 cases rx
 cases ry
 obtain ⟨z,its,n,r,hl,e⟩:=I.lstM hH
 obtain ⟨z2,its2,n2,r2,hl2,e2⟩:=I.lstM hB
 refine PySem.P.add_list e e2 ?_ (by rw [List.size_toArray,List.size_toArray]; omega)
 have ea:its.toArray++its2.toArray=(its++its2).toArray:=by simp
 rw [ea]
 exact ⟨.ref _,_,I.lnew (t':=s.toks) (r.append r2) (by rw [List.length_append]; omega),rfl,q _ I.fresh⟩
def ArI:R2:=fun x y H Q=>∃ l k xs,x=.ref l∧y=.int k∧H l=some (.lst xs)∧-(2 ^ 63)≤k∧k < 2 ^ 63∧xs.length * k.toNat≤sizeLine ∧
 ∀ p,H p=none→Q (.ref p) (upd H p (.lst (List.replicate k.toNat xs).flatten))
theorem Ao8 {α:Type} (xs:List α) (k:Nat):(List.replicate k xs).flatten.length=k * xs.length:=by
 induction k with
 | zero=>simp
 | succ k ih=>rw [List.replicate_succ,List.flatten_cons,List.length_append,ih,Nat.succ_mul,Nat.add_comm]
theorem Aqe:OpR X (binaryOp .Mult) ArI:=by
 intro pins s σ H x y v u Q I rx ry h
 obtain ⟨l,k,xs,rfl,rfl,hH,h1,h2,hz,q⟩:=h
 cases rx
 obtain ⟨t,rfl⟩:=ry
 obtain ⟨z,its,n,r,hl,e⟩:=I.lstM hH
 have hlen:its.toArray.size * k.toNat≤sizeLine:=by rw [List.size_toArray,← hl]; exact hz
 have hcap:¬ its.toArray.size * k.toNat > (2 ^ 63 - 1) / 8:=by
  have:(sizeLine:Nat)≤(2 ^ 63 - 1) / 8:=by decide
  omega
 have hfit:¬ (!Builtin.List.listFitsIndex k)=true:=by
  rw [fitsIndex_both h1 h2]
  exact Bool.false_ne_true
 have hlong:¬ Builtin.List.listTooLong (its.toArray.size * k.toNat)=true:=by
  rw [AnG hlen]
  exact Bool.false_ne_true
 have hnew:List.foldl (fun x1 x2=>x1++x2) #[] (List.replicate (if its.toArray.isEmpty=true then 0 else k.toNat) its.toArray)=(List.replicate k.toNat its).flatten.toArray:=by
  have f0:∀ m:Nat,List.foldl (fun x1 x2=>x1++x2) #[] (List.replicate m its.toArray)=(List.replicate m its).flatten.toArray:=fun m=>by
   have:=Ajp its m []
   rw [List.nil_append] at this
   exact this
  rw [f0]
  cases its with
  | nil=>simp
  | cons a r'=>rw [if_neg (by simp)]
 refine wpAny_binaryOp_repeat_ref (T:="list") (U:="int") (by decide) ⟨_,e,rfl⟩ (fun s'=>typeIs_int s' k t) noFill_list_mul F.fills_int_mul F.slot_int_rmul repeat_list F.slot_int_index.lookup
  (call_meets F.slot_int_rmul (typeIs_int s k t) F.entry_int_rmul (F.args_int_rmul_2 _ _) (int___rmul___int_list k t l its.toArray n)
   ⟨e,rfl,⟨_,e,rfl⟩,call_meets F.slot_list_mul ⟨_,e,rfl⟩ F.entry_list_mul (F.args_list_mul_2 _ _) (AutoListH.list___mul___list_int_3 l its.toArray n k t hfit hcap hlong) ⟨e,?_⟩⟩)
 rw [hnew]
 exact ⟨.ref _,_,I.lnew (t':=s.toks) (r.rep k.toNat) (by rw [Ao8,Nat.mul_comm]; exact hz),rfl,q _ I.fresh⟩
end
section
variable {prog:Program} {w:World} {A:Around} {E:Value→Shared→Prop} {s:Shared}
set_option maxRecDepth 100000 in
end
section
variable {X:Cx}
end
end L2
namespace Att
open PySem PySem.W PySem.Calls PyProof.Rows
theorem Ahw {P:Params} {h:Heap}:∀ (ns:List Int) (vs:List Value),WellAll P h vs (ns.map WData.int)→IntsAre vs ns:=by
 intro ns
 induction ns with
 | nil =>
  intro vs w
  rw [List.map_nil] at w
  cases w
  exact .nil
 | cons n ns ih =>
  intro vs w
  rw [List.map_cons] at w
  cases w with
  | cons a b =>
   cases a
   exact .cons _ _ (ih _ b)
theorem Al7 {l:OpenLaw} {n:Nat} (hn:l.most=some n) {P:Params} {h:Heap} {args:List WData} {vals:List Value}
  (hpre:l.row.toRowW.claim.pre args=true) (hwl:WellAll P h vals args) :
  ∃ a vs ns,vals=[Value.ref a]∧args=[WData.list (ns.map WData.int)]∧h.get? a=some { cls:=.type "list",data:=.seq vs.toArray }∧IntsAre vs ns∧ns.length≤n:=by
 have hsh:WShape.hasAll [] args [.list .int]=true:=(pre_splitW hpre).1
 have hc:l.pre.holds [] { args:=args }=true:=(pre_splitW hpre).2
 obtain ⟨d,r,rfl,h1,h2⟩:=hasAllW_cons hsh
 obtain rfl:=hasAllW_nil h2
 obtain ⟨xs,rfl,h3⟩:=hasW_list h1
 obtain ⟨ns,rfl⟩:=items_int h3
 have hlen:ns.length≤n:=by
  unfold OpenLaw.pre at hc
  have h4:(WTm.not (.lt (.lit (.int (n:Int))) (.len (.arg 0)))).holds [] { args:=[.list (ns.map .int)] }=true:=by
   have h4:=(holds_andW hc).1
   rw [hn] at h4
   exact h4
  have h5:=condW_of h4 (w_not (w_lt w_lit (w_len_list (w_arg rfl))))
  rw [List.length_map] at h5
  refine Nat.le_of_not_lt fun q=>?_
  have q':(n:Int) < ((ns.length:Nat):Int):=by omega
  first
   | (rw [decide_eq_true q'] at h5; exact absurd h5 (by decide))
   | (simp at h5; omega)
 cases hwl with
 | cons w1 w2 =>
  cases w2
  cases w1 with
  | list ho hall=>exact ⟨_,_,ns,rfl,rfl,ho,Ahw ns _ hall,hlen⟩
theorem Al8 (l:OpenLaw) (args:List WData):l.row.toRowW.claim.post args (.bool true) args=true :=
 postW_of (r:=l.row.toRowW) (X:=(true == true))
  (show WShape.has [] (.bool true) .bool=true by first | rfl | decide | simp [WShape.has,WShape.arms,WShape.armsAll])
  (show (WTm.eq .res (.lit (.bool true))).value [] { args:=args,res:=some (.bool true),after:=args }=some (.bool (true == true)) from w_eq_bool (w_res rfl) w_lit) rfl
theorem attach_call {l:OpenLaw} {n:Nat} {q:Program} {loose:List Str} {XP:(Str→Option Value)→Heap→Prop} {YP:World→Heap→Prop} {d:DefRec}
  (hn:l.most=some n) (hdf:d.params.defaults=[])
  (call:∀ (w:World) (s₀ s₁:Shared) (mg mb:Str→Option Value) (fa:Addr) (o:Obj) (pm cd doc:Value) (a:Addr) (vs:List Value) (ns:List Int),
   Ground q loose [] XP w s₀ mg mb s₁.heap→YP w s₁.heap →
   s₁.heap.get? fa=some o→o.data=.func (docDef d.name d.params d.body d.scope pm cd doc)→s₁.heap.CodeRec cd d.name→mg d.name=some (.ref fa) →
   s₁.heap.get? a=some { cls:=.type "list",data:=.seq vs.toArray }→IntsAre vs ns→ns.length≤n→s₁.gens=#[] →
   codeAny (model l.prog w) callerA (.call (.ref fa) ⟨[.ref a],[]⟩) (fun r s'=>r=.ok (.ret (.bool true))∧OldK s₁.heap s'.heap∧s'.os=s₁.os∧AllBare s'.gens) s₁) :
  WalkO q loose XP YP l.row.toRowW d [] (fun f vs=>PySem.call f vs):=by
 intro w s₀ s₁ mg mb G Y fa o pm cd doc dV kV ho hd hcd hD hmg hg args vals as hpre hlay hrd hwl hlo
 obtain rfl:dV=.none:=Dflts.none hD hdf
 obtain rfl:kV=.none:=Dflts.noKw hD
 obtain ⟨a,vs,ns,rfl,rfl,hobj,hints,hlen⟩:=Al7 hn hpre hwl
 refine enter_call (codeAny_mono (call w s₀ s₁ mg mb fa o pm cd doc a vs ns G Y ho (fd_plain hd) hcd hmg hobj hints hlen hg) fun r s' hq=>?_)
 obtain ⟨rfl,h2,h3,h4⟩:=hq
 exact ⟨.inl ⟨.bool true,.bool true,[],rfl,fun _=>rfl,.bool true,Al8 l _,fun _=>⟨List.Pairwise.nil,fun _ hm=>(nomatch hm)⟩⟩,h2,h3,h4⟩
section
variable {prog:Program} {w:World} {A:Around} {E:Value→Shared→Prop} {s:Shared} {K:Frag}
end
end Att
namespace L2
open PySem PySem.Spec PyProof.Rows
theorem Ajq:∀ {vs:List Value} {ns:List Int},IntsAre vs ns→Aba (ns.map V.int) vs
 | _,_,.nil=>.nil
 | _,_,.cons n t h=>.cons ⟨t,rfl⟩ (Ajq h)
def Ard (H:Hp):Prop:=∀ b,H b=none∨∃ o xs,H b=some (.frz o (.lst xs))
theorem AnH {P:Program} {w:World} {K:PySem.W.Frag} {mg mb:Str→Option Value} {CX:CXT} {k:Nat} {fa a:Addr} {fd:FuncData} {x:Str} {sp:Sp} {s₁:Shared} {vs:List Value} {ns:List Int}
  (KX:K.In s₁.heap) (hns:s₁.heap.Ns mainGlobals mg) (hb:s₁.heap.Ns builtinsNs mb) (hbb:∀ x:Str,x≠"__name__"→mb x=bootBuiltins x) (hlim:s₁.heap.NoLimit) (hg:s₁.gens=#[])
  (ha:s₁.heap.get? a=some { cls:=.type "list",data:=.seq vs.toArray }) (hi:IntsAre vs ns) (hl:ns.length≤sizeLine) (hr:Af4 k callerA)
  (F:∀ base:Heap,K.In base→base.Ns mainGlobals mg→Aco P w K mg base CX k fa fd [x] sp) (hbind:∀ (s:Shared) (u:Value),BindsTo s fd ⟨[u],[]⟩ [(x,u)])
  (hsp:∀ H:Hp,Ard H→SqL K H a (ns.map V.int)→sp [.ref a] H (fun v _=>v=.bl true) fun _ _ _=>False)
  (hCX:∀ H e s',CX [] H s₁ (fun _ _ _=>False) e s'→False) :
  codeAny (model P w) callerA (.call (.ref fa) ⟨[.ref a],[]⟩) (fun r s'=>r=.ok (.ret (.bool true))∧OldK s₁.heap s'.heap∧s'.os=s₁.os∧AllBare s'.gens) s₁:=by
 have rv:=Ajq hi
 have lenV:=hi.length
 have core:∀ H:Hp,Ard H→SqL K H a (ns.map V.int)→HOk P w H s₁.heap→(∀ b,H b≠none→b=a)→(H a≠none→K.lookup a=none) →
   codeAny (model P w) callerA (.call (.ref fa) ⟨[.ref a],[]⟩) (fun r s'=>r=.ok (.ret (.bool true))∧OldK s₁.heap s'.heap∧s'.os=s₁.os∧AllBare s'.gens) s₁:=by
  intro H hO hS hok hA hK
  have base_of:∀ {b:Addr} {o:Obj},s₁.heap.get? b=some o→H b=none→(Anq s₁.heap H).get? b=some o:=fun e n=>Anr e n
  have noA:∀ {b:Addr} {o:Obj} {es:Array DictEntry} {ep:Nat},s₁.heap.get? b=some o→o.data=.dict es ep→H b=none:=fun {b o es ep} e d=>by
   cases q:H b with
   | none=>rfl
   | some u =>
    have e':b=a:=hA b (by rw [q]; simp)
    subst e'
    rw [ha] at e; cases e
    have d':Data.seq vs.toArray _=Data.dict es ep:=d
    cases d'
  have nsK:∀ {b:Addr} {m:Str→Option Value},s₁.heap.Ns b m→(Anq s₁.heap H).Ns b m:=fun {b m} ⟨o,es,ep,e,d,r⟩=>⟨o,es,ep,base_of e (noA e d),d,r⟩
  have hKb:K.In (Anq s₁.heap H):=fun b o e=>base_of (KX b o e) (by
   cases q:H b with
   | none=>rfl
   | some u =>
    have e':b=a:=hA b (by rw [q]; simp)
    subst e'
    rw [hK (by rw [q]; simp)] at e; cases e)
  have hM:Mod K mg (Anq s₁.heap H):=⟨hKb,nsK hns,⟨mb,nsK hb,hbb⟩,let ⟨mc,h1,h2⟩:=hlim; ⟨mc,nsK h1,h2⟩⟩
  have e0:AoX P w K mg (Anq s₁.heap H) callerA [] s₁ H:=⟨rfl,hM,fun b o e=>AoN e,Nat.le_of_eq (AlP _ _),trivial,fun b hb=>absurd (show b∈([]:List Addr) from hb) (by simp),hok,.of_eq hg⟩
  refine codeAny_mono ((F _ hKb (nsK hns)).run callerA [] s₁ H ⟨[.ref a],[]⟩ [.ref a] [.ref a] _ _ hr e0 (hbind s₁ (.ref a)) (.cons rfl .nil) (hsp H hO hS)) fun r s' h=>?_
  cases r with
  | error e=>exact (hCX H e s' h).elim
  | ok fl =>
   cases fl with
   | next=>exact False.elim h
   | brk=>exact False.elim h
   | cont=>exact False.elim h
   | ret u =>
    obtain ⟨v,H',os,bare,un,hok',r',q⟩:=h
    have q':v=.bl true:=q
    subst q'
    obtain rfl:u=Value.bool true:=r'
    refine ⟨rfl,OldK.of_keep fun b o e=>?_,os,bare⟩
    cases q:H b with
    | none=>exact un.keep b o e q (by intro z; exact absurd (show b∈([]:List Addr) from z) (by simp)) (by simp)
    | some u =>
     rcases hO b with z | ⟨ob,xs,z⟩
     ·rw [q] at z; cases z
     ·have z2:=un.frzs b ob _ z
      obtain ⟨e1,_⟩:=hok b _ z
      obtain ⟨e2,_⟩:=hok' b _ z2
      rw [e] at e1; cases e1
      exact e2
 cases hk:K.lookup a with
 | some o =>
  have e:=KX a o hk
  rw [ha] at e
  cases e
  refine core (fun _=>none) (fun _=>.inl rfl) (.inr ⟨_,vs.toArray,_,hk,rfl,rfl,rfl,by rw [List.size_toArray,lenV]; exact hl,by simpa using rv⟩) (fun b u z=>by have z':(none:Option HO)=some u:=z; cases z') (fun b z=>absurd rfl z) fun z=>absurd rfl z
 | none =>
  refine core (fun b=>if b=a then some (.frz { cls:=.type "list",data:=.seq vs.toArray } (.lst (ns.map V.int))) else none) (fun b=>?_) (.inl (.inr ⟨{ cls:=.type "list",data:=.seq vs.toArray },if_pos rfl⟩)) (fun b u z=>?_) (fun b z=>?_) fun _=>hk
  ·by_cases hb:b=a
   ·exact .inr ⟨_,_,if_pos hb⟩
   ·exact .inl (if_neg hb)
  ·by_cases hb:b=a
   ·have z':=(if_pos hb).symm.trans z
    cases z'
    subst hb
    exact ⟨ha,by rw [List.length_map]; exact hl,vs,_,rv,ha⟩
   ·have z':=(if_neg hb).symm.trans z
    cases z'
  ·by_cases hb:b=a
   ·exact hb
   ·exact absurd (if_neg hb) z
end L2
namespace L2
open PySem PySem.Spec PyProof.Rows
theorem walk_of {l:PySem.W.OpenLaw} {n k:Nat} {q:Program} {loose:List Str} {XP:(Str→Option Value)→Heap→Prop} {YP:World→Heap→Prop} {d:DefRec} {K:Params→PySem.W.Frag} {CX:World→CXT} {sp:World→Sp} {x:Str}
  (hn:l.most=some n) (hn2:n≤sizeLine) (hdf:d.params.defaults=[]) (hr:Af4 k callerA)
  (hY:∀ (w:World) (h:Heap),YP w h→(K w.params).In h)
  (F:∀ (w:World) (mg:Str→Option Value) (fa:Addr) (h:Heap),(K w.params).In h→h.Ns mainGlobals mg→mg d.name=some (.ref fa) →
   ∃ fd:FuncData,(∀ (s:Shared) (u:Value),BindsTo s fd ⟨[u],[]⟩ [(x,u)]) ∧
    ∀ base:Heap,(K w.params).In base→base.Ns mainGlobals mg→Aco l.prog w (K w.params) mg base (CX w) k fa fd [x] (sp w))
  (hsp:∀ (w:World) (H:Hp) (a:Addr) (ns:List Int),ns.length≤n→Ard H→SqL (K w.params) H a (ns.map V.int)→sp w [.ref a] H (fun v _=>v=.bl true) fun _ _ _=>False)
  (hCX:∀ (w:World) (H:Hp) (s:Shared) (e:Value) (s':Shared),CX w [] H s (fun _ _ _=>False) e s'→False) :
  PySem.W.WalkO q loose XP YP l.row.toRowW d [] (fun f vs=>PySem.call f vs):=by
 refine Att.attach_call hn hdf fun w s₀ s₁ mg mb fa o pm cd doc a vs ns G Y ho hd hcd hmg hobj hints hlen hg=>?_
 have KX:=hY w _ Y
 obtain ⟨fd,hb,hF⟩:=F w mg fa _ KX G.T.g hmg
 exact AnH KX G.T.g G.T.b G.T.builtins G.T.nolimit hg hobj hints (Nat.le_trans hlen hn2) hr hF hb (fun H hO hS=>hsp w H a ns hlen hO hS) fun H e s'=>hCX w H s₁ e s'
end L2
namespace L2
open PySem PySem.Spec PyProof.Rows
def Aab (s:Stmt) (j:Nat):Stmt:=match s with
 | .ClassDef _ _ _ body _ _ _ _ _ _ _=>body.getD j (.Pass ⟨0,0,0,0⟩)
 | _=>.Pass ⟨0,0,0,0⟩
def Aao (s:Stmt):Arguments:=match s with
 | .FunctionDef _ a _ _ _ _ _ _ _ _=>a
 | _=>{ posonlyargs:=[],args:=[],vararg:=none,kwonlyargs:=[],kw_defaults:=[],kwarg:=none,defaults:=[] }
def Aam (s:Stmt):List Stmt:=match s with
 | .FunctionDef _ _ b _ _ _ _ _ _ _=>b
 | _=>[]
def Aaa (s:Stmt):Scope:=match s with
 | .FunctionDef _ _ _ _ _ _ sc _ _ _=>sc
 | _=>{ kind:=.function,names:=[],isGenerator:=false,isCoroutine:=false }
abbrev CX0:CXT:=fun _ _ _ _ _ _=>False
abbrev E0:XK:=fun _ _ _=>False
theorem AbO {X:Cx}:AdI CX0 X E0:=fun _ _ _ _ _ _ _ h=>h.elim
structure Fun (K:PySem.W.Frag) (x qual:Str) (st:Stmt) (f:Addr) (fd:FuncData):Prop where
 ex:∃ (oc:Value) (od:Option Addr) (kV doc pm:Value) (an:Option Addr) (cdv ct:Value) (osl:Array (Option Value)),
  fd=PySem.W.fnOf x qual (Aao st) (Aam st) (Aaa st) .none kV doc pm an cdv ct∧K.lookup f=some ⟨oc,od,.func fd,osl⟩∧PySem.W.codeIn K cdv qual=true
 kp:PySem.W.keepIn K (.ref f)=true
section
variable {P:Program} {w:World} {K:PySem.W.Frag} {mg:Str→Option Value} {base:Heap}
theorem Fun.ok {x qual:Str} {st:Stmt} {f:Addr} {fd:FuncData} {N ps:List Str} {k:Nat} {sp:Sp} (F:Fun K x qual st f fd) (S:Aat N ps (Aaa st)) (len:∀ vs H Q E,sp vs H Q E→vs.length=ps.length)
  (hbody:∀ (cdv:Value) (A:Around) (outer:List Env) (s:Shared) (H:Hp) (vs:List V) (Q:VK) (E:XK),Af4 k (A.deeper (envOfC qual (Aaa st) s.heap.objs.size f cdv))→sp vs H Q E →
   ∃ t,PSs (AjT CX0 P w K mg base N qual (Aaa st) f cdv A outer s H E).nox (Aam st) t∧t { nx:=fun _ H'=>Q .non H',rt:=Q } (AaV N vs) H):Aco P w K mg base CX0 (k + 1) f fd ps sp:=by
 obtain ⟨oc,od,kV,doc,pm,an,cdv,ct,osl,rfl,lk,hcd⟩:=F.ex
 refine Ap7 lk hcd S len fun A outer s H vs Q E hr hsp=>?_
 obtain ⟨t,h,q⟩:=hbody cdv A outer s H vs Q E hr hsp
 exact ⟨t,h.nox,q⟩
theorem Fun.binds {x qual:Str} {st:Stmt} {f:Addr} {fd:FuncData} {ps:List Str} (F:Fun K x qual st f fd)
  (h:∀ (kV doc pm:Value) (an:Option Addr) (cdv ct:Value) (us:List Value),us.length=ps.length→bindArgs (PySem.W.fnOf x qual (Aao st) (Aam st) (Aaa st) .none kV doc pm an cdv ct) ⟨us,[]⟩=pure (ps.zip us)):Agj K fd ps []:=by
 obtain ⟨oc,od,kV,doc,pm,an,cdv,ct,osl,rfl,lk,hcd⟩:=F.ex
 exact .all (h kV doc pm an cdv ct)
theorem AaG {x qual:Str} {st:Stmt} {f:Addr} {oc:Value} {od an:Option Addr} {osl:Array (Option Value)} {kV doc pm cdv ct:Value} (l:K.lookup f=some ⟨oc,od,.func (PySem.W.fnOf x qual (Aao st) (Aam st) (Aaa st) .none kV doc pm an cdv ct),osl⟩)
  (c:PySem.W.codeIn K cdv qual=true) (k:PySem.W.keepIn K (.ref f)=true):Fun K x qual st f (PySem.W.fnOf x qual (Aao st) (Aam st) (Aaa st) .none kV doc pm an cdv ct):=⟨⟨oc,od,kV,doc,pm,an,cdv,ct,osl,rfl,l,c⟩,k⟩
end
section
variable {X:Cx}
end
theorem AgH {A B:Prop} (h:B):if false=true then A else B:=by
 rw [if_neg Bool.false_ne_true]
 exact h
theorem AgI {A B:Prop} (h:A):if true=true then A else B:=by
 rw [if_pos rfl]
 exact h
theorem AqO {c A B:Prop} [Decidable c] (h1:c→A) (h2:¬ c→B):if c then A else B:=by
 by_cases h:c
 ·rw [if_pos h]
  exact h1 h
 ·rw [if_neg h]
  exact h2 h
def Aav (H H':Hp):Prop:=∀ b o,H b=some o→H' b=some o
theorem Aav.refl (H:Hp):Aav H H:=fun _ _ h=>h
theorem Aav.trans {H H1 H2:Hp} (a:Aav H H1) (b:Aav H1 H2):Aav H H2:=fun c o h=>b c o (a c o h)
theorem Aav.free {H H':Hp} (e:Aav H H') {l:Addr} (h:H' l=Option.none):H l=Option.none:=by
 cases q:H l with
 | none=>rfl
 | some o =>
  rw [e l o q] at h
  cases h
theorem Aav.seq {K:PySem.W.Frag} {H H':Hp} {a:Addr} {xs:List V} (e:Aav H H') (h:SqL K H a xs):SqL K H' a xs:=by
 rcases h with (h | ⟨o,h⟩) | h
 ·exact .inl (.inl (e _ _ h))
 ·exact .inl (.inr ⟨o,e _ _ h⟩)
 ·exact .inr h
end L2
namespace L2
open PySem PySem.Spec PyProof.Rows
section
variable {P:Program} {w:World}
def CXE (P:Program) (w:World):CXT:=fun outer H s E e s'=>∃ (ea:Addr) (cls a0:Value) (B:Heap) (H':Hp),
 e=.ref ea∧s'.os=s.os∧AllBare s'.gens∧Un (frs outer) [] H H' s.heap s'.heap∧Heap.FlyingW B outer ea cls a0 s'.heap∧HOk P w H' B ∧
 (∀ b o,s.heap.get? b=some o→H b=none→b ∉ frs outer→B.get? b=some o)∧(∀ b o,s.heap.get? b=some o→b ∉ frs outer→∃ o',B.get? b=some o')∧E cls none H'
structure AqP (X:Cx) (pins:List (Addr×Obj)) (σ:St) (H:Hp) (B:Heap) (s:Shared):Prop where
 inv:Inv X pins σ H s
 hok:HOk X.prog X.w H B
 old:∀ b o,X.s₀.heap.get? b=some o→X.H₀ b=none→b ∉ X.fs→b ∉ X.ex→B.get? b=some o
 there:∀ b o,X.s₀.heap.get? b=some o→b ∉ X.fs→b ∉ X.ex→∃ o',B.get? b=some o'
 pin:∀ p∈X.pn++pins,B.get? p.1=some p.2
variable {X:Cx} {pins:List (Addr×Obj)} {σ:St} {H H':Hp} {s s':Shared} {ea:Addr} {cls:Value} {B:Heap}
theorem Inv.neL (I:Inv X pins σ H s) {b:Addr} {o:Obj} (e:X.s₀.heap.get? b=some o):b≠X.env.locals:=Nat.ne_of_lt (Nat.lt_of_lt_of_le (Heap.lt_size e) I.ok.above)
theorem Inv.fly (I:Inv X pins σ H s) {E:XK} {e:Value} (h:CXE X.prog X.w X.stack H s E e s'):∃ ea cls a0 B H',e=.ref ea∧AqP X pins σ H' B s'∧Heap.FlyingW B X.stack ea cls a0 s'.heap∧E cls none H':=by
 obtain ⟨ea,cls,a0,B,H',rfl,os,bare,un,fl,hok,old,there,hE⟩:=h
 refine ⟨ea,cls,a0,B,H',rfl,⟨I.call' os un (hok.kept fl.1) bare (fun b z=>absurd z (by simp)),hok,fun b o e n hf hx=>?_,fun b o e hf hx=>?_,fun p hp=>?_⟩,fl,hE⟩
 ·refine old b o (I.base.keep b o e n hf hx) (I.base.free b o e n hx) fun z=>?_
  rcases List.mem_cons.mp (I.stkSub b z) with q | q
  ·exact I.neL e q
  ·exact hf q
 ·obtain ⟨o',e'⟩:=I.base.there b o e hx
  refine there b o' e' fun z=>?_
  rcases List.mem_cons.mp (I.stkSub b z) with q | q
  ·exact I.neL e q
  ·exact hf q
 ·obtain ⟨e,n,ne,nf,_⟩:=I.pin p hp
  refine old p.1 p.2 e n fun z=>?_
  rcases List.mem_cons.mp (I.stkSub _ z) with q | q
  ·exact ne q
  ·exact nf q
theorem AqP.move (F:AqP X pins σ H B s) {h':Heap} {tk:Nat} (hB:B.StaysIn h') (up:s.heap.UpToSlots h'):Inv X pins σ H { s with heap:=h',toks:=tk }:=by
 have I:=F.inv
 have frame:∀ b,b∈X.fs→∀ o,s.heap.get? b=some o→(∃ o₀,X.s₀.heap.get? b=some o₀)→∃ sl,h'.get? b=some { o with slots:=sl }:=fun b hb o e _=>by
  obtain ⟨_,o1,e1,d1⟩:=I.funs.mem hb
  rw [e] at e1; cases e1
  exact up b o e d1
 have cellK:∀ c v,s.heap.IsCell c v→h'.IsCell c v:=fun c v ⟨o,ho,hd⟩=>by
  obtain ⟨sl,e⟩:=up c o ho fun vs q=>by rw [hd] at q; cases q
  exact ⟨_,e,hd⟩
 refine ⟨I.ok,I.os,I.bare,⟨fun b o e n hf hx=>hB b o (F.old b o e n hf hx),fun b o e n hf hx=>?_,I.base.free,fun b o e hx=>?_,I.base.tups,I.base.frzs,I.base.tbls⟩,?_,fun x c e=>?_,I.free,I.freeC,fun p hp=>?_,F.hok.kept hB,I.len⟩
 ·obtain ⟨sl,e1⟩:=I.base.slot b o e n hf hx
  obtain ⟨sl',e2⟩:=frame b hf _ e1 ⟨o,e⟩
  exact ⟨sl',e2⟩
 ·by_cases hf:b∈X.fs
  ·obtain ⟨o',e1⟩:=I.base.there b o e hx
   obtain ⟨sl',e2⟩:=frame b hf _ e1 ⟨o,e⟩
   exact ⟨_,e2⟩
  ·obtain ⟨o',e'⟩:=F.there b o e hf hx
   exact ⟨o',hB b o' e'⟩
 ·obtain ⟨m,hn,hl⟩:=I.loc
  refine ⟨m,up.ns hn,fun i x v e1 e2 e3=>?_⟩
  obtain ⟨u,r,l⟩:=hl i x v e1 e2 e3
  refine ⟨u,r,?_⟩
  rcases l with l | ⟨k,c,e,z⟩
  ·exact .inl l
  ·exact .inr ⟨k,c,e,cellK c _ z⟩
 ·obtain ⟨v,z⟩:=I.cell x c e
  exact ⟨v,cellK c v z⟩
 ·obtain ⟨_,r⟩:=I.pin p hp
  exact ⟨hB _ _ (F.pin p hp),r⟩
end
end L2
namespace L2
open PySem PySem.Spec PyProof.Rows
section
variable {P:Program} {w:World} {K:PySem.W.Frag} {mg:Str→Option Value} {base:Heap} {N:List Str} {qual:Str} {scope:Scope} {f:Addr} {cd:Value} {A:Around} {outer:List Env} {s₀:Shared} {H₀:Hp} {E:XK}
theorem Abu:AdI (CXE P w) (AjT (CXE P w) P w K mg base N qual scope f cd A outer s₀ H₀ E) E:=by
 intro pins σ H s e s' I h
 obtain ⟨ea,cls,a0,B,H',rfl,F,fl,hE⟩:=I.fly h
 show wpAny _ _ (leaving _ _) _ _ _
 refine wpAny_leaves_onW I.ok.frames rfl fl fun h' fl' up=>?_
 have J:=F.move (tk:=s'.toks) fl'.1 up
 exact ⟨ea,cls,a0,B,H',rfl,J.os,J.bare,J.base,fl',F.hok,fun b o e n hf=>F.old b o e n hf (by simp [AjT]),fun b o e hf=>F.there b o e hf (by simp [AjT]),hE⟩
theorem HOk.hide {H:Hp} {h:Heap} {l:List Addr} (x:HOk P w H h) (n:∀ b∈l,H b=none):HOk P w H (PySem.W.hideAll h l):=fun a o e =>
 (x a o e).stay (fun b u hb q=>PySem.W.hideAll_get l q fun hm=>by
  have z:=n b hm
  rcases hb with rfl | hb
  ·rw [e] at z; cases z
  ·rw [hb] at z; cases z) (fun _ q=>q) fun _ _ q=>q
theorem Ao9 {C:Addr} {bmB:List Value} {newId:String} (q:PySem.W.excIn K C bmB newId=true):∃ nm qn N bs bm hd sn sub ab col dd k0 k1 k2 k3 k5,
  K.lookup C=some (excClassObj nm qn C N bs bm hd sn sub ab col dd k0 k1 k2 k3 k5 newId)∧PySem.W.nsOkIn K N=true∧PySem.W.nsIn K N "__init__"=some none∧PySem.W.tailIn K bmB bm=true:=by
 unfold PySem.W.excIn at q
 split at q
 ·rename_i dd cd sl ho
  split at q
  ·rename_i C' bm k0 k1 k2 k3 n k5 hm hs
   simp only [Bool.and_eq_true,beq_iff_eq,Bool.not_eq_true'] at q
   obtain ⟨⟨⟨⟨⟨rfl,rfl⟩,hdel⟩,ht⟩,hok⟩,hni⟩:=q
   obtain ⟨nm,bs,mro,ns,qn,hd,sn,sub,ab,col,del⟩:=cd
   dsimp only at hm hdel hok hni
   subst hm hdel
   have hsl:sl=#[k0,k1,k2,k3,some (.builtin n),k5]:=by
    obtain ⟨l⟩:=sl
    simp only at hs
    rw [hs]
   subst hsl
   exact ⟨nm,qn,ns,bs,bm,hd,sn,sub,ab,col,dd,k0,k1,k2,k3,k5,ho,hok,hni,ht⟩
  ·cases q
 ·cases q
theorem Apa {N:Addr} (hok:PySem.W.nsOkIn K N=true) {h:Heap} (X:K.In h):∃ mN,(∀ h',K.In h'→h'.Ns N mN)∧∀ x,PySem.W.nsIn K N x=some none→mN x=none:=by
 have i:=PySem.W.isNs_of_in X hok
 refine ⟨h.nsMap N,fun h' X'=>?_,fun x e=>PySem.W.nsMap_none_of_in X hok e⟩
 obtain ⟨o,es,ep,ho,r⟩:=Heap.Ns.of_isNs i
 refine ⟨o,es,ep,?_,r⟩
 unfold PySem.W.nsOkIn at hok
 split at hok
 ·rename_i q
  have e:=X _ _ q
  rw [ho] at e; cases e
  exact X' _ _ q
 ·cases hok
def Al9 (X:Cx) (W:St→XK):Prop:=∀ (pins:List (Addr×Obj)) (σ:St) (H:Hp) (s:Shared) (ea:Addr) (h':Heap) (C:Addr) (args:List Value),Inv X pins σ H s→Heap.MadeExcOf s.heap h' ea (.ref C) args→W σ (.ref C) none H→X.xe (.ref ea) { s with heap:=h' }
def AoC (W:St→XK) (C:Addr) (ta:TA):TS:=fun _ σ H=>ta σ H fun vs H1=>vs.length≤sizeLine∧W σ (.ref C) none H1
theorem AnI {X:Cx} {W:St→XK} {C:Addr} {x:Str} {np cpos pos:Pos} {e:Expr} {es:List Expr} {t:TA} (ht:Al9 X W) (hc:X.calm=true)
  (q:PySem.W.excIn X.K C [.type "ValueError",.type "Exception",.type "BaseException",.type "object"] "ValueError.__new__"=true) (hm:X.mg x=some (.ref C)) (ha:PA X (e :: es) t) (hg:Gl X x:=by rfl)
  (hd:(x == ("__debug__":Str))=false:=by decide) (he:starEach (e :: es) X.env=(false,eval e X.env) :: starEach es X.env:=by rfl)
  (hpl:(backTo cpos (starEach es X.env)).any (·.1)=false:=by rfl) :
  PS X (.Raise (some (.Call (.Name x np) (e :: es) [] cpos)) none pos) (AoC W C t):=by
 intro pins s σ H D I h
 obtain ⟨nm,qn,NN,bs,bm,hdc,sn,sub,ab,col,dd,k0,k1,k2,k3,k5,lk,hok,hni,tl⟩:=Ao9 q
 obtain ⟨mN,hN,hno⟩:=Apa hok I.kIn
 have hb:bm.contains (.type "BaseException")=true:=(PySem.W.tail_of_in I.kIn tl).hasType F.excBase_ValueError.hasBase
 refine wpAny_Raise_call_subT (nm:=nm) (q:=qn) (C:=C) (N:=NN) (bs:=bs) (hdct:=hdc) (sn:=sn) (sub:=sub) (ab:=ab) (col:=col) (dd:=dd) (k0:=k0) (k1:=k1) (k2:=k2) (k3:=k3) (k5:=k5) (mN:=mN) F.excBase_ValueError hb (I.ok.hd hc) (by rw [he]; show (false || _)=false; exact hpl) (hno _ hni) (Aiw I hg hm ⟨rfl,?_⟩ hd)
 have key:=ha cpos pins s σ H _ I h
 rw [he] at key ⊢
 refine Calls.evalArgs_plain (wpAny_mono key (fun us s2 ⟨vs,H1,I1,r,hl,hE⟩=>?_) fun _ _ z=>z)
 exact ⟨rfl,(by rw [← r.length]; exact hl),I1.kIn _ _ lk,hN _ I1.kIn,PySem.W.tail_of_in I1.kIn tl,fun h' ea mx=>ht pins σ H1 s2 ea h' C _ I1 mx hE⟩
theorem Inv.lies {X:Cx} {pins:List (Addr×Obj)} {σ:St} {H:Hp} {s:Shared} (I:Inv X pins σ H s):AqP X pins σ H (PySem.W.hideAll s.heap (frs X.stack)) s:=by
 have nl:∀ {b:Addr} {o:Obj},X.s₀.heap.get? b=some o→b ∉ X.fs→b ∉ frs X.stack:=fun {b o} e nf z=>by
  rcases List.mem_cons.mp (I.stkSub b z) with y | y
  ·exact I.neL e y
  ·exact nf y
 refine ⟨I,I.hok.hide I.stkFree,fun b o e n hf hx=>PySem.W.hideAll_get _ (I.base.keep b o e n hf hx) (nl e hf),fun b o e hf hx=>?_,fun p hp=>?_⟩
 ·obtain ⟨o',e'⟩:=I.base.there b o e hx
  exact ⟨o',PySem.W.hideAll_get _ e' (nl e hf)⟩
 ·obtain ⟨e,n,ne,nf,_⟩:=I.pin p hp
  refine PySem.W.hideAll_get _ e fun z=>?_
  rcases List.mem_cons.mp (I.stkSub _ z) with y | y
  ·exact ne y
  ·exact nf y
theorem Aa0:Al9 (AjT (CXE P w) P w K mg base N qual scope f cd A outer s₀ H₀ E) (fun _=>E):=by
 intro pins σ H s2 ea h' C args I mx hE
 have L:=I.lies
 have hin:∀ env∈(AjT (CXE P w) P w K mg base N qual scope f cd A outer s₀ H₀ E).stack,∀ b,env.frame=some b→b∈frs (AjT (CXE P w) P w K mg base N qual scope f cd A outer s₀ H₀ E).stack:=fun env he b hb=>List.mem_filterMap.mpr ⟨env,he,hb⟩
 show wpAny _ _ (leaving _ _) _ _ _
 refine wpAny_leaves_madeW (s:={ s2 with heap:=h' }) (base:=PySem.W.hideAll s2.heap (frs (AjT (CXE P w) P w K mg base N qual scope f cd A outer s₀ H₀ E).stack)) (h:=s2.heap) I.ok.frames rfl (fun b o z=>PySem.W.of_hideAll _ z) (PySem.W.funFrames_hide I.stack hin) mx fun h'' t fl tup tn up=>?_
 have J:=L.move (tk:=s2.toks) fl.1 ((Heap.UpToSlots.of_keeps mx.keeps).trans up)
 exact ⟨ea,.ref C,.ref t,_,H,rfl,J.os,J.bare,J.base,fl,L.hok,fun b o e n hf=>L.old b o e n hf (by simp [AjT]),fun b o e hf=>L.there b o e hf (by simp [AjT]),hE⟩
end
end L2
namespace L2
open PySem PySem.Spec PyProof.Rows
section
variable {X:Cx} {pins:List (Addr×Obj)} {σ:St} {H:Hp} {s:Shared}
def Aqf (ea:Addr) (cls:Value):HO:=.ext fun h=>∃ o vs,h.get? ea=some o∧o.cls=cls∧o.data=.fields vs
end
end L2
namespace L2
open PySem PySem.Spec PySem.Calls PyProof.Rows PySem.W PySem.Builtin PySem.Builtin.ObjectAttr PySem.Builtin.Getset_descriptor
open Sem (wp)
def Are (ea:Addr) (cls:Value) (h:Heap):Prop:=∃ o vs,h.get? ea=some o∧o.cls=cls∧o.data=.fields vs
structure Agk (K:Frag) (C:Addr):Prop where
 cls:(clsIn K C).isSome=true
 ga:findIn K (.ref C) "__getattribute__"=some (some (.builtin "BaseException.__getattribute__"))
 gt:findIn K (.ref C) "__getattr__"=some none
 cl:findIn K (.ref C) "__class__"=some (some (.builtin "object.__class__"))
 ob:subIn K (.ref C) (.type "object")=some true
 be:subIn K (.ref C) (.type "BaseException")=some true
section
variable {prog:Program} {w:World} {A:Around} {E:Value→Shared→Prop} {K:Frag} {C ea:Addr} {h:Heap} {g:Array GenState} {d:Drawn} {t:Nat} {os:OsState} {o:Obj}
theorem AiD {M:Model} (hx:h.get? ea=some o) (hc:o.cls=.ref C):Looks M h (typeOf (.ref ea)) (.ref C):=hc▸(Looks.ld hx).andThen .now
theorem AiE {R:Result→Shared→Prop} (X:K.In h) (c:Agk K C) (hx:h.get? ea=some o) (hc:o.cls=.ref C) (hq:R (.ok (.ret (.ref C))) ⟨h,g,d,t,os⟩) :
  codeAny (model prog w) A (.call (.builtin "getset_descriptor.__get__") ⟨[.builtin "object.__class__",.ref ea,.ref C],[]⟩) R ⟨h,g,d,t,os⟩:=by
 have L0:=AiD (M:=model prog w) hx hc
 have L1:=looks_subIn (M:=model prog w) X c.ob
 refine codeAny_call_builtin KF.slot_gs.plain KF.entry_gs (KF.slot_gs.check _ _ _ _ _ _ _ _ KF.type_class (KF.args_gs _ _ _) ?_)
 unfold Builtin.«getset_descriptor.__get__» descrGet
 rw [dga_obj]
 refine wpAny_bind (wpAny_pure ?_)
 unfold descrGetter descrCheckInstance descrNameAndClass isInstance
 simp only [KF.owner_class]
 repeat lk
 refine ⟨Code.quiet_builtin _ (by decide +kernel),codeAny_builtin KF.entry_class ?_⟩
 unfold Builtin.«object.__class__» shownTypeOf
 repeat lk
 exact hq
theorem Ajr {M:Model} {nameV:Value} {Q:Unit→Shared→Prop} (X:K.In h) (c:Agk K C) (hx:h.get? ea=some o) (hc:o.cls=.ref C) (hq:Q () ⟨h,g,d,t,os⟩) :
  wpAny M A (checkBuiltinCall "BaseException.__getattribute__" ⟨[.ref ea,nameV],[]⟩) Q E ⟨h,g,d,t,os⟩:=by
 have hk:builtinKind "BaseException.__getattribute__"=some .slot:=by decide +kernel
 have hsplit:splitId "BaseException.__getattribute__"=some ("BaseException","__getattribute__"):=by decide +kernel
 have L0:=AiD (M:=M) hx hc
 have L1:=looks_subIn (M:=M) X c.be
 have ha:=F.args_bexc_ga (.ref ea) nameV
 have LI:Looks M h (isInstance (.ref ea) (.type "BaseException")) true:=L0.andThen L1
 simp only [checkBuiltinCall,hk,hsplit]
 refine wpAny_bind (LI.at ?_)
 repeat (first | assumption | lk | wp_step)
theorem Ama {tk:Tok} {Q:Fin→Shared→Prop} (X:K.In h) (c:Agk K C) (hx:h.get? ea=some o) (hc:o.cls=.ref C) (hq:Q (.done (.ret (.ref C))) ⟨h,g,d,t,os⟩) :
  wpAny (model prog w) A (Builtin.«object.__getattribute__» ⟨[.ref ea,.str "__class__" tk],[]⟩) Q E ⟨h,g,d,t,os⟩:=by
 have hT5:(⟨h,g,d,t,os⟩:Shared).TypeIs (.builtin "object.__class__") "getset_descriptor":=F.typeOf_object_class
 have L2:=looks_findIn (M:=model prog w) X c.cl
 have f5:=F.typeOf_object_class
 have f6:=F.slot_gs_get.lookup
 have f7:=F.slot_gs_set.lookup
 repeat (any_goals (first | assumption | (with_reducible refine wpAny_loadPart_at hx ?_; rw [hc]) | with_reducible refine L2.at ?_ | wp_step))
 refine AiE X c hx hc ?_
 repeat (any_goals (first | assumption | wp_step))
theorem Aqg {tk:Tok} {Q:Value→Shared→Prop} (X:K.In h) (c:Agk K C) (hx:h.get? ea=some o) (hc:o.cls=.ref C) (hq:Q (.ref C) ⟨h,g,d,t,os⟩) :
  wpAny (model prog w) A (getAttrBy (.ref ea) (.str "__class__" tk) false) Q E ⟨h,g,d,t,os⟩:=by
 have f3:=F.attr_ValueError.ga.bind (.ref ea)
 have hx2:(Value.builtin "BaseException.__getattribute__" == Value.builtin "object.__getattribute__")=false:=by decide +kernel
 have hx1:(onTheHeap (Value.ref C) && Value.builtin "BaseException.__getattribute__" == Value.builtin "object.__getattribute__")=false:=by rw [hx2]; rfl
 have L2:=looks_findIn (M:=model prog w) X c.ga
 have L3:=looks_findIn (M:=model prog w) X c.gt
 repeat (any_goals (first | assumption | (with_reducible refine wpAny_loadPart_at hx ?_; rw [hc]) | with_reducible refine L2.at ?_ | with_reducible refine L3.at ?_ | wp_step))
 refine codeAny_call_builtin F.attr_ValueError.ga.plain F.entry_bexc_ga (Ajr X c hx hc (Ama X c hx hc ?_))
 repeat (any_goals (first | assumption | wp_step))
theorem AnJ {Q:Option Value→Shared→Prop} (X:K.In h) (c:Agk K C) (hx:h.get? ea=some o) (hc:o.cls=.ref C) (hq:Q (some (.ref C)) ⟨h,g,d,t + 1,os⟩):wpAny (model prog w) A (getAttr? (.ref ea) "__class__") Q E ⟨h,g,d,t,os⟩:=by
 unfold getAttr? getAttrBy?
 repeat (any_goals (first | assumption | with_reducible apply Aqg X c hx hc | wp_step))
theorem AkW (c:Agk K C):KitX K (.ref ea) (.ref C) (Are ea (.ref C)) where
 ty:=fun _ _ _ ⟨_,_,e,q,_⟩=>AiD e q
 it:=fun _ _ X _=>by
  obtain ⟨cdD,hcD⟩:=Option.isSome_iff_exists.mp c.cls
  unfold clsIn at hcD
  split at hcD
  ·rename_i c' d' cd' sl' ho
   intro A' Q' E' s' k q
   unfold isType loadHead
   exact wpAny_bind (wpAny_loadPart (k _ _ (X _ _ ho)) (wpAny_pure q))
  ·cases hcD
 ne:=fun h tp dd its n sl X htp=>by
  obtain ⟨cdD,hcD⟩:=Option.isSome_iff_exists.mp c.cls
  refine Bool.eq_false_iff.mpr fun q=>?_
  have e:C=tp:=Value.ref.inj (beq_iff_eq.mp q)
  subst e
  unfold clsIn at hcD
  split at hcD
  ·rename_i c' d' cd' sl' ho
   have z:=(X _ _ ho).symm.trans htp
   cases z
  ·cases hcD
 ca:=fun {prog w A E Q s} X ⟨o,vs,e,q,_⟩ k=>by
  obtain ⟨h,g,d,t,os⟩:=s
  exact AnJ X c e q k
end
end L2
namespace L2
open PySem PySem.Spec PyProof.Rows
mutual
inductive Is (K:PySem.W.Frag) (H:Hp):V→PyData→Prop
 | non:Is K H .non .none
 | bl (b:Bool):Is K H (.bl b) (.bool b)
 | int (i:Int):Is K H (.int i) (.int i)
 | str (x:Str):Is K H (.str x) (.str x)
 | lst {a:Addr} {xs:List V} {ds:List PyData}:SqL K H a xs→IsAll K H xs ds→Is K H (.ref a) (.list ds)
 | tup {a:Addr} {xs:List V} {ds:List PyData}:SqT K H a xs→IsAll K H xs ds→Is K H (.ref a) (.tuple ds)
inductive IsAll (K:PySem.W.Frag) (H:Hp):List V→List PyData→Prop
 | nil:IsAll K H [] []
 | cons {x:V} {xs:List V} {d:PyData} {ds:List PyData}:Is K H x d→IsAll K H xs ds→IsAll K H (x :: xs) (d :: ds)
end
theorem Aav.tup {K:PySem.W.Frag} {H H':Hp} {a:Addr} {xs:List V} (e:Aav H H') (h:SqT K H a xs):SqT K H' a xs:=by
 rcases h with (h | ⟨o,h⟩) | h
 ·exact .inl (.inl (e _ _ h))
 ·exact .inl (.inr ⟨o,e _ _ h⟩)
 ·exact .inr h
section
variable {X:Cx} {pins:List (Addr×Obj)} {σ:St} {H H':Hp} {s:Shared} {K:PySem.W.Frag}
mutual
theorem Is.same:∀ (d:PyData) {x:V},Is K H x d→Aav H H'→Is K H' x d
 | .none,_,r,_=>by cases r; exact .non
 | .bool _,_,r,_=>by cases r; exact .bl _
 | .int _,_,r,_=>by cases r; exact .int _
 | .str _,_,r,_=>by cases r; exact .str _
 | .list ds,_,r,e=>by cases r with | lst h1 h2=>exact .lst (e.seq h1) (IsAll.same ds h2 e)
 | .tuple ds,_,r,e=>by cases r with | tup h1 h2=>exact .tup (e.tup h1) (IsAll.same ds h2 e)
 | .dict _,_,r,_=>nomatch r
theorem IsAll.same:∀ (ds:List PyData) {xs:List V},IsAll K H xs ds→Aav H H'→IsAll K H' xs ds
 | [],_,r,_=>by cases r; exact .nil
 | d :: ds,_,r,e=>by cases r with | cons h1 h2=>exact .cons (Is.same d h1 e) (IsAll.same ds h2 e)
end
mutual
theorem Is.reads:∀ (d:PyData) {x:V} {u:Value},Inv X pins σ H s→Is X.K H x d→AbQ x u→∃ as,Reads s.heap u d as
 | .none,_,_,_,r,q=>by cases r; cases q; exact ⟨_,.none⟩
 | .bool _,_,_,_,r,q=>by cases r; cases q; exact ⟨_,.bool _⟩
 | .int _,_,_,_,r,q=>by cases r; obtain ⟨t,rfl⟩:=q; exact ⟨_,.int _ _⟩
 | .str _,_,_,_,r,q=>by cases r; obtain ⟨t,rfl⟩:=q; exact ⟨_,.str _ _⟩
 | .list ds,_,_,I,r,q=>by
  cases r with
  | lst h1 h2 =>
   cases q
   obtain ⟨its,rv,⟨o,n,e,c,_,d⟩,_⟩:=I.list h1
   obtain ⟨as,ra⟩:=IsAll.reads ds I h2 rv
   exact ⟨_,.list e c d (by simpa using ra)⟩
 | .tuple ds,_,_,I,r,q=>by
  cases r with
  | tup h1 h2 =>
   cases q
   obtain ⟨its,rv,⟨o,e,c,n,d⟩,_⟩:=I.tuple h1
   obtain ⟨as,ra⟩:=IsAll.reads ds I h2 rv
   exact ⟨_,.tuple e c d (by simpa using ra)⟩
 | .dict _,_,_,_,r,_=>nomatch r
theorem IsAll.reads:∀ (ds:List PyData) {xs:List V} {us:List Value},Inv X pins σ H s→IsAll X.K H xs ds→Aba xs us→∃ as,ReadsAll s.heap us ds as
 | [],_,_,_,r,q=>by cases r; cases q; exact ⟨_,.nil⟩
 | d :: ds,_,_,I,r,q=>by
  cases r with
  | cons h1 h2 =>
   cases q with
   | cons q1 q2 =>
    obtain ⟨as,ra⟩:=Is.reads d I h1 q1
    obtain ⟨bs,rb⟩:=IsAll.reads ds I h2 q2
    exact ⟨_,.cons ra rb⟩
end
def AqQ (K:PySem.W.Frag) (neg:Bool):R2:=fun x y H Q=>∃ d d',Is K H x d∧Is K H y d'∧d.canLay0=true∧d'.canLay0=true∧d.depth≤32∧Q (.bl (if neg then !PyData.eqv d d' else PyData.eqv d d')) H
theorem Aqh (hu:X.A.units + 64 < cLine):OpR X (compareOp .Eq) (AqQ X.K false):=by
 intro pins s σ H x y v u Q I rx ry ⟨d,d',h1,h2,c1,c2,hd,q⟩
 obtain ⟨as,ra⟩:=Is.reads d I h1 rx
 obtain ⟨bs,rb⟩:=Is.reads d' I h2 ry
 exact SeqAt.rcAt_reads ra rb c1 c2 (by have:=Nat.min_le_left d.depth d'.depth; omega) _ _ _ _ ⟨.bl _,H,I,rfl,q⟩
theorem Aqi (hu:X.A.units + 64 < cLine):OpR X (compareOp .NotEq) (AqQ X.K true):=by
 intro pins s σ H x y v u Q I rx ry ⟨d,d',h1,h2,c1,c2,hd,q⟩
 obtain ⟨as,ra⟩:=Is.reads d I h1 rx
 obtain ⟨bs,rb⟩:=Is.reads d' I h2 ry
 exact SeqAt.rcNeAt_reads ra rb c1 c2 (by have:=Nat.min_le_left d.depth d'.depth; omega) _ _ _ _ ⟨.bl _,H,I,rfl,q⟩
end
end L2
namespace L2
open PySem PySem.Spec PyProof.Rows
def ApP {α:Type} (cs:List α) (lo hi:Option Int):List α:=(cs.drop (HT.sIx cs.length 0 lo)).take (HT.sIx cs.length cs.length hi - HT.sIx cs.length 0 lo)
def AqR (z:Str) (lo hi:Option Int):Str:=⟨(ApP z.cps.toList lo hi).toArray⟩
theorem Aj0 (z:Str) (lo hi:Option Int):(AqR z lo hi).length≤z.length:=by
 show ((ApP z.cps.toList lo hi).toArray).size≤z.cps.size
 rw [List.size_toArray]
 unfold ApP
 rw [List.length_take,List.length_drop]
 simp only [Array.length_toList]
 omega
theorem Ajs (n:Nat) (o:Option Int):HT.sIx n n o≤n:=HT.sIx_le n n (Nat.le_refl _) o
theorem Ajt (n:Nat) (o:Option Int):HT.sIx n 0 o≤n:=HT.sIx_le n 0 (Nat.zero_le _) o
theorem Amb (a b:Nat):sliceRange (a:Int) (b:Int) 1=(List.range (b - a)).map (fun k=>a + k):=by
 unfold sliceRange
 simp only [show ((1:Int) > 0) from by decide,if_true]
 by_cases hlt:(a:Int) < b
 ·have e3:(((b:Int) - a + 1 - 1) / 1).toNat=b - a:=by simp <;> omega
  simp only [hlt,if_true,e3]
  refine List.map_congr_left fun k _=>?_
  omega
 ·have:b - a=0:=by omega
  simp [hlt,this]
theorem Amc (lo hi:Option Int) (n:Nat):Builtin.Str.strSliceIndices lo hi 1 n=(List.range (HT.sIx n n hi - HT.sIx n 0 lo)).map (fun k=>HT.sIx n 0 lo + k):=by
 have key:∀ (v:Int) (d:Nat),max (0:Int) (min (if v < 0 then v + (n:Int) else v) (n:Int))=((HT.sIx n d (some v):Nat):Int):=by
  intro v d
  rw [← HT.clip_eq v n d]
  by_cases hv:v < 0
  ·rw [if_pos hv,if_pos hv]; omega
  ·rw [if_neg hv,if_neg hv]; omega
 rw [← Amb]
 cases lo with
 | none =>
  cases hi with
  | none=>rfl
  | some b =>
   show sliceRange 0 (max (0:Int) (min (if b < 0 then b + (n:Int) else b) (n:Int))) 1=_
   rw [key b n]
   rfl
 | some a =>
  cases hi with
  | none =>
   show sliceRange (max (0:Int) (min (if a < 0 then a + (n:Int) else a) (n:Int))) (n:Int) 1=_
   rw [key a 0]
   rfl
  | some b =>
   show sliceRange (max (0:Int) (min (if a < 0 then a + (n:Int) else a) (n:Int))) (max (0:Int) (min (if b < 0 then b + (n:Int) else b) (n:Int))) 1=_
   rw [key a 0,key b n]
theorem Alq (z:Str) (lo hi:Option Int):(Builtin.Str.strSliceIndices lo hi 1 z.length).filterMap (z.cps[·]?)=ApP z.cps.toList lo hi:=by
 rw [Amc]
 have h1:=Ajs z.length hi
 have h2:=Ajt z.length lo
 have hl:z.cps.toList.length=z.length:=by simp [Str.length]
 unfold ApP
 rw [hl]
 by_cases hc:HT.sIx z.length 0 lo≤HT.sIx z.length z.length hi
 ·have:=PySem.StrLaws.picks z.cps.toList (HT.sIx z.length z.length hi - HT.sIx z.length 0 lo) (HT.sIx z.length 0 lo) (by rw [hl]; omega)
  simpa using this
 ·have e:HT.sIx z.length z.length hi - HT.sIx z.length 0 lo=0:=by omega
  rw [e]
  simp
theorem Amd (z:Str) (lo hi:Option Int) (h:(Builtin.Str.strSliceIndices lo hi 1 z.length).length=z.length):AqR z lo hi=z:=by
 rw [Amc,List.length_map,List.length_range] at h
 have h1:=Ajs z.length hi
 have h2:=Ajt z.length lo
 have hl:z.cps.toList.length=z.length:=by simp [Str.length]
 unfold AqR ApP
 rw [hl]
 by_cases h0:z.length=0
 ·have:z.cps.toList=[]:=List.length_eq_zero_iff.mp (by omega)
  rw [this]
  cases z with | mk c=>cases c; simp_all
 ·have e1:HT.sIx z.length 0 lo=0:=by omega
  have e2:HT.sIx z.length z.length hi=z.length:=by omega
  rw [e1,e2,List.drop_zero,Nat.sub_zero,List.take_of_length_le (by omega)]
section
variable {X:Cx}
def ArJ:V→Option Int→Option Int→Hp→VK→Prop:=fun x lo hi H Q=>∃ z,x=.str z∧z.length≤sizeLine∧Q (.str (AqR z lo hi)) H
theorem Aqj:SlR X ArJ:=by
 intro pins s σ H x v vl vu lo hi sl Q I rx hs pl pu h
 obtain ⟨z,rfl,hz,q⟩:=h
 obtain ⟨t,rfl⟩:=rx
 refine ⟨"str",_,F.slot_str_getitem.lookup,typeIs_str s z t,?_⟩
 obtain ⟨l,hl,hl2⟩:∃ l,vl=partValue l∧l.map (·.1)=lo:=by
  cases pl with
  | none=>exact ⟨none,rfl,rfl⟩
  | int i t=>exact ⟨some (i,t),rfl,rfl⟩
 obtain ⟨u,hu,hu2⟩:∃ u,vu=partValue u∧u.map (·.1)=hi:=by
  cases pu with
  | none=>exact ⟨none,rfl,rfl⟩
  | int i t=>exact ⟨some (i,t),rfl,rfl⟩
 subst hl hu
 refine wpAny_getItem_str_slice (l:=l) (u:=u) (st:=none) hs rfl ?_
 unfold sliceMade slicePicked
 simp only [Option.map_none,Option.getD_none,hl2,hu2,beq_self_eq_true,Bool.true_and]
 by_cases hc:((Builtin.Str.strSliceIndices lo hi 1 z.length).length == z.length)=true
 ·rw [if_pos hc]
  rw [Amd z lo hi (beq_iff_eq.mp hc)] at q
  exact ⟨.str z,H,I,⟨t,rfl⟩,q⟩
 ·rw [if_neg hc,Alq]
  exact ⟨Nat.le_trans (Aj0 z lo hi) hz,.str _,H,I.tok _,⟨_,rfl⟩,q⟩
def Apb (z:Str) (n:Int):Str:=⟨(List.replicate n.toNat z.cps.toList).flatten.toArray⟩
def Aqk:R2:=fun x y H Q=>∃ z n,x=.str z∧y=.int n∧0≤n∧n < 2 ^ 40∧z.length * n.toNat≤sizeLine∧Q (.str (Apb z n)) H
end
end L2
namespace PySem.SeqAt
open AutoSeq1 (wpAny_loadPart')
open MeetsSeq MeetsSeq2 MeetsSeq3 SeqRoads2
end PySem.SeqAt
namespace L2
open PySem PySem.Spec PyProof.Rows
section
variable {X:Cx}
theorem Apc:OpR X (binaryOp .Mult) Aqk:=by
 intro pins s σ H x y v u Q I rx ry ⟨z,n,e1,e2,h0,hn,hz,q⟩
 subst e1 e2
 obtain ⟨t,rfl⟩:=rx
 obtain ⟨t',rfl⟩:=ry
 have fold:∀ (k:Nat) (acc:List Nat),((List.replicate k z.cps).foldl (·++·) acc.toArray)=(acc++(List.replicate k z.cps.toList).flatten).toArray:=by
  intro k
  induction k with
  | zero=>intro acc; simp
  | succ k ih =>
   intro acc
   rw [List.replicate_succ,List.foldl_cons,List.replicate_succ,List.flatten_cons]
   have e:acc.toArray++z.cps=(acc++z.cps.toList).toArray:=by simp
   rw [e,ih,List.append_assoc]
 have f0:=fold n.toNat []
 simp only [List.nil_append] at f0
 have len:(Apb z n).length=z.length * n.toNat:=by
  show (List.flatten _).toArray.size=_
  rw [List.size_toArray,List.length_flatten,List.map_replicate,List.sum_replicate_nat]
  simp [Str.length,Nat.mul_comm]
 have sl:sizeLine≤2 ^ 40:=by rw [sizeLine_eq]; decide
 refine P.mul_str (by simp; omega) (fun h1 _=>?_) (fun _ _=>?_) ?_
 ·have hn0:0 < n:=by omega
  have:((z.length:Int))≤(2 ^ 63 - 1) / n:=by
   rw [Int.le_ediv_iff_mul_le hn0]
   have:((z.length * n.toNat:Nat):Int)≤2 ^ 40:=by omega
   rw [Int.natCast_mul,Int.toNat_of_nonneg h0] at this
   omega
  omega
 ·unfold Builtin.Str.tooLong
  rw [decide_eq_false_iff_not]
  omega
 ·by_cases h1:n < 1
  ·have e:n=0:=by omega
   subst e
   rw [if_pos h1]
   have e2:Apb z 0=Str.empty:=rfl
   rw [e2] at q
   exact ⟨by decide,.str _,H,I.tok _,⟨_,rfl⟩,q⟩
  ·rw [if_neg h1]
   by_cases h2:(n == 1 || z.length == 0)=true
   ·rw [if_pos h2]
    have e2:Apb z n=z:=by
     rcases Bool.or_eq_true_iff.mp h2 with h | h
     ·have e:n=1:=beq_iff_eq.mp h
      subst e
      show (⟨(List.replicate 1 z.cps.toList).flatten.toArray⟩:Str)=z
      simp
     ·have e:z.length=0:=beq_iff_eq.mp h
      have e':z.cps.toList=[]:=List.length_eq_zero_iff.mp (by simpa [Str.length] using e)
      unfold Apb
      rw [e']
      cases z with | mk c=>cases c; simp_all
    rw [e2] at q
    exact ⟨.str _,H,I,⟨_,rfl⟩,q⟩
   ·rw [if_neg h2]
    have e2:(⟨(List.replicate n.toNat z.cps).foldl (·++·) #[]⟩:Str)=Apb z n:=by
     unfold Apb
     rw [← f0]
    rw [e2]
    exact ⟨by rw [len]; exact hz,.str _,H,I.tok _,⟨_,rfl⟩,q⟩
def Its (z:Str):It:=⟨fun i _=>i < z.cps.size,fun i H x H'=>H'=H∧∃ c,z.cps.toList[i]?=some c∧x=.str ⟨#[c]⟩,fun i _=>z.cps.size≤i⟩
theorem AnK {P:Program} {w:World} {K:PySem.W.Frag} {tg:Expr} (z:Str) (t:Tok) (it:Addr):AoR P w K tg (Its z) [it] it (fun i h=>h.IsStrIter it "str_ascii_iterator" z t i) where
 mem:=by simp
 obj:=fun i h st b hb=>by
  have e:b=it:=by simpa using hb
  subst e
  obtain ⟨o,e,c,d⟩:=st
  exact ⟨o,e,fun v z=>by rw [d] at z; cases z⟩
 keep:=fun i h h' ⟨o,e,r⟩ k=>⟨o,k it (by simp) o e,r⟩
 item:=by
  intro X hP hw hK hc i pins s σ H E I hf st hg
  subst hP hw hK
  obtain ⟨f0,f1,f2,f3,f4,f5⟩:=hf it (by simp)
  have hx:z.cps[i]?=some z.cps[i]:=Array.getElem?_eq_getElem hg
  refine wpAny_pyNext_ascii_item st hx fun h' st' sb=>?_
  have I1:Inv X pins σ H { s with heap:=h',toks:=s.toks + 1 }:=I.turned (t':=s.toks + 1) (fun b o hb e=>(sb.2 b hb).trans e) f0 f1 f3 f4 f5
  obtain ⟨o,e,c,d⟩:=id st'
  exact ⟨_,rfl,Ant (s:={ s with heap:=h',toks:=s.toks + 1 }) e c d (by decide) ⟨.str _,H,I1,⟨_,rfl⟩,⟨rfl,z.cps[i],by rw [Array.getElem?_toList]; exact hx,rfl⟩,st',fun b hb=>(hf b hb).1⟩⟩
 done:=by
  intro X hP hw hK hc i pins s σ H E I hf st hg
  subst hP hw hK
  obtain ⟨f0,f1,f2,f3,f4,f5⟩:=hf it (by simp)
  exact wpAny_pyNext_ascii_end (I.ok.hd hc) st (Array.getElem?_eq_none hg) fun h' eb=>⟨rfl,I.turned (t':=s.toks) (fun b o hb e=>eb b o hb e) f0 f1 f3 f4 f5⟩
 self:=fun _ _ _ _ _ st h=>wpAny_pyIter_striter_ascii st h
def Ar4 (tl:TE):TI:=fun σ H R=>tl σ H fun x H1=>∃ z,x=.str z∧z.cps.all (· < 128)=true∧R (Its z) H1
theorem Aql {tg l:Expr} {tl:TE} (hl:PE X l tl):PI X tg l (Ar4 tl):=by
 intro pins s σ H R I h
 refine thn (hl pins s σ H _ I h) fun v s1 ⟨x,H1,I1,r1,q1⟩=>?_
 obtain ⟨z,rfl,ha,q⟩:=q1
 obtain ⟨t,rfl⟩:=r1
 refine wpAny_pyIter_ascii ha ?_
 have I2:Inv X pins σ H1 { s1 with heap:=s1.heap.push { cls:=.type "str_ascii_iterator",data:=.fields #[.str z t,.int 0 0] } }:=I1.kept (t':=s1.toks) fun b ob q=>Heap.get?_push_of_some _ q
 exact ⟨_,[s1.heap.objs.size],_,Its z,H1,rfl,I2,AnK z t _,⟨_,Heap.get?_push_size _ rfl,rfl,rfl⟩,fun b hb=>by
  have e:b=s1.heap.objs.size:=by simpa using hb
  subst e
  exact I1.fpOk (Nat.le_refl _) (I1.hok.fresh (Nat.le_refl _)),q⟩
theorem AiF:AcA X (.type "int") (fun xs H Q=>∃ z n,xs=[.str z]∧PySem.intText? z=some n∧z.length≤640∧Q (.int n) H):=by
 intro pins s σ H xs us Q I r ⟨z,n,e,hn,hl,q⟩
 subst e
 obtain ⟨u,rfl,t,rfl⟩:=r.one
 exact PySem.W.KIN.call_text hn hl ⟨.int n,H,I.tok _,⟨_,rfl⟩,q⟩
inductive TyX (K:PySem.W.Frag) (H:Hp):V→Value→Prop where
 | of {x:V} {t:Value} (h:Alm K H x t):TyX K H x t
 | exc {a C:Addr} (e:H a=some (Aqf a (.ref C))) (c:Agk K C):TyX K H (.ref a) (.ref C)
theorem AnL {pins:List (Addr×Obj)} {σ:St} {H:Hp} {s:Shared} {A:Around} {E:Value→Shared→Prop} {Q:Value→Shared→Prop} {c:Value} {b:Bool} {x:V} {u t:Value} (I:Inv X pins σ H s) (rx:AbQ x u) (ty:TyX X.K H x t) (e:PySem.W.kitOne X.K t c=some b) (h:∀ tk,Q (.bool b) { s with toks:=tk }) :
  wpAny (model X.prog X.w) A (call (.builtin "isinstance") [u,c]) Q E s:=by
 cases ty with
 | of ty=>exact Al3 I rx ty e h
 | @exc a C ea ec =>
  cases (show u=Value.ref a from rx)
  obtain ⟨p,_⟩:=(show AbR X.prog X.w H s.heap a (Aqf a (.ref C)) from I.hok a _ ea)
  exact PySem.W.kia_one (AkW ec) I.kIn p e (fun z=>nomatch z) h
def Apd:V→Option Value
 | .ref a=>some (.ref a)
 | .ty n=>some (.type n)
 | _=>none
theorem AkX {c:V} {u v:Value} (e:Apd c=some v) (r:AbQ c u):u=v:=by
 cases c <;> simp only [Apd] at e <;> first | (cases e; done) | (cases e; exact r)
theorem AnM:AcA X (.builtin "isinstance") (fun xs H Q=>∃ x c t v b,xs=[x,c]∧TyX X.K H x t∧Apd c=some v∧PySem.W.kitOne X.K t v=some b∧Q (.bl b) H):=by
 intro pins s σ H xs us Q I r ⟨x,c,t,v,b,e,ty,hc,hk,q⟩
 subst e
 obtain ⟨u,w,rfl,ru,rw'⟩:=r.two
 cases AkX hc rw'
 exact AnL I ru ty hk fun tk=>⟨.bl b,H,I.tok _,rfl,q⟩
theorem AkY:∀ {cs:List V} {us vs:List Value},cs.mapM Apd=some vs→Aba cs us→us=vs
 | [],_,vs,e,r=>by cases r; simp at e; exact e.symm
 | c :: cs,_,vs,e,r=>by
  cases r with
  | cons r1 r2 =>
   simp only [List.mapM_cons,Option.bind_eq_bind,Option.bind_eq_some_iff,Option.pure_def,Option.some.injEq] at e
   obtain ⟨v,hv,vs',hvs,rfl⟩:=e
   rw [AkX hv r1,AkY hvs r2]
theorem Ame:AcA X (.builtin "isinstance") (fun xs H Q=>∃ a C p cs vs b,xs=[.ref a,.ref p]∧H a=some (Aqf a (.ref C))∧Agk X.K C∧H p=some (.tup cs)∧cs.mapM Apd=some vs∧PySem.W.kitAny X.K (.ref C) vs=some b∧Q (.bl b) H):=by
 intro pins s σ H xs us Q I r ⟨a,C,p,cs,vs,b,e,ea,ec,hp,hc,hk,q⟩
 subst e
 obtain ⟨u,w,rfl,ru,rw'⟩:=r.two
 cases (show u=Value.ref a from ru)
 cases (show w=Value.ref p from rw')
 obtain ⟨p1,_⟩:=(show AbR X.prog X.w H s.heap a (Aqf a (.ref C)) from I.hok a _ ea)
 obtain ⟨_,its,rv,⟨cls,dd,data,sl⟩,e1,c1,n,d1⟩:=(show AbR X.prog X.w H s.heap p (.tup cs) from I.hok p _ hp)
 simp only at c1 d1
 subst c1 d1
 cases AkY hc rv
 exact PySem.W.kia_tup (AkW ec) I.kIn p1 e1 hk (fun z=>nomatch z) fun tk=>⟨.bl b,H,I.tok _,rfl,q⟩
theorem Agl {e:Expr} {te:TE} {pos:Pos} (he:PE X e te):PE X (.FormattedValue e 114 none pos) (fun σ H Q=>te σ H fun x H1=>∃ z,x=.str z∧(PySem.reprText z).length≤sizeLine∧Q (.str (PySem.reprText z)) H1):=by
 intro pins s σ H Q I h
 refine wpAny_FormattedValue_repr (thn (he pins s σ H _ I h) fun v s1 ⟨x,H1,I1,r1,q1⟩=>?_)
 obtain ⟨z,rfl,hz,q⟩:=q1
 obtain ⟨t,rfl⟩:=r1
 refine wpAny_pyReprObj_gives (typeIs_str _ _ _) F.slot_str_repr F.entry_str_repr (F.args_str_repr_1 _) (gives_str_repr z t) ?_ rfl hz
 exact wpAny_formatField_str ⟨.str _,H1,I1.tok _,⟨_,rfl⟩,q⟩ ⟨.str _,H1,I1.tok _,⟨_,rfl⟩,q⟩ hz
abbrev TJ:=Str→St→Hp→(Str→Hp→Prop)→Prop
def PJ (X:Cx) (es:List Expr) (t:TJ):Prop:=∀ (acc:Str) (pins:List (Addr×Obj)) (s:Shared) (σ:St) (H:Hp) (Q:Str→Hp→Prop),Inv X pins σ H s→t acc σ H Q →
 Joins (model X.prog X.w) X.A X.xe (evalEach es X.env) acc (fun out s₁=>∃ H',Inv X pins σ H' s₁∧Q out H') s
theorem Ahx:PJ X [] (fun acc _ H Q=>Q acc H):=fun _ _ _ _ H _ I h=>⟨H,I,h⟩
theorem Abv {e:Expr} {es:List Expr} {te:TE} {tj:TJ} (he:PE X e te) (hs:PJ X es tj) (hh:evalEach (e :: es) X.env=eval e X.env :: evalEach es X.env:=by rfl) :
  PJ X (e :: es) (fun acc σ H Q=>te σ H fun x H1=>∃ y,x=.str y∧(acc++y).length≤sizeLine∧tj (acc++y) σ H1 Q):=by
 intro acc pins s σ H Q I h
 rw [hh]
 refine thn (he pins s σ H _ I h) fun v s1 ⟨x,H1,I1,r1,q1⟩=>?_
 obtain ⟨y,rfl,hz,q⟩:=q1
 obtain ⟨t,rfl⟩:=r1
 exact ⟨y,t,rfl,hz,hs _ pins s1 σ H1 Q I1 q⟩
theorem Joins.imp {M:Model} {A:Around} {E:Value→Shared→Prop} {Q Q':Str→Shared→Prop} (hq:∀ x s,Q x s→Q' x s):∀ {l:List (Sem Value)} {acc:Str} {s:Shared},Joins M A E l acc Q s→Joins M A E l acc Q' s
 | [],_,_,h=>hq _ _ h
 | x :: rest,acc,s,h=>thn (t:=x) h fun v s1 ⟨y,t,e,hz,r⟩=>⟨y,t,e,hz,Joins.imp hq r⟩
theorem AdJ {e e':Expr} {es:List Expr} {tj:TJ} {pos:Pos} (h:PJ X (e :: e' :: es) tj):PE X (.JoinedStr (e :: e' :: es) pos) (fun σ H Q=>tj Str.empty σ H fun out H1=>out.length≤sizeLine∧Q (.str out) H1):=by
 intro pins s σ H Q I hw
 refine wpAny_JoinedStr (Joins.imp (fun out s1 ⟨H1,I1,hz,q⟩=>?_) (h Str.empty pins s σ H _ I hw))
 exact ⟨hz,.str out,H1,I1.tok _,⟨_,rfl⟩,q⟩
end
end L2
namespace L2
open PySem PySem.Spec PyProof.Rows
section
variable {P:Program} {w:World} {K:PySem.W.Frag} {mg:Str→Option Value} {base:Heap}
theorem Fun.okX {x qual:Str} {st:Stmt} {f:Addr} {fd:FuncData} {N ps:List Str} {k:Nat} {sp:Sp} (F:Fun K x qual st f fd) (S:Aat N ps (Aaa st)) (len:∀ vs H Q E,sp vs H Q E→vs.length=ps.length)
  (hbody:∀ (cdv:Value) (A:Around) (outer:List Env) (s:Shared) (H:Hp) (vs:List V) (Q:VK) (E:XK),Af4 k (A.deeper (envOfC qual (Aaa st) s.heap.objs.size f cdv))→sp vs H Q E →
   ∃ t,PSs (AjT (CXE P w) P w K mg base N qual (Aaa st) f cdv A outer s H E) (Aam st) t∧t { nx:=fun _ H'=>Q .non H',rt:=Q } (AaV N vs) H):Aco P w K mg base (CXE P w) (k + 1) f fd ps sp:=by
 obtain ⟨oc,od,kV,doc,pm,an,cdv,ct,osl,rfl,lk,hcd⟩:=F.ex
 exact Ap7 lk hcd S len fun A outer s H vs Q E hr hsp=>hbody cdv A outer s H vs Q E hr hsp
def AgG (P:Program) (w:World) (K:PySem.W.Frag) (mg:Str→Option Value) (base:Heap) (CX:CXT) (k:Nat) (x:Str) (ps:List Str) (sp:Sp):Prop :=
 ∃ f fd,mg x=some (.ref f)∧PySem.W.keepIn K (.ref f)=true∧Agj K fd ps []∧Aco P w K mg base CX k f fd ps sp
end
section
variable {X:Cx} {CX:CXT} {k:Nat} {x:Str} {ps:List Str} {sp:Sp} {p pos:Pos} {e:Expr} {es:List Expr} {t:TA}
theorem Arf {E:XK} (D:AgG X.prog X.w X.K X.mg X.base CX k x ps sp) (hr:Af4 k X.A) (hx:AdI CX X E) (ha:PA X (e :: es) t) (hg:Gl X x:=by rfl)
  (hdb:(x == ("__debug__":Str))=false:=by decide) (he:starEach (e :: es) X.env=(false,eval e X.env) :: starEach es X.env:=by rfl) (hpl:(backTo pos (starEach es X.env)).any (·.1)=false:=by rfl) :
  PE X (.Call (.Name x p) (e :: es) [] pos) (AnA sp [] E t):=by
 obtain ⟨f,fd,h1,h2,h3,h4⟩:=D
 exact AoY h4 hr hg h1 h2 h3 .nil hx ha hdb he hpl
theorem AiG {P:Program} {w:World}:AdI (CXE P w) X E0:=fun _ _ _ _ _ _ _ h=>by
 obtain ⟨_,_,_,_,_,_,_,_,_,_,_,_,_,z⟩:=h
 exact z.elim
end
end L2
namespace L2
open PySem PySem.Spec PyProof.Rows
section
variable {X:Cx}
theorem AbG:OpR X (binaryOp .Add) (fun x y H Q=>(∃ i j,x=.int i∧y=.int j∧Q (.int (i + j)) H)∨(∃ i j,x=.str i∧y=.str j∧i.length + j.length≤sizeLine∧Q (.str (i++j)) H)∨ArH x y H Q):=Ap1.or (Ali.or Aqd)
theorem Abw:OpR X (binaryOp .Mult) (fun x y H Q=>(∃ i j,x=.int i∧y=.int j∧Aeq i j∧Q (.int (i * j)) H)∨Aqk x y H Q∨ArI x y H Q):=Ap2.or (Apc.or Aqe)
theorem Aea (hu:X.A.units + 64 < cLine):OpR X (compareOp .Eq) (fun x y H Q=>rEq x y H Q∨AqQ X.K false x y H Q):=Aq2.or (Aqh hu)
theorem Ahy (hu:X.A.units + 64 < cLine):OpR X (compareOp .NotEq) (fun x y H Q=>rNe x y H Q∨AqQ X.K true x y H Q):=Aq3.or (Aqi hu)
def inS (i j:Str):Bool:=!(Builtin.Str.occurrences j i 0 j.length 1).isEmpty
theorem Aif:OpR X (compareOp .In) (fun x y H Q=>(∃ i j,x=.str i∧y=.str j∧Q (.bl (inS i j)) H)∨rIn X.K false x y H Q):=AlZ.or Al6
theorem Amf:OpR X (compareOp .NotIn) (fun x y H Q=>(∃ i j,x=.str i∧y=.str j∧Q (.bl (!inS i j)) H)∨rIn X.K true x y H Q):=Ajk.or Ajj
theorem AaP:AcA X (.builtin "len") (fun xs H Q=>(∃ z,xs=[.str z]∧z.length≤sizeLine∧Q (.int z.length) H)∨∃ p ys,xs=[.ref p]∧(SqL X.K H p ys∨SqT X.K H p ys)∧Q (.int ys.length) H):=Ajm.or Ajl
theorem Amg:AcA X (.builtin "isinstance") (fun xs H Q=>(∃ x c t v b,xs=[x,c]∧TyX X.K H x t∧Apd c=some v∧PySem.W.kitOne X.K t v=some b∧Q (.bl b) H) ∨
 ∃ a C p cs vs b,xs=[.ref a,.ref p]∧H a=some (Aqf a (.ref C))∧Agk X.K C∧H p=some (.tup cs)∧cs.mapM Apd=some vs∧PySem.W.kitAny X.K (.ref C) vs=some b∧Q (.bl b) H):=AnM.or Ame
theorem Amh:AcA X (.type "int") (fun xs H Q=>∃ z n,xs=[.str z]∧PySem.intText? z=some n∧z.length≤640∧Q (.int n) H):=AiF
theorem Ar5:SlR X (fun x lo hi H Q=>ArJ x lo hi H Q∨ArG X.K x lo hi H Q):=Aqj.or Ao6
end
end L2
namespace L2
open PySem PySem.Spec PyProof.Rows
theorem Aju {α:Type} {xs:List α} {k:Int} (h0:0≤k) (h:k < xs.length):∃ v,atI xs k=some v∧xs[k.toNat]?=some v:=by
 have hlt:k.toNat < xs.length:=by omega
 refine ⟨xs[k.toNat],?_,List.getElem?_eq_getElem hlt⟩
 unfold atI ixN
 rw [if_pos h0,if_pos h]
 exact List.getElem?_eq_getElem hlt
theorem AgJ {ns:List Int} {k:Int} (h0:0≤k) (h:k < ns.length):atI (ns.map V.int) k=some (.int (ns.getD k.toNat 0)):=by
 obtain ⟨v,e1,e2⟩:=Aju (xs:=ns.map V.int) h0 (by simpa using h)
 have hlt:k.toNat < ns.length:=by omega
 rw [List.getElem?_map,List.getElem?_eq_getElem hlt] at e2
 cases e2
 rw [e1]
 simp [List.getD,List.getElem?_eq_getElem hlt]
theorem Aav.upd {H H':Hp} {p:Addr} {o:HO} (s:Aav H H') (h:H' p=none):Aav H (upd H' p o):=fun b o' e=>by
 have e':=s b o' e
 rw [Aah (Aaj e' h)]
 exact e'
theorem Aav.updN {H H':Hp} {p:Addr} {o:HO} (s:Aav H H') (h:H p=none):Aav H (L2.upd H' p o):=fun b o' e=>by
 rw [Aah (Aaj e h)]
 exact s b o' e
end L2
namespace L2
open PySem PySem.Spec PyProof.Rows
structure Nm (sc:Scope) (x:Str):Prop where
 loc:sc.names.lookup x=some .local
 db:(x == ("__debug__":Str))=false
 cd:(x == ("__classdict__":Str))=false
structure Gm (sc:Scope) (x:Str):Prop where
 gl:sc.names.lookup x=some .globalImplicit
 db:(x == ("__debug__":Str))=false
 nn:x≠"__name__"
theorem Ack:bootBuiltins "len"=some (.builtin "len"):=by decide +kernel
theorem AiH:bootBuiltins "isinstance"=some (.builtin "isinstance"):=by decide +kernel
theorem Aqm:bootBuiltins "int"=some (.type "int"):=by decide +kernel
theorem Ape:bootBuiltins "bool"=some (.type "bool"):=by decide +kernel
theorem Aqn:bootBuiltins "str"=some (.type "str"):=by decide +kernel
theorem Afm:bootBuiltins "list"=some (.type "list"):=by decide +kernel
theorem Ahg:bootBuiltins "tuple"=some (.type "tuple"):=by decide +kernel
theorem Aqo:bootBuiltins "set"=some (.type "set"):=by decide +kernel
theorem Ahz:bootBuiltins "sorted"=some (.builtin "sorted"):=by decide +kernel
theorem Aqp:bootBuiltins "all"=some (.builtin "all"):=by decide +kernel
section
variable {X:Cx} {x:Str} {pos p:Pos}
theorem pvN (i:Nat) (n:Nm X.env.scope x) (hN:X.N[i]?=some x:=by rfl):PE X (.Name x pos) (AqK i):=AlQ hN (Or.inl n.loc) n.db n.cd
theorem AcB (i:Nat) (nd:X.N.Nodup) (n:Nm X.env.scope x) (hN:X.N[i]?=some x:=by rfl):PG X (.Name x pos) (AjW i):=AoQ nd hN (Or.inl n.loc) (Or.inr n.loc)
theorem Abb (i:Nat) {e:Expr} {te:TE} {pos':Pos} (nd:X.N.Nodup) (n:Nm X.env.scope x) (he:PE X e te) (hN:X.N[i]?=some x:=by rfl) (hs:swapsWith e (some (.Name x pos')) pos.line X.env=pure false:=by rfl) :
  PS X (.Assign [.Name x pos'] e pos) (ApY te (AjW i)):=Aoy nd hN (Or.inl n.loc) he hs (Or.inr n.loc)
theorem AnN {v:V} {u:Value} (g:Gm X.env.scope x) (hm:X.mg x=some u) (r:AbQ v u):PE X (.Name x pos) (tC v):=AoO g.gl hm r g.db
theorem Arg {v:V} {u:Value} (g:Gm X.env.scope x) (hm:X.mg x=none) (hv:bootBuiltins x=some u) (r:AbQ v u):PE X (.Name x pos) (tC v):=AoP g.gl hm hv r g.nn g.db
variable {e:Expr} {es:List Expr} {t:TA} {id T:String} {r:List V→Hp→VK→Prop}
theorem Ac3 (hc:AcA X (.builtin id) r) (g:Gm X.env.scope x) (hm:X.mg x=none) (hv:bootBuiltins x=some (.builtin id)) (ha:PA X (e :: es) t)
  (he:starEach (e :: es) X.env=(false,eval e X.env) :: starEach es X.env:=by rfl) (hpl:(backTo pos (starEach es X.env)).any (·.1)=false:=by rfl):PE X (.Call (.Name x p) (e :: es) [] pos) (tCB r t):=AnE hc g.gl hm hv ha g.nn g.db he hpl
theorem Afa (hc:AcA X (.type T) r) (g:Gm X.env.scope x) (hm:X.mg x=none) (hv:bootBuiltins x=some (.type T)) (ha:PA X (e :: es) t)
  (he:starEach (e :: es) X.env=(false,eval e X.env) :: starEach es X.env:=by rfl) (hpl:(backTo pos (starEach es X.env)).any (·.1)=false:=by rfl):PE X (.Call (.Name x p) (e :: es) [] pos) (tCB r t):=Al5 hc g.gl hm hv ha g.nn g.db he hpl
theorem Ad2 {CX:CXT} {k:Nat} {ps:List Str} {sp:Sp} {E:XK} (D:AgG X.prog X.w X.K X.mg X.base CX k x ps sp) (g:Gm X.env.scope x) (hr:Af4 k X.A) (hx:AdI CX X E) (ha:PA X (e :: es) t)
  (he:starEach (e :: es) X.env=(false,eval e X.env) :: starEach es X.env:=by rfl) (hpl:(backTo pos (starEach es X.env)).any (·.1)=false:=by rfl) :
  PE X (.Call (.Name x p) (e :: es) [] pos) (AnA sp [] E t):=Arf D hr hx ha g.gl g.db he hpl
theorem Ami {tg b:Expr} {ta:TA} (g:Gm X.env.scope "range") (hm:X.mg "range"=none) (ha:PA X [b] ta) (hs:starEach [b] X.env=[(false,eval b X.env)]:=by rfl):PI X tg (.Call (.Name "range" p) [b] [] pos) (Ap0 ta):=AlU g.gl hm ha hs
theorem Agm {W:St→XK} {C:Addr} {np cpos:Pos} (ht:Al9 X W) (g:Gm X.env.scope x) (hc:X.calm=true) (q:PySem.W.excIn X.K C [.type "ValueError",.type "Exception",.type "BaseException",.type "object"] "ValueError.__new__"=true) (hm:X.mg x=some (.ref C)) (ha:PA X (e :: es) t)
  (he:starEach (e :: es) X.env=(false,eval e X.env) :: starEach es X.env:=by rfl) (hpl:(backTo cpos (starEach es X.env)).any (·.1)=false:=by rfl) :
  PS X (.Raise (some (.Call (.Name x np) (e :: es) [] cpos)) none pos) (AoC W C t):=AnI ht hc q hm ha g.gl g.db he hpl
end
end L2
namespace L2
open PySem PySem.Spec PyProof.Rows
def AhA:Expr→Option V
 | .Constant (.int i) _ _=>some (.int i)
 | .Constant (.str x) _ _=>some (.str x)
 | .Constant (.bool b) _ _=>some (.bl b)
 | .Constant .none _ _=>some .non
 | _=>none
def AiI:List Expr→Option (List V)
 | []=>some []
 | e :: es=>match AhA e,AiI es with
  | some v,some vs=>some (v :: vs)
  | _,_=>none
section
variable {X:Cx}
theorem AnO {e:Expr} {v:V} (h:AhA e=some v):PE X e (tC v):=by
 unfold AhA at h
 split at h <;> first | (cases h; first | exact Aal | exact Aak | exact Aho | exact AcQ) | cases h
theorem Alr {e:Expr} {v:V} (h:AhA e=some v) (es:List Expr):starEach (e :: es) X.env=(false,eval e X.env) :: starEach es X.env:=by
 unfold AhA at h
 split at h <;> first | rfl | cases h
theorem AhB:∀ {es:List Expr} {vs:List V},AiI es=some vs→PA X es (fun _ H Q=>Q vs H)
 | [],vs,h=>by
  cases h
  exact Aaf
 | e :: es,vs,h=>by
  unfold AiI at h
  split at h
  ·rename_i v vs' h1 h2
   cases h
   exact Aac (AnO h1) (AhB h2) (Alr h1 es)
  ·cases h
end
end L2
namespace L2
open PySem PySem.Spec PyProof.Rows
theorem AnP {env:Env} {x:Str}:∀ {ns:List (Str×NameKind)},(ns.map fun (n,k)=>if (k == NameKind.free && env.scope.kind == .function && env.kindOf n == some .cell) then (n,NameKind.cell) else (n,k)).lookup x
   =(ns.lookup x).map fun k=>if (k == NameKind.free && env.scope.kind == .function && env.kindOf x == some .cell) then NameKind.cell else k
 | []=>rfl
 | (n,k) :: r=>by
  have ih:=@AnP env x r
  rw [List.map_cons]
  cases q:x == n with
  | true =>
   have e:x=n:=beq_iff_eq.mp q
   subst e
   rw [List.lookup_cons,List.lookup_cons,q]
   by_cases hc:(k == NameKind.free && env.scope.kind == .function && env.kindOf x == some .cell)=true
   ·simp only [hc,if_true,q,Option.map_some]
   ·simp only [hc,if_false,q,Option.map_some,Bool.false_eq_true]
  | false =>
   rw [List.lookup_cons,List.lookup_cons,q]
   by_cases hc:(k == NameKind.free && env.scope.kind == .function && env.kindOf n == some .cell)=true
   ·simp only [hc,if_true,q]; exact ih
   ·simp only [hc,if_false,q,Bool.false_eq_true]; exact ih
theorem AfF {sc:Scope} {env:Env} {x:Str} (h:sc.names.lookup x=some .free):(relabel sc env).names.lookup x=some .cell∨(relabel sc env).names.lookup x=some .free:=by
 have e:(relabel sc env).names.lookup x=_:=AnP
 rw [h] at e
 rw [e,Option.map_some]
 by_cases hc:(NameKind.free == NameKind.free && env.scope.kind == .function && env.kindOf x == some .cell)=true
 ·rw [if_pos hc]; exact .inl rfl
 ·rw [if_neg hc]; exact .inr rfl
theorem AhC {sc:Scope} {env:Env} {x:Str} {k:NameKind} (h:sc.names.lookup x=some k) (hk:(k == NameKind.free)=false):(relabel sc env).names.lookup x=some k:=by
 have e:(relabel sc env).names.lookup x=_:=AnP
 rw [h,Option.map_some,hk] at e
 exact e
theorem Als {sc:Scope} {env:Env} {x:Str} (hn:∀ y∈sc.names,y.2≠.cell) (h:(relabel sc env).names.lookup x=some .cell∨(relabel sc env).names.lookup x=some .free):sc.names.lookup x=some .free:=by
 have e:(relabel sc env).names.lookup x=_:=AnP
 cases q:sc.names.lookup x with
 | none=>rw [q] at e; rw [e] at h; rcases h with z | z <;> cases z
 | some k =>
  rw [q,Option.map_some] at e
  cases k with
  | free=>rfl
  | cell=>exact absurd rfl (hn _ (PySem.mem_of_lookup q))
  | _=>rw [e] at h; rcases h with z | z <;> cases z
theorem Aj1 {env:Env}:∀ (ns:List (Str×NameKind)) (cs:List (Str×Addr)),(∀ y∈ns,y.2=.free→∃ c,env.cells.lookup y.1=some c)→(∀ x c,cs.lookup x=some c→env.cells.lookup x=some c) →
  ∃ cl,(forIn ns cs fun (x:Str×NameKind) (r:List (Str×Addr))=>if (x.2 == .free)=true then do let c ← cellOf env x.1; pure (ForInStep.yield ((x.1,c) :: r)) else pure (ForInStep.yield r):Sem (List (Str×Addr)))=pure cl ∧
   (∀ x c,cl.lookup x=some c→env.cells.lookup x=some c)∧(∀ y∈ns,y.2=.free→∃ c,cl.lookup y.1=some c)∧∀ x c,cs.lookup x=some c→∃ c',cl.lookup x=some c'
 | [],cs,_,h2=>⟨cs,rfl,h2,fun y hy=>by simp at hy,fun x c e=>⟨c,e⟩⟩
 | (n,k) :: r,cs,h1,h2=>by
  rw [List.forIn_cons]
  by_cases hk:k=.free
  ·subst hk
   obtain ⟨c,hc⟩:=h1 (n,.free) List.mem_cons_self rfl
   have hc:env.cells.lookup n=some c:=hc
   obtain ⟨cl,e,p1,p2,p3⟩:=Aj1 r ((n,c) :: cs) (fun y hy=>h1 y (List.mem_cons_of_mem _ hy)) (fun x c' e=>by
    rw [List.lookup_cons] at e
    cases q:x == n with
    | true=>rw [q] at e; cases e; rw [beq_iff_eq.mp q]; exact hc
    | false=>rw [q] at e; exact h2 x c' e)
   refine ⟨cl,?_,p1,fun y hy hf=>?_,fun x c' e=>?_⟩
   ·have:cellOf env n=pure c:=by unfold cellOf; rw [hc]
    simp only [beq_self_eq_true,if_true,this,pure_bind]
    exact e
   ·rcases List.mem_cons.mp hy with z | z
    ·subst z; exact p3 n c (by rw [List.lookup_cons,beq_self_eq_true])
    ·exact p2 y z hf
   ·cases q:x == n with
    | true=>exact p3 x c (by rw [List.lookup_cons,q])
    | false=>exact p3 x c' (by rw [List.lookup_cons,q]; exact e)
  ·have hb:(k == NameKind.free)=false:=beq_eq_false_iff_ne.mpr hk
   obtain ⟨cl,e,p1,p2,p3⟩:=Aj1 r cs (fun y hy=>h1 y (List.mem_cons_of_mem _ hy)) h2
   refine ⟨cl,?_,p1,fun y hy hf=>?_,p3⟩
   ·simp only [hb,Bool.false_eq_true,if_false,pure_bind]
    exact e
   ·rcases List.mem_cons.mp hy with z | z
    ·subst z; exact absurd hf hk
    ·exact p2 y z hf
theorem Aj2 {env:Env} {sc:Scope} (h:∀ y∈sc.names,y.2=.free→∃ c,env.cells.lookup y.1=some c) :
  ∃ cl,closureFor sc env=pure cl∧(∀ x c,cl.lookup x=some c→env.cells.lookup x=some c)∧∀ y∈sc.names,y.2=.free→∃ c,cl.lookup y.1=some c:=by
 obtain ⟨cl,e,p1,p2,_⟩:=Aj1 sc.names [] h (fun x c e=>by cases e)
 refine ⟨cl,?_,p1,p2⟩
 unfold closureFor
 show (forIn sc.names ([]:List (Str×Addr)) _ >>= fun r=>pure r)=_
 rw [bind_pure]
 rw [← e]
end L2
namespace L2
open PySem PySem.Spec PyProof.Rows
theorem AcD {α:Type} {M:Model} {A:Around} {t:Sem α} {Q Q':α→Shared→Prop} {E:Value→Shared→Prop} {s:Shared} (h:wpAny M A t Q (fun _ _=>False) s) (hq:∀ a s,Q a s→Q' a s):wpAny M A t Q' E s:=wpAny_mono h hq fun _ _ f=>f.elim
def AhD (ifs:List Expr) (env:Env):Sem Bool:=forIn ifs true fun c r=>if r=true then do let ok ← isTrue c env (eval c env); pure (ForInStep.yield ok) else pure (ForInStep.yield r)
theorem Alt {prog:Program} {w:World} {A:Around} {R:Result→Shared→Prop} {s:Shared} {elt tg iter:Expr} {ifs:List Expr} {sc:Scope} {pos:Pos} {it acc:Value} {env:Env} (I:Nat→Shared→Prop)
  (turn:∀ n s,I n s→wpAny (model prog w) A (pyNext it) (fun r s₁=>match r with
   | none=>R (.ok .next) s₁
   | some v=>wpAny (model prog w) A (letOwnedTupleGo tg it v) (fun _ s₂=>wpAny (model prog w) A (assign tg env v) (fun _ s₃=>wpAny (model prog w) A (AhD ifs env) (fun ok s₄ =>
     if ok=true then wpAny (model prog w) A (eval elt env) (fun x s₅=>wpAny (model prog w) A (call (.builtin "list.append") [acc,x]) (fun _ s₆=>∃ m,m < n∧I m s₆) (fun _ _=>False) s₅) (fun _ _=>False) s₄
     else ∃ m,m < n∧I m s₄) (fun _ _=>False) s₃) (fun _ _=>False) s₂) (fun _ _=>False) s₁) (fun _ _=>False) s)
  (n:Nat) (h:I n s):codeAny (model prog w) A (.compLoop (.ListComp elt [⟨tg,iter,ifs,0⟩] sc pos) 0 it acc env) R s:=by
 refine codeAny_loop rfl I (fun n s hI=>?_) n h
 show wpAny _ A ((compTurn (.ListComp elt [⟨tg,iter,ifs,0⟩] sc pos) 0 it acc env).onRaise _) _ _ s
 refine wpAny_noted ?_
 rw [compTurn_list]
 refine wpAny_bind (wpAny_standAt (wpAny_bind (AcD (turn n s hI) fun r s₁ h₁=>?_)))
 match r,h₁ with
 | none,h₁=>exact wpAny_pure h₁
 | some v,h₁ =>
  refine wpAny_bind (AcD h₁ fun _ s₂ h₂=>wpAny_bind (AcD h₂ fun _ s₃ h₃=>wpAny_bind (AcD h₃ fun ok s₄ h₄=>?_)))
  match ok,h₄ with
  | false,h₄=>exact wpAny_pure ⟨rfl,h₄⟩
  | true,h₄=>exact wpAny_bind (wpAny_bind (AcD h₄ fun x s₅ h₅=>wpAny_bind (AcD h₅ fun _ s₆ h₆=>wpAny_pure (wpAny_pure ⟨rfl,h₆⟩))))
structure Abc (sc osc:Scope) (N' N:List Str) (srcs:List (Option Nat)):Prop where
 kind:sc.kind=.function
 nocell:∀ y∈sc.names,y.2≠.cell
 one:∀ y∈sc.names,y.2=.local→sc.names.lookup y.1=some .local
 frees:∀ y∈sc.names,y.2=.free→osc.names.lookup y.1=some .cell∨osc.names.lookup y.1=some .free
 nd:N'.Nodup
 len:srcs.length=N'.length
 out:∀ i j:Nat,srcs[i]?=some (some j)→∃ x,N'[i]?=some x∧N[j]?=some x∧sc.names.lookup x=some .free∧(osc.names.lookup x=some .cell∨osc.names.lookup x=some .free)
def AiJ (srcs:List (Option Nat)) (σ:St):St:=srcs.map fun o=>o.bind fun j=>(σ[j]?).join
def Aay (X:Cx) (N':List Str) (sc:Scope) (cl:List (Str×Addr)) (C:Addr) (fp:List Addr) (pins:List (Addr×Obj)) (s₂:Shared) (H₂:Hp):Cx :=
 { prog:=X.prog,w:=X.w,K:=X.K,mg:=X.mg,base:=X.base,A:=X.A,N:=N',s₀:=s₂,H₀:=H₂,env:=compEnvC sc cl C X.env,outer:=X.stack,stack:=X.stack,ex:=fp,fn:=fun _=>false,calm:=X.calm,pn:=X.pn++pins,xe:=fun _ _=>False }
section
variable {X:Cx} {N':List Str} {sc:Scope} {srcs:List (Option Nat)} {cl:List (Str×Addr)} {C:Addr} {fp:List Addr} {pins:List (Addr×Obj)} {s₂:Shared} {H₂:Hp} {σ:St}
theorem AiK (S:Abc sc X.env.scope N' X.N srcs) (I:Inv X pins σ H₂ s₂) (hcl:∀ x c,cl.lookup x=some c→X.env.cells.lookup x=some c) (hcl2:∀ y∈sc.names,y.2=.free→∃ c,cl.lookup y.1=some c)
  (hC:s₂.heap.objs.size≤C) (hfp:∀ b∈fp,AjX X pins H₂ b) (hfo:∀ b∈fp,∃ o,s₂.heap.get? b=some o):(Aay X N' sc cl C fp pins s₂ H₂).Ok where
 mod:=I.ok.mod
 kind:=S.kind
 glob:=I.ok.glob
 blt:=I.ok.blt
 above:=hC
 inj:=fun x y c h1 h2=>I.ok.inj x y c (hcl x c h1) (hcl y c h2)
 has:=fun x hx=>hcl2 _ (PySem.mem_of_lookup (Als S.nocell hx)) rfl
 cab:=fun x c hf=>by cases hf
 hd:=I.ok.hd
 frames:=I.ok.frames
 stk:=.inl rfl
 exf:=fun b hb=>by
  obtain ⟨o,ho⟩:=hfo b hb
  exact ⟨Nat.ne_of_lt (Nat.lt_of_lt_of_le (Heap.lt_size ho) hC),fun x c e=>(hfp b hb).2.2.2.2.1 x c (hcl x c e)⟩
 bs:=I.bs
 bsz:=Nat.le_trans I.ok.bsz I.sz
 noex:=fun b o e hb=>by
  rcases (hfp b hb).2.2.2.1 with z | z
  ·exact I.ok.noex b o e z
  ·exact absurd (Nat.lt_of_lt_of_le (Heap.lt_size (I.ok.bs b o e).1) z) (Nat.lt_irrefl _)
 exfs:=fun b hb z=>(List.mem_cons.mp (I.stkSub b z)).elim (hfp b hb).2.1 (hfp b hb).2.2.1
 funs:=I.stack
 frf:=I.stkFree
theorem Alu {D:Addr} {h₁:Heap} {tk:Nat} {m:Str→Option Value} (S:Abc sc X.env.scope N' X.N srcs) (I:Inv X pins σ H₂ s₂) (hcl:∀ x c,cl.lookup x=some c→X.env.cells.lookup x=some c) (hcl2:∀ y∈sc.names,y.2=.free→∃ c,cl.lookup y.1=some c)
  (hfp:∀ b∈fp,AjX X pins H₂ b) (hfo:∀ b∈fp,∃ o,s₂.heap.get? b=some o) (hD:D=s₂.heap.objs.size) (hC:C=s₂.heap.objs.size + 1) (hk:∀ b o,(s₂.heap.push { cls:=.type "list",data:=.seq #[] }).get? b=some o→h₁.get? b=some o) (hns:h₁.Ns C m) :
  Inv (Aay X N' sc cl C fp pins s₂ H₂) [] (AiJ srcs σ) (upd H₂ D (.lst [])) { s₂ with heap:=h₁,toks:=tk }:=by
 subst hD
 have hCle:s₂.heap.objs.size≤C:=by rw [hC]; exact Nat.le_succ _
 have ok:=AiK S I hcl hcl2 hCle hfp hfo
 have I3:=I.lnew (ys:=[]) (its:=[]) (t':=tk) .nil (Nat.zero_le _)
 have I4:Inv X pins σ (upd H₂ s₂.heap.objs.size (.lst [])) { s₂ with heap:=h₁,toks:=tk }:=I3.kept (t':=tk) hk
 have old:∀ b o,s₂.heap.get? b=some o→h₁.get? b=some o:=fun b o e=>hk b o (Heap.get?_push_of_some _ e)
 have neD:∀ b o,s₂.heap.get? b=some o→b≠s₂.heap.objs.size:=fun b o e=>Nat.ne_of_lt (Heap.lt_size e)
 have cellOld:∀ x c,cl.lookup x=some c→∃ v o,s₂.heap.get? c=some o∧o.data=.cell v:=fun x c e=>by
  obtain ⟨v,o,ho,hd⟩:=I.cell x c (hcl x c e)
  exact ⟨v,o,ho,hd⟩
 refine ⟨ok,rfl,I.bare,Un.laid old (Nat.le_refl _) I.fresh,⟨m,hns,fun i x v e1 e2 e3=>?_⟩,fun x c e=>?_,?_,fun x c e=>?_,fun p hp=>?_,I4.hok,?_⟩
 ·have e2':(srcs[i]?).map (fun o=>o.bind fun j=>(σ[j]?).join)=some (some v):=by
   have:=e2
   unfold AiJ at this
   rwa [List.getElem?_map] at this
  cases q:srcs[i]? with
  | none=>rw [q] at e2'; cases e2'
  | some oj =>
   rw [q,Option.map_some] at e2'
   cases oj with
   | none=>cases e2'
   | some j =>
    have e4:(σ[j]?).join=some v:=by simpa using e2'
    have e5:σ[j]?=some (some v):=by
     cases z:σ[j]? with
     | none=>rw [z] at e4; cases e4
     | some w=>rw [z] at e4; rw [← e4]; rfl
    obtain ⟨x',n1,n2,n3,n4⟩:=S.out i j q
    have e1':N'[i]?=some x:=e1
    rw [n1] at e1'; cases e1'
    obtain ⟨m2,hn2,hl⟩:=I.loc
    have hv:Vis X.env.scope x:=n4.elim (fun z=>.inr (.inl z)) fun z=>.inr (.inr z)
    obtain ⟨u,r,l⟩:=hl j x v n2 e5 hv
    refine ⟨u,r,.inr ⟨AfF n3,?_⟩⟩
    rcases l with ⟨k,_⟩ | ⟨_,c,ec,z⟩
    ·have k':X.env.scope.names.lookup x=some .local:=k
     rcases n4 with z | z <;> rw [k'] at z <;> cases z
    ·obtain ⟨c',ec'⟩:=hcl2 _ (PySem.mem_of_lookup n3) rfl
     have:=hcl x c' ec'
     rw [ec] at this; cases this
     obtain ⟨o,ho,hd⟩:=z
     exact ⟨c,ec',o,old c o ho,hd⟩
 ·obtain ⟨v,o,ho,hd⟩:=cellOld x c e
  exact ⟨v,o,old c o ho,hd⟩
 ·show upd H₂ s₂.heap.objs.size (.lst []) C=none
  rw [Aah (by rw [hC]; exact Nat.succ_ne_self _)]
  exact I.hok.fresh hCle
 ·obtain ⟨v,o,ho,hd⟩:=cellOld x c e
  show upd H₂ s₂.heap.objs.size (.lst []) c=none
  rw [Aah (neD c o ho)]
  exact I.freeC x c (hcl x c e)
 ·have hp':p∈X.pn++pins:=by simpa [Aay] using hp
  obtain ⟨e,n,ne,nf,d⟩:=I.pin p hp'
  obtain ⟨_,n4,_⟩:=I4.pin p hp'
  exact ⟨old _ _ e,n4,Nat.ne_of_lt (Nat.lt_of_lt_of_le (Heap.lt_size e) hCle),fun z=>(List.mem_cons.mp (I.stkSub _ z)).elim ne nf,d⟩
 ·show (srcs.map _).length=N'.length
  rw [List.length_map]
  exact S.len
theorem AiL {H':Hp} {σ':St} {s':Shared} (I:Inv X pins σ H₂ s₂) (hfp:∀ b∈fp,AjX X pins H₂ b) (J:Inv (Aay X N' sc cl C fp pins s₂ H₂) [] σ' H' s'):Inv X pins σ H' s' :=
 I.call' J.os J.base J.hok J.bare fun b hb=>⟨(hfp b hb).2.2.2.1,(hfp b hb).2.1,(hfp b hb).2.2.2.2.1,(hfp b hb).2.2.2.2.2⟩
def PTs (X:Cx) (ifs:List Expr) (t:TT):Prop :=
 ∀ (pins:List (Addr×Obj)) (s:Shared) (σ:St) (H:Hp) (Q:Bool→Hp→Prop),Inv X pins σ H s→t σ H Q→wpAny (model X.prog X.w) X.A (AhD ifs X.env) (TP X pins σ Q) X.xe s
def Apf:TT:=fun _ H Q=>Q true H
theorem Af5 {X:Cx}:PTs X [] Apf:=fun pins s σ H Q I h=>wpAny_tests_nil ⟨H,I,h⟩
theorem Amj {X:Cx} {c:Expr} {t:TT} (h:PT X c t):PTs X [c] t:=fun pins s σ H Q I q=>wpAny_tests_one (h pins s σ H Q I q)
def Apg (srcs:List (Option Nat)) (wi:TI) (g:TG) (tt:TT) (te:TE):TE:=fun σ H Q=>wi σ H fun J H1=>∀ D,H1 D=none→∃ W:Nat→Nat→St→Hp→Prop,(∃ m,W 0 m (AiJ srcs σ) (upd H1 D (.lst [])))∧∀ i m σ' H',W i m σ' H' →
 (J.stop i H'∧Q (.ref D) H')∨(J.go i H'∧∃ N:St→Hp→Prop,(∀ σ2 H2,N σ2 H2→∃ m',m' < m∧W (i + 1) m' σ2 H2)∧∀ x H2,J.yld i H' x H2→g x σ' H2 fun σ3 H3=>tt σ3 H3 fun b H4 =>
  if b=true then te σ3 H4 fun v H5=>∃ ys,H5 D=some (.lst ys)∧ys.length < sizeLine∧N σ3 (upd H5 D (.lst (ys++[v]))) else N σ3 H4)
theorem Aig {elt tg iter:Expr} {ifs:List Expr} {sc:Scope} {srcs:List (Option Nat)} {N':List Str} {pos:Pos} {wi:TI} {g:TG} {tt:TT} {te:TE} {s:Shared} {H:Hp} {use:Option (Value→Sem Unit)} {Qv:Value→Shared→Prop} {Q:VK}
  (hc:X.calm=true) (S:Abc sc X.env.scope N' X.N srcs) (hi:PI X tg iter wi)
  (hg:∀ cl C fp pins s₂ H₂,PG (Aay X N' sc cl C fp pins s₂ H₂) tg g) (ht:∀ cl C fp pins s₂ H₂,PTs (Aay X N' sc cl C fp pins s₂ H₂) ifs tt) (he:∀ cl C fp pins s₂ H₂,PE (Aay X N' sc cl C fp pins s₂ H₂) elt te)
  (hs:∀ x,foldedSetIterable iter X.env x=pure x) (I:Inv X pins σ H s) (h:Apg srcs wi g tt te σ H Q)
  (post:∀ D C H' s' m,(∀ h',Heap.SameBut C s'.heap h'→Inv X pins σ H' { s' with heap:=h' })→Inv X pins σ H' s'→s'.heap.Ns C m→(∀ x c,X.env.cells.lookup x=some c→c≠C)→X.env.locals≠C→H' C=none →
   (∀ σ' s'' h',Inv X pins σ' H' s''→Heap.SameBut C s''.heap h'→Inv X pins σ' H' { s'' with heap:=h' })→Q (.ref D) H'→compPost (model X.prog X.w) X.A X.xe use Qv (.ref D) C (.ok .next) s') :
  wpAny (model X.prog X.w) X.A (comprehension (.ListComp elt [⟨tg,iter,ifs,0⟩] sc pos) sc X.env (firstIterPos [⟨tg,iter,ifs,0⟩] pos) (newList []) false (eval iter X.env) use) Qv X.xe s:=by
 obtain ⟨cl,hclos,hcl,hcl2⟩:=Aj2 (env:=X.env) (sc:=sc) fun y hy hf=>I.ok.has y.1 (S.frees y hy hf)
 refine wpAny_comprehension_free rfl hs hclos S.kind S.one (thn (hi pins s σ H _ I h) fun xv s₁ h₁=>thn h₁ fun itv s₂ h₂=>?_)
 obtain ⟨it,fp,tn,J,H₂,e,I₂,T,st₂,f₂,rd⟩:=h₂
 subst e
 refine wpAny_newObj_type (wpAny_newFunctionEnv S.nocell (by intro y hy; simp at hy) (fun h₁ hns hsb=>?_) S.kind)
 dsimp only at hns hsb ⊢
 have hfo:∀ b∈fp,∃ o,s₂.heap.get? b=some o:=fun b hb=>let ⟨o,e,_⟩:=T.obj _ _ st₂ b hb; ⟨o,e⟩
 have hCe:(s₂.heap.push { cls:=.type "list",dict:=none,data:=.seq ([]:List Value).toArray }).objs.size=s₂.heap.objs.size + 1:=Heap.size_push ..
 have hk:∀ b o,(s₂.heap.push { cls:=.type "list",data:=.seq #[] }).get? b=some o→h₁.get? b=some o:=fun b o e=>hsb.extBut b o (Nat.ne_of_lt (Heap.lt_size e)) (Heap.get?_push_of_some _ e)
 have IB:=Alu (tk:=s₂.toks + ([]:List (Str×Value)).length) S I₂ hcl hcl2 f₂ hfo rfl hCe hk hns
 generalize (s₂.heap.push { cls:=.type "list",dict:=none,data:=.seq ([]:List Value).toArray }).objs.size=C at hCe hns hsb IB ⊢
 generalize hD:s₂.heap.objs.size=D at IB hCe ⊢
 have hCle:s₂.heap.objs.size≤C:=by rw [hD,hCe]; exact Nat.le_succ _
 obtain ⟨W,⟨m0,w0⟩,turn⟩:=rd D (by rw [← hD]; exact I₂.fresh)
 have fpB:∀ {H':Hp},(∀ b∈fp,H' b=none)→∀ b∈fp,AjX (Aay X N' sc cl C fp pins s₂ H₂) [] H' b:=fun hn b hb=>by
  obtain ⟨z1,z2⟩:=(AiK S I₂ hcl hcl2 hCle f₂ hfo).exf b hb
  exact ⟨hn b hb,z1,(AiK S I₂ hcl hcl2 hCle f₂ hfo).exfs b hb,.inl hb,z2,fun p hp=>(f₂ b hb).2.2.2.2.2 p (by simpa [Aay] using hp)⟩
 have fr0:∀ b∈fp,(upd H₂ D (.lst [])) b=none:=fun b hb=>by
  obtain ⟨o,ho⟩:=hfo b hb
  rw [Aah (by rw [← hD]; exact Nat.ne_of_lt (Heap.lt_size ho))]
  exact (f₂ b hb).1
 have st0:tn 0 h₁:=T.keep _ _ _ st₂ fun b hb o e=>hk b o (Heap.get?_push_of_some _ e)
 have loop:codeAny (model X.prog X.w) X.A (.compLoop (.ListComp elt [⟨tg,iter,ifs,0⟩] sc pos) 0 (.ref it) (.ref D) (compEnvC sc cl C X.env)) (compPost (model X.prog X.w) X.A X.xe use Qv (.ref D) C) { s₂ with heap:=h₁,toks:=s₂.toks + ([]:List (Str×Value)).length }:=by
  refine Alt (fun n s'=>∃ i σ' H',Inv (Aay X N' sc cl C fp pins s₂ H₂) [] σ' H' s'∧tn i s'.heap∧(∀ b∈fp,H' b=none)∧W i n σ' H') ?_ m0 ⟨0,_,_,IB,st0,fr0,w0⟩
  rintro n s3 ⟨i,σ3,H3,I3,st3,fr3,w3⟩
  rcases turn i n σ3 H3 w3 with ⟨stop,qn⟩ | ⟨go,N,hN,step⟩
  ·refine thn (T.done (Aay X N' sc cl C fp pins s₂ H₂) rfl rfl rfl hc i [] s3 σ3 H3 _ I3 (fpB fr3) st3 stop) fun r s4 ⟨hr,I4⟩=>?_
   subst hr
   have JX:=AiL I₂ f₂ I4
   obtain ⟨m,hn,_⟩:=I4.loc
   have cn:∀ x c,X.env.cells.lookup x=some c→c≠C:=fun x c e z=>by
    obtain ⟨v,q⟩:=I₂.cell x c e
    exact absurd (Nat.lt_of_lt_of_le q.lt (by rw [z]; exact hCle)) (Nat.lt_irrefl _)
   have gone:∀ σ' s'' h',Inv X pins σ' H3 s''→Heap.SameBut C s''.heap h'→Inv X pins σ' H3 { s'' with heap:=h' }:=fun σ' s'' h' K3 hs3 =>
    K3.turned (t':=s''.toks) (it:=C) (fun b o hb e=>(hs3.2 b hb).trans e) I4.free (Nat.ne_of_gt (Nat.lt_of_lt_of_le I₂.lt hCle)) (.inr (Nat.le_trans I₂.sz hCle)) cn fun p hp z=>by
     exact absurd (Nat.lt_of_lt_of_le (Heap.lt_size (I₂.pin p hp).1) (by rw [z]; exact hCle)) (Nat.lt_irrefl _)
   exact post D C H3 s4 m (fun h' hs'=>gone σ s4 h' JX hs') JX hn cn (Nat.ne_of_lt (Nat.lt_of_lt_of_le I₂.lt hCle)) I4.free gone qn
  ·refine thn (T.item (Aay X N' sc cl C fp pins s₂ H₂) rfl rfl rfl hc i [] s3 σ3 H3 _ I3 (fpB fr3) st3 go) fun r s4 ⟨u,hr,h4⟩=>?_
   subst hr
   refine thn h4 fun _ s5 ⟨x,H5,I5,r5,y5,st5,fr5⟩=>?_
   have I5':=I5.pinned (fpB fr5) (T.obj _ _ st5)
   refine thn (hg cl C fp pins s₂ H₂ _ s5 σ3 H5 x u _ I5' r5 (step x H5 y5)) fun _ s6 ⟨σ6,H6,I6,q6⟩=>?_
   refine thn (ht cl C fp pins s₂ H₂ _ s6 σ6 H6 _ I6 q6) fun ok s7 ⟨H7,I7,q7⟩=>?_
   have again:∀ {H8:Hp} {s8:Shared},Inv (Aay X N' sc cl C fp pins s₂ H₂) ([]++Ahp fp s5.heap) σ6 H8 s8→N σ6 H8→∃ m,m < n∧∃ i σ' H',Inv (Aay X N' sc cl C fp pins s₂ H₂) [] σ' H' s8∧tn i s8.heap∧(∀ b∈fp,H' b=none)∧W i m σ' H':=fun {H8 s8} I8 n8=>by
    obtain ⟨m',hm,w8⟩:=hN σ6 H8 n8
    refine ⟨m',hm,i + 1,σ6,H8,I8.unpinned,T.keep _ _ _ st5 fun b hb o e=>(I8.pin (b,o) (List.mem_append_right _ (List.mem_append_right _ (Acv hb e)))).1,fun b hb=>?_,w8⟩
    obtain ⟨o,e,d⟩:=T.obj _ _ st5 b hb
    exact (I8.pin (b,o) (List.mem_append_right _ (List.mem_append_right _ (Acv hb e)))).2.1
   cases ok with
   | false=>exact again I7 q7
   | true =>
    refine thn (he cl C fp pins s₂ H₂ _ s7 σ6 H7 _ I7 q7) fun y s8 ⟨v,H8,I8,r8,q8⟩=>?_
    obtain ⟨ys,hy,hz,n8⟩:=q8
    refine thn (AbF _ s8 σ6 H8 (.ref D) [v] (.ref D) [y] (fun _ H9=>N σ6 H9) I8 rfl (.cons r8 .nil) ⟨D,ys,v,rfl,rfl,hy,hz,n8⟩) fun _ s9 ⟨_,H9,I9,_,q9⟩=>?_
    exact again I9 q9
 exact codeAny_compStart_list loop (T.self _ 0 _ _ _ st0 loop)
theorem Aj3 {elt tg iter:Expr} {ifs:List Expr} {sc:Scope} {srcs:List (Option Nat)} {N':List Str} {pos:Pos} {wi:TI} {g:TG} {tt:TT} {te:TE} (hc:X.calm=true) (S:Abc sc X.env.scope N' X.N srcs) (hi:PI X tg iter wi)
  (hg:∀ cl C fp pins s₂ H₂,PG (Aay X N' sc cl C fp pins s₂ H₂) tg g) (ht:∀ cl C fp pins s₂ H₂,PTs (Aay X N' sc cl C fp pins s₂ H₂) ifs tt) (he:∀ cl C fp pins s₂ H₂,PE (Aay X N' sc cl C fp pins s₂ H₂) elt te)
  (hs:∀ x,foldedSetIterable iter X.env x=pure x:=by intro _; rfl):PE X (.ListComp elt [⟨tg,iter,ifs,0⟩] sc pos) (Apg srcs wi g tt te):=by
 intro pins s σ H Q I h
 rw [eval_ListComp]
 refine Aig (use:=none) (Q:=Q) hc S hi hg ht he hs I h fun D C H' s' m g1 J hn cn ln fr g2 q=>?_
 exact ⟨m,hn,fun h' hs'=>⟨.ref D,H',g1 h' hs',rfl,q⟩⟩
theorem Aj4 {elt tg iter:Expr} {ifs:List Expr} {sc:Scope} {srcs:List (Option Nat)} {N':List Str} {pos spos pos':Pos} {wi:TI} {g:TG} {tt:TT} {te:TE} {j:Nat} {y:Str} (hc:X.calm=true) (nd:X.N.Nodup) (hj:X.N[j]?=some y) (hy:Loc X.env.scope y) (S:Abc sc X.env.scope N' X.N srcs) (hi:PI X tg iter wi)
  (hg:∀ cl C fp pins s₂ H₂,PG (Aay X N' sc cl C fp pins s₂ H₂) tg g) (ht:∀ cl C fp pins s₂ H₂,PTs (Aay X N' sc cl C fp pins s₂ H₂) ifs tt) (he:∀ cl C fp pins s₂ H₂,PE (Aay X N' sc cl C fp pins s₂ H₂) elt te)
  (hsw:swapsWith (.ListComp elt [⟨tg,iter,ifs,0⟩] sc pos) (some (.Name y pos')) spos.line X.env=pure true) (hs:∀ x,foldedSetIterable iter X.env x=pure x:=by intro _; rfl)
  (hf:X.fn y=true∨X.env.scope.names.lookup y=some .local:=by first | exact .inl rfl | exact .inr rfl | assumption) :
  PS X (.Assign [.Name y pos'] (.ListComp elt [⟨tg,iter,ifs,0⟩] sc pos) spos) (ApY (Apg srcs wi g tt te) (AjW j)):=by
 intro pins s σ H D I h
 rw [exec_Assign_Name_used _ _ _ _ hsw]
 refine wpAny_bind (wpAny_standAt (wpAny_bind ?_))
 show wpAny _ X.A (do let _ ← comprehension (.ListComp elt [⟨tg,iter,ifs,0⟩] sc pos) sc X.env _ (newList []) false (eval iter X.env) (some (assign (.Name y pos') X.env))) _ _ s
 refine wpAny_bind (thn (Aig (use:=some (assign (.Name y pos') X.env)) (Qv:=fun _ s'=>SP X pins D .next s') hc S hi hg ht he hs I h fun L C H' s' m g1 J hn cn ln fr g2 q=>?_) fun _ s' hq=>wpAny_pure (wpAny_pure hq))
 show wpAny _ X.A (assign (.Name y pos') X.env (.ref L)) _ _ _
 refine wpAny_assign_Name (Aja J nd hj hy (v:=.ref L) rfl (fun s'' K hsame=>?_) hf)
 obtain ⟨a,hsm,ha⟩:=hsame
 have hac:C≠a:=by
  rcases ha with z | z
  ·rw [z]; exact Ne.symm ln
  ·exact Ne.symm (cn y a z)
 exact ⟨m,hn.sameBut hsm hac,fun h' hs'=>⟨_,H',g2 _ s'' h' K hs',q⟩⟩
end
end L2
namespace L2
open PySem PySem.Spec PyProof.Rows
section
variable {X:Cx} {pins:List (Addr×Obj)} {σ:St} {H:Hp} {s:Shared} {h':Heap}
theorem Inv.turnedT {t':Nat} {ch:List Addr} {T:Addr} {xs:List V} {us:List Value} (I:Inv X pins σ H s) (hch:∀ b∈ch,AjX X pins H b) (k:∀ b o,b ∉ ch→s.heap.get? b=some o→h'.get? b=some o)
  (hT:s.heap.objs.size≤T) (tho:∀ b∈ch,∃ o,s.heap.get? b=some o) (ht:h'.get? T=some { cls:=.type "tuple",data:=.seq us.toArray }) (hv:Aba xs us) (hz:xs.length≤sizeLine):Inv X pins σ (upd H T (.tup xs)) { s with heap:=h',toks:=t' }:=by
 have hn:=I.hok.fresh hT
 have neT:∀ b o,s.heap.get? b=some o→b≠T:=fun b o e=>Nat.ne_of_lt (Nat.lt_of_lt_of_le (Heap.lt_size e) hT)
 have nch:∀ b u,H b=some u→b ∉ ch:=fun b u e z=>by rw [(hch b z).1] at e; cases e
 have up:∀ b u,H b=some u→upd H T (.tup xs) b=some u:=fun b u e=>by rw [Aah (fun z=>by rw [z,hn] at e; cases e)]; exact e
 refine I.step (g':=s.gens) (d':=s.drawn) (ch:=ch) (fun b hb=>⟨(hch b hb).2.2.2.1,(hch b hb).2.1,(hch b hb).2.2.2.2.1,(hch b hb).2.2.2.2.2⟩) (fun b o _ _ hc e _=>k b o hc e) (fun b o _ _ hc e _=>⟨o.slots,k b o hc e⟩)
  (fun b o _ e n=>by rw [Aah (neT b o e)]; exact n) (fun b o hc e=>⟨o,k b o hc e⟩) (fun b ys e=>up b _ e) (fun b o u e=>up b _ e) (fun b ps e=>⟨#[],by rw [up b _ e]; simp⟩) (fun m hm=>?_) (fun b u e=>?_) I.bare
 ·obtain ⟨o,es,ep,ho,r⟩:=hm
  exact ⟨o,es,ep,k _ o (fun z=>(hch _ z).2.1 rfl) ho,r⟩
 ·by_cases hb:b=T
  ·subst hb
   rw [Aad] at e; cases e
   exact ⟨hz,us,hv,_,ht,rfl,_,rfl⟩
  ·rw [Aah hb] at e
   refine (I.hok b u e).stay (fun c v hc q=>k c v ?_ q) (fun c q=>up c _ q) fun c ys q=>up c _ q
   rcases hc with z | z
   ·rw [z]; exact nch b u e
   ·exact nch c _ z
def Ite (K:PySem.W.Frag) (a:Addr):It :=
 ⟨fun i H=>∃ xs x,SqL K H a xs∧xs[i]?=some x,fun i H x H'=>∃ t y,x=.ref t∧H t=none∧H'=upd H t (.tup [.int i,y])∧∀ xs,SqL K H a xs→xs[i]?=some y,fun i H=>∃ xs,SqL K H a xs∧xs.length≤i⟩
theorem Amk {P:Program} {w:World} {K:PySem.W.Frag} {elts:List Expr} {kk:Nat} {pos:Pos} (a e it:Addr) (hei:e≠it):AoR P w K (.Tuple elts kk pos) (Ite K a) [e,it] e (fun i h=>(∃ old,IsEnum h e it i old)∧h.IsListIter it a i) where
 mem:=by simp
 obj:=fun i h st b hb=>by
  obtain ⟨⟨old,he⟩,⟨o,ho,c,d⟩⟩:=st
  rcases List.mem_cons.mp hb with z | z
  ·subst z; exact ⟨_,he,fun v z=>by cases z⟩
  ·have z:b=it:=by simpa using z
   subst z; exact ⟨o,ho,fun v z=>by rw [d] at z; cases z⟩
 keep:=fun i h h' st k=>by
  obtain ⟨⟨old,he⟩,hi⟩:=st
  exact ⟨⟨old,k e (by simp) _ he⟩,hi.at fun o q=>k it (by simp) o q⟩
 item:=by
  intro X hP hw hK hc i pins s σ H E I hf st hg
  subst hP hw hK
  obtain ⟨xs,x,hq,hx⟩:=hg
  obtain ⟨its,rv,p,hz⟩:=I.list hq
  obtain ⟨u,hu,ru⟩:=rv.get hx
  obtain ⟨⟨old,he⟩,hit⟩:=st
  refine wpAny_pyNext_enum_item he hit p.isList (x:=u) (by simpa using hu) hei fun h' ho hit' hT hsz hk=>⟨_,rfl,?_⟩
  have I1:Inv X pins σ (upd H s.heap.objs.size (.tup [.int i,x])) { s with heap:=h',toks:=s.toks + 1 } :=
   I.turnedT (ch:=[e,it]) (us:=[.int i s.toks,u]) hf (fun b o hb q=>hk b o (fun z=>hb (by simp [z])) (fun z=>hb (by simp [z])) q) (Nat.le_refl _)
    (fun b hb=>by
     rcases List.mem_cons.mp hb with z | z
     ·subst z; exact ⟨_,he⟩
     ·have z:b=it:=by simpa using z
      subst z; obtain ⟨o,q,_⟩:=hit; exact ⟨o,q⟩) hT (.cons ⟨_,rfl⟩ (.cons ru .nil)) (by show 2≤sizeLine; decide)
  have fr:∀ b∈[e,it],(upd H s.heap.objs.size (.tup [.int i,x])) b=none:=fun b hb=>by
   have hlt:b < s.heap.objs.size:=by
    rcases List.mem_cons.mp hb with z | z
    ·subst z; exact Heap.lt_size he
    ·have z:b=it:=by simpa using z
     subst z; obtain ⟨o,q,_⟩:=hit; exact Heap.lt_size q
   rw [Aah (Nat.ne_of_lt hlt)]; exact (hf b hb).1
  refine wpAny_letOwnedTupleGo_enum ho fun h2 he2 hs2=>?_
  obtain ⟨f0,f1,f2,f3,f4,f5⟩:=hf e (by simp)
  have I2:Inv X pins σ (upd H s.heap.objs.size (.tup [.int i,x])) { s with heap:=h2,toks:=s.toks + 1 }:=I1.turned (t':=s.toks + 1) (fun b o hb q=>(hs2.2 b hb).trans q) (fr e (by simp)) f1 f3 f4 f5
  refine ⟨.ref s.heap.objs.size,_,I2,rfl,⟨_,x,rfl,I.fresh,rfl,fun ys hy=>by rw [I.list_inj hy hq]; exact hx⟩,⟨⟨u,he2⟩,?_⟩,fr⟩
  exact hit'.at fun o q=>(hs2.2 it hei.symm).trans q
 done:=by
  intro X hP hw hK hc i pins s σ H E I hf st hg
  subst hP hw hK
  obtain ⟨xs,hq,hx⟩:=hg
  obtain ⟨its,rv,p,hz⟩:=I.list hq
  obtain ⟨⟨old,he⟩,hit⟩:=st
  obtain ⟨f0,f1,f2,f3,f4,f5⟩:=hf it (by simp)
  have hl:=rv.length
  exact wpAny_pyNext_enum_end (I.ok.hd hc) he hit p.isList (by simp; omega) fun h' eb=>⟨rfl,I.turned (t':=s.toks) (fun b o hb q=>eb b o hb q) f0 f1 f3 f4 f5⟩
 self:=fun _ _ _ _ _ st h=>by
  obtain ⟨⟨old,he⟩,_⟩:=st
  exact wpAny_pyIter_enum he h
theorem AgZ:bootBuiltins "enumerate"=some (.type "enumerate"):=by decide +kernel
def Ar6 (K:PySem.W.Frag) (ta:TA):TI:=fun σ H R=>ta σ H fun vs H1=>∃ a xs,vs=[.ref a]∧SqL K H1 a xs∧R (Ite K a) H1
theorem Aml {x:Expr} {ta:TA} {p pos tp:Pos} {elts:List Expr} {kk:Nat} (g:Gm X.env.scope "enumerate") (hm:X.mg "enumerate"=none) (ha:PA X [x] ta) (hs:starEach [x] X.env=[(false,eval x X.env)]:=by rfl) :
  PI X (.Tuple elts kk tp) (.Call (.Name "enumerate" p) [x] [] pos) (Ar6 X.K ta):=by
 intro pins s σ H R I h
 refine Call_ (Aib I g.gl hm AgZ (PyProof.Rows.callWith_type1 (thn (ha pos pins s σ H _ I h) fun us s1 ⟨vs,H1,I1,r1,q1⟩=>?_) hs rfl))
 obtain ⟨a,xs,e,hq,q⟩:=q1
 subst e
 cases r1 with
 | cons r rr =>
  cases rr
  cases r
  obtain ⟨its,rv,pl,hz⟩:=I1.list hq
  refine call_enumerate_list pl.isList fun h' he hit hsz hk=>?_
  refine wpAny_pyIter_enum he ?_
  have fresh2:H1 (s1.heap.objs.size + 1)=none:=I1.hok.fresh (Nat.le_succ _)
  refine ⟨s1.heap.objs.size + 1,[s1.heap.objs.size + 1,s1.heap.objs.size],_,_,H1,rfl,I1.kept (t':=s1.toks) hk,Amk a _ _ (Nat.succ_ne_self _),⟨⟨_,he⟩,hit⟩,fun b hb=>?_,q⟩
  rcases List.mem_cons.mp hb with z | z
  ·subst z; exact I1.fpOk (Nat.le_succ _) fresh2
  ·have z:b=s1.heap.objs.size:=by simpa using z
   subst z; exact I1.fpOk (Nat.le_refl _) I1.fresh
end
end L2
namespace L2
open PySem PySem.Spec PyProof.Rows
def AaM (lo hi:Int):List Int:=(List.range (hi - lo).toNat).map fun (k:Nat)=>lo + (k:Int)
theorem Abk (lo hi:Int):(AaM lo hi).length=(hi - lo).toNat:=by unfold AaM; rw [List.length_map,List.length_range]
section
variable {X:Cx}
def Sm (i:Int):Prop:=-(2 ^ 62)≤i∧i < 2 ^ 62
theorem AkZ {pins:List (Addr×Obj)} {σ:St} {H:Hp} {s:Shared} {lo hi:Int} {t u v:Tok} {tk:Nat} (I:Inv X pins σ H s) :
  Inv X pins σ (upd H s.heap.objs.size (.rng lo hi)) { s with heap:=s.heap.push { cls:=.type "range",data:=.fields #[.int lo t,.int hi u,.int 1 v] },toks:=tk } :=
 I.laid (fun _ _ q=>Heap.get?_push_of_some _ q) (Nat.le_refl _) (show AbR X.prog X.w _ _ _ (.rng lo hi) from ⟨t,u,v,Heap.get?_push_size _ rfl⟩)
theorem Af6:AcA X (.type "range") (fun xs H Q=>(∃ j:Int,xs=[.int j]∧Sm j∧∀ p,H p=none→Q (.ref p) (upd H p (.rng 0 j)))∨∃ i j:Int,xs=[.int i,.int j]∧Sm i∧Sm j∧∀ p,H p=none→Q (.ref p) (upd H p (.rng i j))):=by
 intro pins s σ H xs us Q I r h
 rcases h with ⟨j,rfl,hj,q⟩ | ⟨i,j,rfl,hi,hj,q⟩
 ·obtain ⟨u,rfl,t,rfl⟩:=Af3 r
  exact call_range_1 ⟨.ref s.heap.objs.size,_,AkZ I,rfl,q _ I.fresh⟩
 ·obtain ⟨u,w',rfl,⟨t,rfl⟩,⟨t',rfl⟩⟩:=Aq8 r
  exact call_range_2 ⟨.ref s.heap.objs.size,_,AkZ I,rfl,q _ I.fresh⟩
theorem Alv {lo hi:Int} {acc:Array Value} (h:ItemsOf (fun (i:Nat) (v:Value)=>∃ t,v=.int (lo + (i:Int) * 1) t) acc (hi - lo).toNat):Aba ((AaM lo hi).map V.int) acc.toList:=by
 obtain ⟨hs,hi'⟩:=h
 have key:∀ (us:List Value) (n k:Nat),us.length=n→(∀ j v,us[j]?=some v→∃ t,v=Value.int (lo + ((k + j:Nat):Int)) t)→Aba (((List.range' k n).map fun (k:Nat)=>lo + (k:Int)).map V.int) us:=by
  intro us
  induction us with
  | nil=>intro n k h1 _; subst h1; exact .nil
  | cons u us ih =>
   intro n k h1 h2
   obtain ⟨n',rfl⟩:∃ n',n=n' + 1:=⟨us.length,by rw [← h1]; rfl⟩
   rw [List.range'_succ,List.map_cons,List.map_cons]
   obtain ⟨t,e⟩:=h2 0 u rfl
   refine .cons ⟨t,by simpa using e⟩ (ih n' (k + 1) (by simpa using h1) fun j v hj=>?_)
   obtain ⟨t,e⟩:=h2 (j + 1) v (by simpa using hj)
   exact ⟨t,by rw [e]; congr 1; omega⟩
 unfold AaM
 rw [List.range_eq_range']
 refine key acc.toList _ 0 (by rw [Array.length_toList]; exact hs) fun j v hj=>?_
 obtain ⟨t,e⟩:=hi' j v (by simpa using hj)
 exact ⟨t,by rw [e]; simp⟩
theorem AiM (hc:X.calm=true):AcA X (.type "list") (fun xs H Q=>∃ p lo hi,xs=[.ref p]∧H p=some (.rng lo hi)∧Sm lo∧Sm hi∧(hi - lo).toNat≤sizeLine∧∀ l,H l=none→Q (.ref l) (upd H l (.lst ((AaM lo hi).map V.int)))):=by
 intro pins s σ H xs us Q I r h
 obtain ⟨p,lo,hi,rfl,hp,⟨l1,l2⟩,⟨l3,l4⟩,hz,q⟩:=h
 obtain ⟨u,rfl,rx⟩:=Af3 r
 cases rx
 obtain ⟨t,u,v,e⟩:=I.hok p _ hp
 have hz':(hi - lo).toNat≤2 ^ 24:=hz
 refine call_list_range (n:=(hi - lo).toNat) (I.ok.hd hc) e (small_one l1 l2 l3 l4) (by rw [rangeSize_one]; split <;> omega) hz' fun h' tk acc c hk hl ha=>?_
 refine ⟨.ref s.heap.objs.size,_,I.laid (t':=tk) hk (Nat.le_refl _) (show AbR X.prog X.w _ h' _ (.lst ((AaM lo hi).map V.int)) from ⟨?_,acc.toList,c,Alv ha,by simpa using hl⟩),rfl,q _ I.fresh⟩
 rw [List.length_map,Abk]
 exact hz
theorem Ac4 (hc:X.calm=true):AcA X (.type "list") (fun xs H Q=>(∃ p ys,xs=[.ref p]∧(SqL X.K H p ys∨SqT X.K H p ys)∧∀ l,H l=none→Q (.ref l) (upd H l (.lst ys))) ∨
  ∃ p lo hi,xs=[.ref p]∧H p=some (.rng lo hi)∧Sm lo∧Sm hi∧(hi - lo).toNat≤sizeLine∧∀ l,H l=none→Q (.ref l) (upd H l (.lst ((AaM lo hi).map V.int)))):=Ajn.or (AiM hc)
theorem AiN:bootBuiltins "range"=some (.type "range"):=by decide +kernel
theorem AgK {α:Type} [BEq α] [LawfulBEq α] {f:α→V}:∀ {ns:List α} {us:List Value} {n:α},Aba (ns.map f) us→Aba ((ns.erase n).map f) (us.eraseIdx (ns.idxOf n))
 | [],[],_,_=>.nil
 | a :: ns,u :: us,n,.cons r t=>by
  rw [List.erase_cons,List.idxOf_cons]
  cases q:a == n with
  | true=>simpa using t
  | false=>simpa using Paired.cons r (AgK t)
def Ar7 (X:Cx):V→List V→Hp→VK→Prop:=fun x vs H Q=>(∃ (l:Addr) (ns:List Int) (n:Int),x=.ref l∧vs=[.int n]∧H l=some (.lst (ns.map V.int))∧n∈ns∧Q .non (upd H l (.lst ((ns.erase n).map V.int)))) ∨
 ∃ (l:Addr) (ns:List Str) (n:Str),x=.ref l∧vs=[.str n]∧H l=some (.lst (ns.map V.str))∧n∈ns∧Q .non (upd H l (.lst ((ns.erase n).map V.str)))
theorem Amm {α:Type} [BEq α] [LawfulBEq α]:∀ {ns:List α} {n a:α} {m:Nat},m < ns.idxOf n→ns[m]?=some a→(a == n)=false
 | [],_,_,_,_,e=>by simp at e
 | b :: ns,n,a,m,h,e=>by
  rw [List.idxOf_cons] at h
  cases q:b == n with
  | true=>rw [q] at h; simp at h
  | false =>
   rw [q] at h
   cases m with
   | zero=>simp at e; rw [← e]; exact q
   | succ m=>exact Amm (ns:=ns) (m:=m) (by simpa using h) (by simpa using e)
theorem Amn {α:Type} [BEq α] [LawfulBEq α] {ns:List α} {n:α} (h:n∈ns):ns[ns.idxOf n]?=some n:=by
 have hj:=List.idxOf_lt_length_of_mem h
 rw [List.getElem?_eq_getElem hj,List.getElem_idxOf hj]
theorem Aj5 {ns:List Int} {us:List Value} (r:Aba (ns.map V.int) us) (j:Nat) (h:j < us.length):∃ a t,ns[j]?=some a∧us[j]=.int a t:=by
 have hl:=r.length
 rw [List.length_map] at hl
 obtain ⟨u,hu,⟨t,rfl⟩⟩:=r.get (i:=j) (x:=.int (ns[j]'(by omega))) (by rw [List.getElem?_map,List.getElem?_eq_getElem (by omega)]; rfl)
 rw [List.getElem?_eq_getElem h] at hu
 exact ⟨_,t,List.getElem?_eq_getElem (by omega),Option.some.inj hu⟩
theorem Aj6 {ns:List Str} {us:List Value} (r:Aba (ns.map V.str) us) (j:Nat) (h:j < us.length):∃ a t,ns[j]?=some a∧us[j]=.str a t:=by
 have hl:=r.length
 rw [List.length_map] at hl
 obtain ⟨u,hu,⟨t,rfl⟩⟩:=r.get (i:=j) (x:=.str (ns[j]'(by omega))) (by rw [List.getElem?_map,List.getElem?_eq_getElem (by omega)]; rfl)
 rw [List.getElem?_eq_getElem h] at hu
 exact ⟨_,t,List.getElem?_eq_getElem (by omega),Option.some.inj hu⟩
def Arh (n:Int):Value→Bool
 | .int a _=>a == n
 | _=>false
def Ari (n:Str):Value→Bool
 | .str a _=>a == n
 | _=>false
theorem Ajv:MtM X "list.remove" (Ar7 X):=by
 intro pins s σ H x vs v us Q I rx rv h
 rcases h with ⟨l,ns,n,rfl,rfl,hH,hn,q⟩ | ⟨l,ns,n,rfl,rfl,hH,hn,q⟩
 ·cases rx
  obtain ⟨u,rfl,t,rfl⟩:=rv.one
  obtain ⟨z,its,c,r,hl,e⟩:=I.lstM hH
  rw [List.length_map] at hl
  have hj:ns.idxOf n < ns.length:=List.idxOf_lt_length_of_mem hn
  refine call_meets F.slot_list_remove ⟨_,e,rfl⟩ F.entry_list_remove (F.args_list_remove_2 _ _)
   (MeetsSeq.list_remove l its.toArray c (.int n t) (Arh n) (fun y hy=>?_) (ns.idxOf n) (by rw [List.size_toArray]; omega) ?_ (fun m hm hlt=>?_) (by rw [List.size_toArray,← hl]; simpa using z)) ⟨e,?_⟩
  ·obtain ⟨k,hk,rfl⟩:=List.getElem_of_mem (by simpa using hy:y∈its)
   obtain ⟨a,t',_,e'⟩:=Aj5 r k hk
   rw [e']
   exact MeetsSeq.EqGives.int _ _ _ _
  ·obtain ⟨a,t',h1,e'⟩:=Aj5 r (ns.idxOf n) (by omega)
   rw [Amn hn] at h1
   cases h1
   show Arh n its[ns.idxOf n]=true
   rw [e']
   exact beq_self_eq_true n
  ·obtain ⟨a,t',h1,e'⟩:=Aj5 r m (by simpa using hm)
   show Arh n (its[m]'(by simpa using hm))=false
   rw [e']
   exact Amm hlt h1
  ·refine ⟨.non,_,I.lset (its':=its.eraseIdx (ns.idxOf n)) hH e (by simp [List.eraseIdxIfInBounds_toArray]) (AgK r) ?_,rfl,q⟩
   have:=List.length_erase_le (a:=n) (l:=ns)
   rw [List.length_map] at z ⊢
   omega
 ·cases rx
  obtain ⟨u,rfl,t,rfl⟩:=rv.one
  obtain ⟨z,its,c,r,hl,e⟩:=I.lstM hH
  rw [List.length_map] at hl
  have hj:ns.idxOf n < ns.length:=List.idxOf_lt_length_of_mem hn
  refine call_meets F.slot_list_remove ⟨_,e,rfl⟩ F.entry_list_remove (F.args_list_remove_2 _ _)
   (MeetsSeq.list_remove l its.toArray c (.str n t) (Ari n) (fun y hy=>?_) (ns.idxOf n) (by rw [List.size_toArray]; omega) ?_ (fun m hm hlt=>?_) (by rw [List.size_toArray,← hl]; simpa using z)) ⟨e,?_⟩
  ·obtain ⟨k,hk,rfl⟩:=List.getElem_of_mem (by simpa using hy:y∈its)
   obtain ⟨a,t',_,e'⟩:=Aj6 r k hk
   rw [e']
   exact eqGives_str _ _ _ _
  ·obtain ⟨a,t',h1,e'⟩:=Aj6 r (ns.idxOf n) (by omega)
   rw [Amn hn] at h1
   cases h1
   show Ari n its[ns.idxOf n]=true
   rw [e']
   exact beq_self_eq_true n
  ·obtain ⟨a,t',h1,e'⟩:=Aj6 r m (by simpa using hm)
   show Ari n (its[m]'(by simpa using hm))=false
   rw [e']
   exact Amm hlt h1
  ·refine ⟨.non,_,I.lset (its':=its.eraseIdx (ns.idxOf n)) hH e (by simp [List.eraseIdxIfInBounds_toArray]) (AgK r) ?_,rfl,q⟩
   have:=List.length_erase_le (a:=n) (l:=ns)
   rw [List.length_map] at z ⊢
   omega
end
end L2
namespace L2
open PySem PySem.Spec PyProof.Rows
def AaJ (P:Program) (w:World) (K:PySem.W.Frag) (mg:Str→Option Value) (base:Heap) (CX:CXT) (k:Nat) (C:Addr) (m:Str) (ps:List Str) (sp:Sp):Prop :=
 ∃ f fd,AqN K C m f∧Agj K fd ps []∧Aco P w K mg base CX k f fd ps sp
def Amo (P:Program) (w:World) (K:PySem.W.Frag) (mg:Str→Option Value) (base:Heap) (CX:CXT) (k:Nat) (C:Addr) (x:Str) (ps:List Str) (sp:Sp):Prop :=
 ∃ f fd,mg x=some (.ref C)∧Mk K C f∧Agj K fd ps []∧Aco P w K mg base CX k f fd ps sp
section
variable {X:Cx} {CX:CXT} {k:Nat} {C:Addr} {ps:List Str} {sp:Sp} {E:XK} {x m:Str} {p pos apos:Pos} {e o:Expr} {es:List Expr} {ta:TE} {t:TA} {W:St→XK}
theorem AcC {pl:Sem Bool} (D:AaJ X.prog X.w X.K X.mg X.base CX k C m ps sp) (c:Cls X.K C) (he:PE X o ta) (hr:Af4 k X.A) (hx:AdI CX X E) (ha:PA X (e :: es) t)
  (hst:starEach (e :: es) X.env=(false,eval e X.env) :: starEach es X.env:=by rfl) (hpl:(backTo pos (starEach es X.env)).any (·.1)=false:=by rfl)
  (ht:eval (.Call (.Attribute o m apos) (e :: es) [] pos) X.env=(eval o X.env >>= fun ov=>standAt apos.atName >>= fun _=>holding [ov] (getMethod ov m pl) >>= fun ff=>callWith pos ff.1 ff.2 (backTo pos (starEach (e :: es) X.env)) (backToKw pos (keywordEach [] X.env))):=by rfl) :
  PE X (.Call (.Attribute o m apos) (e :: es) [] pos) (AnB C m sp [] E ta t):=by
 obtain ⟨f,fd,hm,hb,F⟩:=D
 exact AoZ (pl:=pl) he c hm F hr hb .nil hx ha hst hpl ht
theorem AhE {pl:Sem Bool} (D:AaJ X.prog X.w X.K X.mg X.base CX k C m ps sp) (c:Cls X.K C) (he:PE X o ta) (hr:Af4 k X.A) (hx:AdI CX X E)
  (ht:eval (.Call (.Attribute o m apos) [] [] pos) X.env=(eval o X.env >>= fun ov=>standAt apos.atName >>= fun _=>holding [ov] (getMethod ov m pl) >>= fun ff=>callWith pos ff.1 ff.2 (backTo pos (starEach [] X.env)) (backToKw pos (keywordEach [] X.env))):=by rfl) :
  PE X (.Call (.Attribute o m apos) [] [] pos) (AnB C m sp [] E ta Aq9):=by
 obtain ⟨f,fd,hm,hb,F⟩:=D
 exact AnC (pl:=pl) he c hm F hr hb .nil hx ht
theorem Amp (D:Amo X.prog X.w X.K X.mg X.base CX k C x ps sp) (g:Gm X.env.scope x) (hr:Af4 (k + 1) X.A) (hx:AdI CX X E) (ha:PA X (e :: es) t)
  (he:starEach (e :: es) X.env=(false,eval e X.env) :: starEach es X.env:=by rfl) (hpl:(backTo pos (starEach es X.env)).any (·.1)=false:=by rfl) :
  PE X (.Call (.Name x p) (e :: es) [] pos) (Ap6 C sp [] E t):=by
 obtain ⟨f,fd,hm,M,hb,F⟩:=D
 exact Ao0 M F hr g.gl hm hb .nil hx ha g.db he hpl
end
structure NmC (sc:Scope) (x:Str):Prop where
 loc:sc.names.lookup x=some .cell
 db:(x == ("__debug__":Str))=false
 cd:(x == ("__classdict__":Str))=false
structure NmF (sc:Scope) (x:Str):Prop where
 loc:sc.names.lookup x=some .cell∨sc.names.lookup x=some .free
 db:(x == ("__debug__":Str))=false
 cd:(x == ("__classdict__":Str))=false
section
variable {X:Cx} {x:Str} {pos p:Pos}
theorem pvC (i:Nat) (n:NmC X.env.scope x) (hN:X.N[i]?=some x:=by rfl):PE X (.Name x pos) (AqK i):=AlQ hN (Or.inr (Or.inl n.loc)) n.db n.cd
theorem pvF (i:Nat) (n:NmF X.env.scope x) (hN:X.N[i]?=some x:=by rfl):PE X (.Name x pos) (AqK i):=AlQ hN (Or.inr n.loc) n.db n.cd
theorem Amq (i:Nat) {e:Expr} {te:TE} {pos':Pos} (nd:X.N.Nodup) (n:NmC X.env.scope x) (he:PE X e te) (hf:X.fn x=true:=by rfl) (hN:X.N[i]?=some x:=by rfl) (hs:swapsWith e (some (.Name x pos')) pos.line X.env=pure false:=by rfl) :
  PS X (.Assign [.Name x pos'] e pos) (ApY te (AjW i)):=Aoy nd hN (Or.inr n.loc) he hs (Or.inl hf)
theorem Nm.comp {sc:Scope} {env:Env} (n:Nm sc x):Nm (relabel sc env) x:=⟨AhC n.loc rfl,n.db,n.cd⟩
theorem Gm.comp {sc:Scope} {env:Env} (n:Gm sc x):Gm (relabel sc env) x:=⟨AhC n.gl rfl,n.db,n.nn⟩
structure NmR (sc:Scope) (x:Str):Prop where
 loc:sc.names.lookup x=some .free
 db:(x == ("__debug__":Str))=false
 cd:(x == ("__classdict__":Str))=false
theorem NmR.comp {sc:Scope} {env:Env} (n:NmR sc x):NmF (relabel sc env) x:=⟨AfF n.loc,n.db,n.cd⟩
end
end L2
namespace L2
open PySem PySem.Spec PyProof.Rows
section
variable {X:Cx}
theorem Ahh:Arz X (fun o i H Q=>∃ p xs k v,o=.ref p∧i=.int k∧0≤k∧SqL X.K H p xs∧atI xs k=some v∧Q v H):=by
 intro pins s σ H o i ov iv Q I ro ri h
 obtain ⟨p,xs,k,z,rfl,rfl,h0,hq,he,q⟩:=h
 cases ro
 obtain ⟨t,rfl⟩:=ri
 obtain ⟨its,r,pl,hz⟩:=I.list hq
 obtain ⟨j,h1,h2,h3,h4,h5⟩:=AiA he
 obtain ⟨w,ew,rw'⟩:=r.get h2
 have hn:=AgY
 have hj:k.toNat=j:=by
  rw [seqIndex_of h0 h5] at h1
  exact Option.some.inj h1
 exact wpAny_getItem_list pl.isList h0 (by omega) (by rw [hj]; simpa using ew) ⟨z,H,I,rw',q⟩
theorem Amr:AcA X (.type "int") (fun xs H Q=>(∃ k,xs=[.bl k]∧Q (.int (if k then 1 else 0)) H)∨(∃ i,xs=[.int i]∧Q (.int i) H)∨∃ z n,xs=[.str z]∧PySem.intText? z=some n∧z.length≤640∧Q (.int n) H):=by
 intro pins s σ H xs us Q I r h
 rcases h with h | h | h
 ·exact Ajc pins s σ H xs us Q I r (.inr h)
 ·exact Ajc pins s σ H xs us Q I r (.inl h)
 ·exact Amh pins s σ H xs us Q I r h
theorem Abc.mk' {sc osc:Scope} {N' N:List Str} {srcs:List (Option Nat)} (h1:sc.kind=.function) (h2:∀ y∈sc.names,y.2≠.cell) (h3:∀ y∈sc.names,y.2=.local→sc.names.lookup y.1=some .local)
  (h4:∀ y∈sc.names,y.2=.free→osc.names.lookup y.1=some .cell∨osc.names.lookup y.1=some .free) (h5:N'.Nodup) (h6:srcs.length=N'.length)
  (h7:∀ p∈srcs.zip N',∀ j∈p.1,N[j]?=some p.2∧sc.names.lookup p.2=some .free∧(osc.names.lookup p.2=some .cell∨osc.names.lookup p.2=some .free)):Abc sc osc N' N srcs :=
 ⟨h1,h2,h3,h4,h5,h6,fun i j e=>by
  have hi:i < srcs.length:=(List.getElem?_eq_some_iff.mp e).1
  obtain ⟨x,hx⟩:∃ x,N'[i]?=some x:=⟨N'[i]'(by omega),List.getElem?_eq_getElem (by omega)⟩
  have hz:(srcs.zip N')[i]?=some (some j,x):=by rw [List.getElem?_zip_eq_some]; exact ⟨e,hx⟩
  obtain ⟨a,b,c⟩:=h7 _ (List.mem_of_getElem? hz) j rfl
  exact ⟨x,hx,a,b,c⟩⟩
theorem Ams:∀ n:Nat,n < 1001→(Str.ofString (toString (n:Int))).length≤10:=by decide +kernel
theorem Amt {e:Expr} {te:TE} {pos:Pos} (he:PE X e te):PE X (.FormattedValue e (-1) none pos) (fun σ H Q=>te σ H fun x H1=>(∃ i:Int,x=.int i∧0≤i∧i≤1000∧∀ z:Str,z.length≤10→Q (.str z) H1)∨∃ z,x=.str z∧z.length≤sizeLine∧Q (.str z) H1):=by
 intro pins s σ H Q I h
 refine wpAny_FormattedValue_plain (thn (he pins s σ H _ I h) fun v s1 ⟨x,H1,I1,r1,q1⟩=>?_)
 rcases q1 with ⟨i,rfl,h0,h1,q⟩ | ⟨z,rfl,hz,q⟩
 ·obtain ⟨t,rfl⟩:=r1
  obtain ⟨n,rfl⟩:=Int.eq_ofNat_of_zero_le h0
  have hn:n < 1001:=by omega
  refine wpAny_formatField_int ?_ ⟨.str _,H1,I1.tok _,⟨_,rfl⟩,q _ (Ams n hn)⟩
  have:(n:Int).natAbs=n:=rfl
  rw [this]
  exact Nat.lt_of_le_of_lt (Nat.log2_le_self n) (by omega)
 ·obtain ⟨t,rfl⟩:=r1
  exact wpAny_formatField_str ⟨.str _,H1,I1,⟨_,rfl⟩,q⟩ ⟨.str _,H1,I1.tok _,⟨_,rfl⟩,q⟩ hz
end
end L2
namespace L2
open PySem PySem.Spec PyProof.Rows
section
variable {K:PySem.W.Frag} {a D:Addr} {xs:List V} {g:TG} {tt:TT} {te:TE} {σ0:St} {H:Hp} {Q:Hp→Prop}
abbrev AnQ (D:Addr) (tt:TT) (te:TE) (N:St→Hp→Prop):St→Hp→Prop:=fun σ3 H3=>tt σ3 H3 fun b H4 =>
 if b=true then te σ3 H4 fun v H5=>∃ ys,H5 D=some (.lst ys)∧ys.length < sizeLine∧N σ3 (upd H5 D (.lst (ys++[v]))) else N σ3 H4
theorem Amu (Pv:Nat→St→Hp→Prop) (h0:Pv 0 σ0 (upd H D (.lst []))) (hl:∀ i σ H,i≤xs.length→Pv i σ H→SqL K H a xs)
  (hs:∀ i x t σ H',xs[i]?=some x→Pv i σ H'→H' t=none→g (.ref t) σ (upd H' t (.tup [.int i,x])) (AnQ D tt te (Pv (i + 1)))) (hd:∀ σ H',Pv xs.length σ H'→Q H') :
  ∃ W:Nat→Nat→St→Hp→Prop,(∃ m,W 0 m σ0 (upd H D (.lst [])))∧∀ i m σ' H',W i m σ' H' →
   ((Ite K a).stop i H'∧Q H')∨((Ite K a).go i H'∧∃ N:St→Hp→Prop,(∀ σ2 H2,N σ2 H2→∃ m',m' < m∧W (i + 1) m' σ2 H2)∧∀ x H2,(Ite K a).yld i H' x H2→g x σ' H2 fun σ3 H3=>tt σ3 H3 fun b H4 =>
    if b=true then te σ3 H4 fun v H5=>∃ ys,H5 D=some (.lst ys)∧ys.length < sizeLine∧N σ3 (upd H5 D (.lst (ys++[v]))) else N σ3 H4):=by
 refine ⟨fun i m σ H=>m=xs.length - i∧i≤xs.length∧Pv i σ H,⟨xs.length,by simp,Nat.zero_le _,h0⟩,?_⟩
 rintro i m σ H1 ⟨rfl,hi,p⟩
 have q:=hl i σ H1 hi p
 by_cases hlt:i < xs.length
 ·refine .inr ⟨⟨xs,xs[i],q,by simp [hlt]⟩,Pv (i + 1),fun σ' H' p'=>⟨xs.length - (i + 1),by omega,rfl,hlt,p'⟩,fun x H' y=>?_⟩
  obtain ⟨t,y,rfl,ht,rfl,hy⟩:=y
  exact hs i y t σ H1 (hy xs q) p ht
 ·have e:i=xs.length:=by omega
  subst e
  exact .inl ⟨⟨xs,q,Nat.le_refl _⟩,hd σ H1 p⟩
theorem Ajw (Pv:Nat→St→Hp→Prop) (h0:Pv 0 σ0 (upd H D (.lst []))) (hl:∀ i σ H,i≤xs.length→Pv i σ H→SqL K H a xs)
  (hs:∀ i x σ H',xs[i]?=some x→Pv i σ H'→g x σ H' (AnQ D tt te (Pv (i + 1)))) (hd:∀ σ H',Pv xs.length σ H'→Q H') :
  ∃ W:Nat→Nat→St→Hp→Prop,(∃ m,W 0 m σ0 (upd H D (.lst [])))∧∀ i m σ' H',W i m σ' H' →
   ((Itl K a).stop i H'∧Q H')∨((Itl K a).go i H'∧∃ N:St→Hp→Prop,(∀ σ2 H2,N σ2 H2→∃ m',m' < m∧W (i + 1) m' σ2 H2)∧∀ x H2,(Itl K a).yld i H' x H2→g x σ' H2 fun σ3 H3=>tt σ3 H3 fun b H4 =>
    if b=true then te σ3 H4 fun v H5=>∃ ys,H5 D=some (.lst ys)∧ys.length < sizeLine∧N σ3 (upd H5 D (.lst (ys++[v]))) else N σ3 H4):=by
 refine ⟨fun i m σ H=>m=xs.length - i∧i≤xs.length∧Pv i σ H,⟨xs.length,by simp,Nat.zero_le _,h0⟩,?_⟩
 rintro i m σ H1 ⟨rfl,hi,p⟩
 have q:=hl i σ H1 hi p
 by_cases hlt:i < xs.length
 ·refine .inr ⟨⟨xs,xs[i],q,by simp [hlt]⟩,Pv (i + 1),fun σ' H' p'=>⟨xs.length - (i + 1),by omega,rfl,hlt,p'⟩,fun x H' y=>?_⟩
  obtain ⟨rfl,hy⟩:=y
  exact hs i x σ _ (hy xs q) p
 ·have e:i=xs.length:=by omega
  subst e
  exact .inl ⟨⟨xs,q,Nat.le_refl _⟩,hd σ H1 p⟩
theorem Aih {lo:Int} {n:Nat} (Pv:Nat→St→Hp→Prop) (h0:Pv 0 σ0 (upd H D (.lst []))) (hs:∀ i σ H',i < n→Pv i σ H'→g (.int (lo + i)) σ H' (AnQ D tt te (Pv (i + 1)))) (hd:∀ σ H',Pv n σ H'→Q H') :
  ∃ W:Nat→Nat→St→Hp→Prop,(∃ m,W 0 m σ0 (upd H D (.lst [])))∧∀ i m σ' H',W i m σ' H' →
   ((Itr lo n).stop i H'∧Q H')∨((Itr lo n).go i H'∧∃ N:St→Hp→Prop,(∀ σ2 H2,N σ2 H2→∃ m',m' < m∧W (i + 1) m' σ2 H2)∧∀ x H2,(Itr lo n).yld i H' x H2→g x σ' H2 fun σ3 H3=>tt σ3 H3 fun b H4 =>
    if b=true then te σ3 H4 fun v H5=>∃ ys,H5 D=some (.lst ys)∧ys.length < sizeLine∧N σ3 (upd H5 D (.lst (ys++[v]))) else N σ3 H4):=by
 refine ⟨fun i m σ H=>m=n - i∧i≤n∧Pv i σ H,⟨n,by simp,Nat.zero_le _,h0⟩,?_⟩
 rintro i m σ H1 ⟨rfl,hi,p⟩
 by_cases hlt:i < n
 ·refine .inr ⟨hlt,Pv (i + 1),fun σ' H' p'=>⟨n - (i + 1),by omega,rfl,hlt,p'⟩,fun x H' y=>?_⟩
  obtain ⟨rfl,rfl⟩:=y
  exact hs i σ _ hlt p
 ·have e:i=n:=by omega
  subst e
  exact .inl ⟨Nat.le_refl _,hd σ H1 p⟩
theorem AnR {tb:TS} {E:AkN} {σ:St} (Pv:Nat→St→Hp→Prop) (h0:Pv 0 σ H) (hl:∀ i σ H,i≤xs.length→Pv i σ H→SqL K H a xs)
  (hs:∀ i x t σ H,xs[i]?=some x→Pv i σ H→H t=none→g (.ref t) σ (upd H t (.tup [.int i,x])) fun σ2 H2=>tb { E with nx:=Pv (i + 1),ct:=Pv (i + 1),bk:=E.nx } σ2 H2) (hd:∀ σ H,Pv xs.length σ H→E.nx σ H) :
  ∃ W:Nat→Nat→St→Hp→Prop,(∃ m,W 0 m σ H)∧∀ i m σ H,W i m σ H →
   ((Ite K a).stop i H∧E.nx σ H)∨((Ite K a).go i H∧∃ N:St→Hp→Prop,(∀ σ' H',N σ' H'→∃ m',m' < m∧W (i + 1) m' σ' H')∧∀ x H',(Ite K a).yld i H x H'→g x σ H' fun σ2 H2=>tb { E with nx:=N,ct:=N,bk:=E.nx } σ2 H2):=by
 refine ⟨fun i m σ H=>m=xs.length - i∧i≤xs.length∧Pv i σ H,⟨xs.length,by simp,Nat.zero_le _,h0⟩,?_⟩
 rintro i m σ H1 ⟨rfl,hi,p⟩
 have q:=hl i σ H1 hi p
 by_cases hlt:i < xs.length
 ·refine .inr ⟨⟨xs,xs[i],q,by simp [hlt]⟩,Pv (i + 1),fun σ' H' p'=>⟨xs.length - (i + 1),by omega,rfl,hlt,p'⟩,fun x H' y=>?_⟩
  obtain ⟨t,y,rfl,ht,rfl,hy⟩:=y
  exact hs i y t σ H1 (hy xs q) p ht
 ·have e:i=xs.length:=by omega
  subst e
  exact .inl ⟨⟨xs,q,Nat.le_refl _⟩,hd σ H1 p⟩
end
end L2
namespace L2
open PySem PySem.Spec PyProof.Rows
section
variable {X:Cx} (K:PySem.W.Frag) (h:X.K=K)
include h
theorem AiO:IxR X (rIx K):=h▸AaT
theorem AiP (n:Nat) {es:List Expr} {k:Nat} {pos:Pos} {t:TGs} (hc:X.calm=true) (hg:PGs X es t) (hn:(assignEach es X.env).length=n) (hst:(assignEach es X.env).findIdx? (·.1)=none):PG X (.Tuple es k pos) (Ary K n t):=h▸Ajb hc hg hn hst
theorem Aph:OpR X (compareOp .In) (fun x y H Q=>(∃ i j,x=.str i∧y=.str j∧Q (.bl (inS i j)) H)∨rIn K false x y H Q):=h▸Aif
end
end L2
namespace L2
open PySem PySem.Spec PyProof.Rows
section
variable {κ:Type} [DecidableEq κ]
def Ag9 (kvs:List (κ×V)) (k:κ):Option V:=(kvs.find? fun kv=>decide (kv.1=k)).map (·.2)
def AfX (kvs:List (κ×V)) (k:κ) (v:V):List (κ×V) :=
 if (kvs.any fun kv=>decide (kv.1=k))=true then kvs.map (fun kv=>if kv.1=k then (kv.1,v) else kv) else kvs++[(k,v)]
theorem Aeb {p:κ×V} {r:List (κ×V)} {k:κ} (e:p.1=k):Ag9 (p :: r) k=some p.2:=by simp [Ag9,List.find?_cons,e]
theorem AdB {p:κ×V} {r:List (κ×V)} {k:κ} (e:¬ p.1=k):Ag9 (p :: r) k=Ag9 r k:=by simp [Ag9,List.find?_cons,e]
theorem AiQ (k:κ):∀ kvs:List (κ×V),(kvs.any fun kv=>decide (kv.1=k))=(Ag9 kvs k).isSome
 | []=>rfl
 | p :: r=>by
  rw [List.any_cons]
  by_cases e:p.1=k
  ·simp only [Aeb e,decide_eq_true e,Bool.true_or,Option.isSome_some]
  ·rw [AdB e,decide_eq_false e,Bool.false_or]; exact AiQ k r
theorem Ajx (k j:κ) (y:V):∀ kvs:List (κ×V),Ag9 kvs k=none→Ag9 (kvs++[(k,y)]) j=if j=k then some y else Ag9 kvs j
 | [],_=>by
  by_cases e:k=j
  ·rw [if_pos e.symm]; exact Aeb (p:=(k,y)) e
  ·rw [if_neg (fun z=>e z.symm)]; exact AdB (p:=(k,y)) e
 | p :: r,hn=>by
  rw [List.cons_append]
  have hk:¬ p.1=k:=fun z=>by rw [Aeb z] at hn; cases hn
  rw [AdB hk] at hn
  have ih:=Ajx k j y r hn
  by_cases e:p.1=j
  ·rw [Aeb e,Aeb e,if_neg (fun z=>hk (e.trans z))]
  ·rw [AdB e,AdB e,ih]
theorem AeM (kvs:List (κ×V)) (k:κ) (v:V):(AfX kvs k v).length≤kvs.length + 1:=by
 unfold AfX
 split
 ·rw [List.length_map]; omega
 ·rw [List.length_append,List.length_cons,List.length_nil]; omega
theorem AnS {kvs:List (κ×V)} {k:κ} (v:V) (h:Ag9 kvs k=none):AfX kvs k v=kvs++[(k,v)]:=by
 unfold AfX
 rw [AiQ,h]
 exact if_neg (by decide)
theorem Ai9.isSome_eq {o:Option V} {u:Option Value} (r:Ai9 o u):o.isSome=u.isSome:=by
 cases o with
 | none=>cases u with
  | none=>rfl
  | some _=>exact (show False from r).elim
 | some _=>cases u with
  | none=>exact (show False from r).elim
  | some _=>rfl
theorem KV.val {kvs:List (κ×V)} {vs:List (κ×Value)} (r:KV kvs vs) (k:κ):Ai9 (Ag9 kvs k) (valueAt vs k):=by
 unfold KV at r
 induction r with
 | nil=>exact True.intro
 | @cons p q ps qs h t ih =>
  obtain ⟨h1,h2⟩:=h
  by_cases e:p.1=k
  ·have e':q.1=k:=h1.symm.trans e
   have b:valueAt (q :: qs) k=some q.2:=by simp [valueAt,List.find?_cons,e']
   rw [Aeb e,b]; exact h2
  ·have e':¬ q.1=k:=fun z=>e (h1.trans z)
   have b:valueAt (q :: qs) k=valueAt qs k:=by simp [valueAt,List.find?_cons,e']
   rw [AdB e,b]; exact ih
theorem KV.any {kvs:List (κ×V)} {vs:List (κ×Value)} (r:KV kvs vs) (k:κ):(kvs.any fun kv=>decide (kv.1=k))=vs.any fun kv=>decide (kv.1=k):=by
 unfold KV at r
 induction r with
 | nil=>rfl
 | cons h t ih=>rw [List.any_cons,List.any_cons,ih,h.1]
theorem KV.repl {kvs:List (κ×V)} {vs:List (κ×Value)} (r:KV kvs vs) (k:κ) {y:V} {u:Value} (ry:AbQ y u) :
  KV (kvs.map fun kv=>if kv.1=k then (kv.1,y) else kv) (vs.map fun kv=>if kv.1=k then (kv.1,u) else kv):=by
 unfold KV at r ⊢
 induction r with
 | nil=>exact .nil
 | @cons p q ps qs h t ih =>
  rw [List.map_cons,List.map_cons]
  refine .cons ?_ ih
  obtain ⟨h1,h2⟩:=h
  by_cases e:p.1=k
  ·rw [if_pos e,if_pos (h1.symm.trans e)]; exact ⟨h1,ry⟩
  ·rw [if_neg e,if_neg (fun z=>e (h1.trans z))]; exact ⟨h1,h2⟩
theorem KV.put {kvs:List (κ×V)} {vs:List (κ×Value)} (r:KV kvs vs) (k:κ) {y:V} {u:Value} (ry:AbQ y u):KV (AfX kvs k y) (stored vs k u):=by
 unfold AfX stored
 rw [r.any k]
 by_cases e:(vs.any fun kv=>decide (kv.1=k))=true
 ·rw [if_pos e,if_pos e]; exact r.repl k ry
 ·rw [if_neg e,if_neg e]; exact Paired.snoc r ⟨rfl,ry⟩
theorem KV.keys {kvs:List (κ×V)} {vs:List (κ×Value)} (r:KV kvs vs):kvs.map (·.1)=vs.map (·.1):=by
 unfold KV at r
 induction r with
 | nil=>rfl
 | cons h t ih=>rw [List.map_cons,List.map_cons,ih,h.1]
theorem KV.length {kvs:List (κ×V)} {vs:List (κ×Value)} (r:KV kvs vs):kvs.length=vs.length:=Paired.length r
end
theorem Aj7 {P:Program} {w:World} {k:Key} {u:Value} (r:AbQ (kV k) u):(AaH P w).is k u=true:=by
 cases k with
 | inl i=>obtain ⟨t,e⟩:=(show ∃ t,u=Value.int i t from r); subst e; exact AjU P w i t
 | inr x=>obtain ⟨t,e⟩:=(show ∃ t,u=Value.str x t from r); subst e; exact Ac1 P w x t
theorem Ajy {P:Program} {w:World}:∀ {ks:List Key} {us:List Value},Aba (ks.map kV) us→ItemsAre (AaH P w) ks us
 | [],_,r=>by rw [List.map_nil] at r; cases r; exact .nil
 | k :: ks,_,r=>by
  rw [List.map_cons] at r
  cases r with
  | cons h t=>exact .cons (Aj7 h) (Ajy t)
abbrev KT (H:Hp):List (List Key×V)→List (List Key×Addr×Value)→Prop:=Paired fun p q=>p.1=q.1∧H q.2.1=some (.tup (p.1.map kV))∧AbQ p.2 q.2.2
theorem KT.val {H:Hp} {kvs:List (List Key×V)} {xs:List (List Key×Addr×Value)} (r:KT H kvs xs) (k:List Key):Ai9 (Ag9 kvs k) ((atKey xs k).map (·.2)):=by
 induction r with
 | nil=>exact True.intro
 | @cons p q ps qs h t ih =>
  obtain ⟨h1,_,h2⟩:=h
  by_cases e:p.1=k
  ·have e':q.1=k:=h1.symm.trans e
   have b:atKey (q :: qs) k=some q.2:=by simp [atKey,List.find?_cons,e']
   rw [Aeb e,b]; exact h2
  ·have e':¬ q.1=k:=fun z=>e (h1.trans z)
   have b:atKey (q :: qs) k=atKey qs k:=by simp [atKey,List.find?_cons,e']
   rw [AdB e,b]; exact ih
theorem KT.repl {H:Hp} {kvs:List (List Key×V)} {xs:List (List Key×Addr×Value)} (r:KT H kvs xs) (k:List Key) {y:V} {u:Value} (ry:AbQ y u) :
  KT H (kvs.map fun kv=>if kv.1=k then (kv.1,y) else kv) (xs.map (putAt k u)):=by
 induction r with
 | nil=>exact .nil
 | @cons p q ps qs h t ih =>
  rw [List.map_cons,List.map_cons]
  refine .cons ?_ ih
  obtain ⟨h1,h2,h3⟩:=h
  unfold putAt
  by_cases e:p.1=k
  ·rw [if_pos e,if_pos (h1.symm.trans e)]; exact ⟨h1,h2,ry⟩
  ·rw [if_neg e,if_neg (fun z=>e (h1.trans z))]; exact ⟨h1,h2,h3⟩
theorem KT.put {H:Hp} {kvs:List (List Key×V)} {xs:List (List Key×Addr×Value)} (r:KT H kvs xs) (k:List Key) {b:Addr} {y:V} {u:Value} (hb:H b=some (.tup (k.map kV))) (ry:AbQ y u) :
  KT H (AfX kvs k y) (storedH xs k b u):=by
 have e:(kvs.any fun kv=>decide (kv.1=k))=(atKey xs k).isSome:=by
  rw [AiQ,(r.val k).isSome_eq,Option.isSome_map]
 unfold AfX storedH
 rw [e]
 by_cases q:(atKey xs k).isSome=true
 ·rw [if_pos q,if_pos q]; exact r.repl k ry
 ·rw [if_neg q,if_neg q]; exact Paired.snoc r ⟨rfl,hb,ry⟩
theorem KT.keeps {H H':Hp} {kvs:List (List Key×V)} {xs:List (List Key×Addr×Value)} (r:KT H kvs xs) (ht:∀ b ys,H b=some (.tup ys)→H' b=some (.tup ys)):KT H' kvs xs :=
 Paired.mapP r fun _ _ z=>⟨z.1,ht _ _ z.2.1,z.2.2⟩
section
variable {P:Program} {w:World} {H:Hp} {h:Heap} {a:Addr}
theorem Aqq {u:HO} (ok:HOk P w H h) (e:Rd H a u):AbR P w H h a u:=e.ok ok
theorem AnT {kvs:List (Key×V)} (ok:HOk P w H h) (e:Rd H a (.dK kvs)):kvs.length≤sizeLine∧(a == sysModules)=false∧∃ vs,KV kvs vs∧h.DictOf (AaH P w) a vs :=
 show AbR P w H h a (.dK kvs) from Aqq ok e
theorem Api {kvs:List (Key×V)} (ok:HOk P w H h) (e:H a=some (.dK kvs)):kvs.length≤sizeLine∧(a == sysModules)=false∧∃ vs,KV kvs vs∧h.DictOf (AaH P w) a vs:=AnT ok (.inl e)
theorem Amv {ks:List Key} (ok:HOk P w H h) (e:H a=some (.tup (ks.map kV))):(tupleKind (AaH P w)).is h ks a:=by
 obtain ⟨_,its,r,o,h1,h2,n,h3⟩:=(show AbR P w H h a (.tup (ks.map kV)) from ok a _ e)
 exact ⟨o,its.toArray,n,h1,h2,h3,by simpa using Ajy r⟩
theorem Apj {kvs:List (List Key×V)} (ok:HOk P w H h) (e:Rd H a (.dT kvs)):kvs.length≤sizeLine∧(a == sysModules)=false ∧
  ∃ xs,KT H kvs xs∧h.DictOfH (tupleKind (AaH P w)) a xs:=by
 obtain ⟨z,y,xs,r,o,es,ep,h1,h2,h3,h4,h5⟩:=(show AbR P w H h a (.dT kvs) from Aqq ok e)
 refine ⟨z,y,xs,r,o,es,ep,h1,h2,h3,h4,fun x hx=>?_,h5⟩
 have all:∀ {l:List (List Key×V)} {m:List (List Key×Addr×Value)},KT H l m→∀ x∈m,(tupleKind (AaH P w)).is h x.1 x.2.1:=by
  intro l m q
  induction q with
  | nil=>intro x hx; exact nomatch hx
  | @cons p q ps qs hq t ih =>
   intro x hx
   rcases List.mem_cons.mp hx with e | hx
   ·subst e
    exact Amv ok (by rw [← hq.1]; exact hq.2.1)
   ·exact ih x hx
 exact all r x hx
theorem Arj {kvs:List (List Key×V)} (ok:HOk P w H h) (e:H a=some (.dT kvs)):kvs.length≤sizeLine∧(a == sysModules)=false ∧
  ∃ xs,KT H kvs xs∧h.DictOfH (tupleKind (AaH P w)) a xs:=Apj ok (.inl e)
end
def Aj8 (H:Hp) (a:Addr) (y:V) (r:Option V):Prop :=
 (∃ kvs k,Rd H a (.dK kvs)∧y=kV k∧r=Ag9 kvs k)∨∃ kvs k b,Rd H a (.dT kvs)∧y=.ref b∧H b=some (.tup (k.map kV))∧r=Ag9 kvs k
def ArK (H:Hp) (a:Addr) (y v:V) (H':Hp):Prop :=
 (∃ kvs k,H a=some (.dK kvs)∧y=kV k∧kvs.length < sizeLine∧H'=upd H a (.dK (AfX kvs k v))) ∨
 ∃ kvs k b,H a=some (.dT kvs)∧y=.ref b∧H b=some (.tup (k.map kV))∧kvs.length < sizeLine∧H'=upd H a (.dT (AfX kvs k v))
theorem Aj8.k {H:Hp} {a:Addr} {kvs:List (Key×V)} {k:Key} (e:H a=some (.dK kvs)):Aj8 H a (kV k) (Ag9 kvs k):=.inl ⟨kvs,k,.inl e,rfl,rfl⟩
section
variable {X:Cx} {pins:List (Addr×Obj)} {σ:St} {H:Hp} {s:Shared} {a:Addr} {y v:V} {u r:Value} {o:Option V} {A:Around} {E:Value→Shared→Prop}
theorem Inv.big (I:Inv X pins σ H s):sysModules < s.heap.objs.size:=by
 have h:mainGlobals < s.heap.objs.size:=(I.mod.glob.keeps I.bk).lt
 exact Nat.lt_trans (by decide) h
theorem Amw {Q:Value→Shared→Prop} (hu:A.units + 1 < cLine) (I:Inv X pins σ H s) (g:Aj8 H a y (some v)) (ry:AbQ y u) (h:∀ w' s',Inv X pins σ H s'→AbQ v w'→Q w' s') :
  wpAny (model X.prog X.w) A (getItem (.ref a) u) Q E s:=by
 rcases g with ⟨kvs,k,e,ey,l⟩ | ⟨kvs,k,b,e,ey,eb,l⟩
 ·subst ey
  obtain ⟨z,hd,vs,rel,dd⟩:=AnT I.hok e
  obtain ⟨w',hw,rw'⟩:=Ai9.some_of (v:=v) (o:=valueAt vs k) (by rw [l]; exact rel.val k)
  exact wpAny_getItem_of (Aj7 ry) dd.mapOf hw (h w' _ (I.tok _) rw')
 ·subst ey
  cases (show u=Value.ref b from ry)
  obtain ⟨z,hd,xs,rel,dd⟩:=Apj I.hok e
  obtain ⟨w',hw,rw'⟩:=Ai9.some_of (v:=v) (o:=(atKey xs k).map (·.2)) (by rw [l]; exact rel.val k)
  obtain ⟨p,hp,hp2⟩:=Option.map_eq_some_iff.mp hw
  refine wpAny_getItem_heap (tupleKind_room_in1 hu) (Amv I.hok eb) dd hp ?_
  rw [hp2]
  exact h w' _ (I.tok _) rw'
theorem AiR {h':Heap} {t':Nat} {ob:HO} (I:Inv X pins σ H s) (mu:Mut (H a)) (hs:Heap.SameBut a s.heap h') (he:∃ q,h'.get? a=some q) (new:AbR X.prog X.w (upd H a ob) h' a ob) :
  Inv X pins σ (upd H a ob) { s with heap:=h',toks:=t' } :=
 I.write (x:=a) (e:=a) mu (.inl rfl) (fun b q hb z=>(hs.2 b hb).trans z) he new
theorem Amx {P:Program} {w:World} {H':Hp} {h':Heap} {kvs:List (Key×V)} {vs:List (Key×Value)} (z:kvs.length≤sizeLine) (hd:(a == sysModules)=false) (rel:KV kvs vs) (dd:h'.DictOf (AaH P w) a vs) :
  AbR P w H' h' a (.dK kvs):=⟨z,hd,vs,rel,dd⟩
theorem Amy {H':Hp} {Q:Unit→Shared→Prop} (hu:A.units + 1 < cLine) (I:Inv X pins σ H s) (g:ArK H a y v H') (ry:AbQ y u) (rv:AbQ v r) (h:∀ s',Inv X pins σ H' s'→Q () s') :
  wpAny (model X.prog X.w) A (setItem (.ref a) u r) Q E s:=by
 rcases g with ⟨kvs,k,e,ey,l,eH⟩ | ⟨kvs,k,b,e,ey,eb,l,eH⟩
 ·subst ey eH
  obtain ⟨z,hd,vs,rel,dd⟩:=Api I.hok e
  have hz:vs.length≤sizeLine:=by rw [← rel.length]; exact z
  have hl:(AfX kvs k v).length≤sizeLine:=by have:=AeM kvs k v; omega
  refine wpAny_setItem_pairs (hsz:=hz) (Aj7 ry) dd fun h' dd' hs=>h _ ?_
  have he:∃ q,h'.get? a=some q:=let ⟨q,_,_,hq,_⟩:=dd'; ⟨q,hq⟩
  exact AiR I (by rw [e]; exact True.intro) hs he (Amx hl hd (rel.put k rv) dd')
 ·subst ey eH
  cases (show u=Value.ref b from ry)
  obtain ⟨z,hd,xs,rel,dd⟩:=Arj I.hok e
  have hz:xs.length≤sizeLine:=by rw [← Paired.length rel]; exact z
  have hl:(AfX kvs k v).length≤sizeLine:=by have:=AeM kvs k v; omega
  refine wpAny_setItem_heap (hsz:=hz) (tupleKind_room_in1 hu) (Amv I.hok eb) dd fun h' dd' hs=>h _ ?_
  obtain ⟨q,es,ep,hq,h2,h3,h4,_,h5⟩:=dd'
  refine AiR I (by rw [e]; exact True.intro) hs ⟨q,hq⟩ ⟨hl,hd,_,(rel.put k eb rv).keeps fun c ys ec=>?_,q,es,ep,hq,h2,h3,h4,h5⟩
  rw [Aah (AaI ec e (fun z=>nomatch z))]
  exact ec
end
section
variable {X:Cx} {pins:List (Addr×Obj)} {σ:St} {H:Hp} {s:Shared} {a:Addr} {kvs:List (Key×V)} {k:Key} {u:Value} {A:Around} {E:Value→Shared→Prop}
end
def Ark (i:Expr):Prop:=∀ ov iv,subscripted i false ov iv=operate [ov,iv] (getItem ov iv)
theorem Amz {prog:Program} {w:World} {A:Around} {E:Value→Shared→Prop} {s:Shared} {env:Env} {value slice:Expr} {pos:Pos} {T id:String} {Q:Value→Shared→Prop}
  (hl:typeLookup (.type T) "__getitem__"=pure (some (.builtin id))) (hs:Ark slice)
  (h:wpAny (model prog w) A (eval value env) (fun o s₁=>wpAny (model prog w) A (eval slice env) (fun i s₂=>s₂.TypeIs o T∧wpAny (model prog w) A (getItem o i) Q E s₂) E s₁) E s) :
  wpAny (model prog w) A (eval (.Subscript value slice pos) env) Q E s:=by
 refine Subscript_ (wpAny_mono h (fun o s₁ h₁=>wpAny_mono h₁ (fun i s₂ h₂=>?_) fun _ _ x=>x) fun _ _ x=>x)
 obtain ⟨hT,h₂⟩:=h₂
 unfold subscriptTail
 refine wpAny_bind ?_
 rw [getitemInPython_of_ne hT.not_modules]
 refine wpAny_bind (wpAny_specialOf hT hl ?_)
 have fin:wpAny (model prog w) A (subscripted slice false o i) (fun r s₃=>wpAny (model prog w) A (letTemporaryGo value o r >>= fun _=>pure r) Q E s₃) E s₂:=by
  rw [hs o i]
  exact wpAny_operating (wpAny_mono h₂ (fun r s₃ h₃=>wpAny_bind (wpAny_letTemporaryGo (wpAny_pure h₃))) fun _ _ x=>x)
 first
  | exact wpAny_pure (wpAny_bind fin)
  | exact wpAny_bind (wpAny_pure (wpAny_bind fin))
  | exact wpAny_bind fin
theorem Aj9 {X:Cx} {pins:List (Addr×Obj)} {σ:St} {H:Hp} {s:Shared} {a:Addr} {y:V} {o:Option V} (I:Inv X pins σ H s) (g:Aj8 H a y o):s.TypeIs (.ref a) "dict":=by
 rcases g with ⟨kvs,k,e,_,_⟩ | ⟨kvs,k,b,e,_,_,_⟩
 ·obtain ⟨_,_,vs,_,dd⟩:=AnT I.hok e
  exact dd.typeIs
 ·obtain ⟨_,_,xs,_,dd⟩:=Apj I.hok e
  exact dd.typeIs
def Arl (td ty:TE):TE:=fun σ H Q=>td σ H fun x H1=>ty σ H1 fun y H2=>∃ a v,x=.ref a∧Aj8 H2 a y (some v)∧Q v H2
def Arm (td ty tv:TE):TS:=fun D σ H=>tv σ H fun v H1=>td σ H1 fun x H2=>ty σ H2 fun y H3=>∃ a H4,x=.ref a∧ArK H3 a y v H4∧D.nx σ H4
section
variable {X:Cx} {o i e value:Expr} {pos pos' tpos:Pos} {td ty tv:TE}
theorem AaU (hu:X.A.units + 1 < cLine) (ho:PE X o td) (hi:PE X i ty) (hs:Ark i):PE X (.Subscript o i pos) (Arl td ty):=by
 intro pins s σ H Q I h
 refine Amz PySem.F.slot_dict_getitem.lookup hs (thn (ho pins s σ H _ I h) fun u s1 ⟨x,H1,I1,rx,q1⟩=>thn (hi pins s1 σ H1 _ I1 q1) fun iv s2 ⟨y,H2,I2,ry,a,v,ex,g,q2⟩=>?_)
 subst ex
 obtain rfl:u=Value.ref a:=rx
 exact ⟨Aj9 I2 g,Amw hu I2 g ry fun w' s3 I3 rw'=>⟨v,H2,I3,rw',q2⟩⟩
theorem Aka (hu:X.A.units + 1 < cLine) (ho:PE X o td) (hi:PE X i ty) (hv:PE X value tv) (hs:swapsWith value (some (.Subscript o i pos')) pos.line X.env=pure false) :
  PS X (.Assign [.Subscript o i pos'] value pos) (Arm td ty tv):=by
 intro pins s σ H D I h
 refine wpAny_Assign_Subscript (thn (hv pins s σ H _ I h) fun r s1 ⟨v,H1,I1,rv,q1⟩=>thn (ho pins s1 σ H1 _ I1 q1) fun u s2 ⟨x,H2,I2,rx,q2⟩=>thn (hi pins s2 σ H2 _ I2 q2) fun iv s3 ⟨y,H3,I3,ry,a,H4,ex,g,q3⟩=>?_) hs
 subst ex
 obtain rfl:u=Value.ref a:=rx
 exact Amy hu I3 g ry rv fun s4 I4=>⟨σ,H4,I4,q3⟩
end
theorem Ak0 {P:Program} {w:World} {H:Hp} (h:Heap) (hb:sysModules < h.objs.size):AbR P w H (h.push { cls:=.type "dict",data:=.dict #[] }) h.objs.size (.dK []) :=
 ⟨Nat.zero_le _,beq_eq_false_iff_ne.mpr (Ne.symm (Nat.ne_of_lt hb)),[],.nil,Heap.DictOf.new h⟩
section
variable {X:Cx} {pos:Pos}
end
def AmA:List (TE×TE)→St→Hp→(List (V×V)→Hp→Prop)→Prop
 | [],_,H,Q=>Q [] H
 | (tk,tv) :: r,σ,H,Q=>tk σ H fun x H1=>tv σ H1 fun y H2=>AmA r σ H2 fun ps H3=>Q ((x,y) :: ps) H3
abbrev VV:List (V×V)→List (Value×Value)→Prop:=Paired fun p q=>AbQ p.1 q.1∧AbQ p.2 q.2
def PPs (X:Cx) (pos:Pos) (keys:List (Option Expr)) (values:List Expr) (trs:List (TE×TE)):Prop :=
 ∀ (pins:List (Addr×Obj)) (s:Shared) (σ:St) (H:Hp) (Q:List (V×V)→Hp→Prop),Inv X pins σ H s→AmA trs σ H Q →
  wpAny (model X.prog X.w) X.A (evalPairs (pairTrees keys values X.env pos)) (fun vs s'=>∃ ps H',Inv X pins σ H' s'∧VV ps vs∧Q ps H') X.xe s
theorem Apk {X:Cx} {pos:Pos}:PPs X pos [] [] []:=fun pins s σ H Q I h=>pairTrees_nil_walk ⟨[],H,I,.nil,h⟩
theorem Agn {X:Cx} {pos:Pos} {k v:Expr} {ks:List (Option Expr)} {vs:List Expr} {tk tv:TE} {trs:List (TE×TE)} (hk:PE X k tk) (hv:PE X v tv) (hr:PPs X pos ks vs trs) :
  PPs X pos (some k :: ks) (v :: vs) ((tk,tv) :: trs):=fun pins s σ H Q I h =>
 pairTrees_cons_walk (thn (hk pins s σ H _ I h) fun u s1 ⟨x,H1,I1,rx,q1⟩=>thn (hv pins s1 σ H1 _ I1 q1) fun w2 s2 ⟨y,H2,I2,ry,q2⟩ =>
  thn (hr pins s2 σ H2 _ I2 q2) fun ws s3 ⟨ps,H3,I3,rel,q3⟩=>⟨(x,y) :: ps,H3,I3,.cons ⟨rx,ry⟩ rel,q3⟩)
def Aii (kvs more:List (Key×V)):List (Key×V):=more.foldl (fun acc kv=>AfX acc kv.1 kv.2) kvs
theorem KV.merge:∀ {more:List (Key×V)} {rs:List (Key×Value)} {kvs:List (Key×V)} {vs:List (Key×Value)},KV more rs→KV kvs vs→KV (Aii kvs more) (merged vs rs):=by
 intro more rs kvs vs r
 unfold KV at r
 induction r generalizing kvs vs with
 | nil=>intro q; exact q
 | @cons p q ps qs h t ih =>
  intro r0
  have e:KV (AfX kvs p.1 p.2) (stored vs q.1 q.2):=by
   have:=r0.put p.1 h.2
   rw [← h.1]; exact this
  exact ih e
theorem Ago:∀ (more kvs:List (Key×V)),(Aii kvs more).length≤kvs.length + more.length
 | [],kvs=>by show kvs.length≤kvs.length + 0; omega
 | p :: r,kvs=>by
  have h1:=Ago r (AfX kvs p.1 p.2)
  have h2:=AeM kvs p.1 p.2
  show (Aii (AfX kvs p.1 p.2) r).length≤_
  rw [List.length_cons]; omega
theorem Aij {P:Program} {w:World}:∀ {kvs:List (Key×V)} {ws:List (Value×Value)},VV (kvs.map fun kv=>(kV kv.1,kv.2)) ws→∃ rs,Carries (AaH P w) ws rs∧KV kvs rs
 | [],_,r=>by rw [List.map_nil] at r; cases r; exact ⟨[],True.intro,.nil⟩
 | p :: kvs,_,r=>by
  rw [List.map_cons] at r
  cases r with
  | @cons a b as bs h t =>
   obtain ⟨rs,c,q⟩:=Aij (P:=P) (w:=w) t
   obtain ⟨b1,b2⟩:=b
   exact ⟨(p.1,b2) :: rs,⟨Aj7 h.1,rfl,c⟩,.cons ⟨rfl,h.2⟩ q⟩
def Arn (trs:List (TE×TE)):TE:=fun σ H Q=>∀ p,H p=none→AmA trs σ (upd H p (.dK [])) fun ps H2=>H2 p=some (.dK [])∧∃ kvs:List (Key×V),ps=kvs.map (fun kv=>(kV kv.1,kv.2))∧kvs.length≤15∧Q (.ref p) (upd H2 p (.dK (Aii [] kvs)))
theorem Apl {X:Cx} {pos:Pos} {keys:List (Option Expr)} {values:List Expr} {trs:List (TE×TE)} (h:PPs X pos keys values trs) (hall:keys.all (·.isSome)=true) (hl:keys.length=values.length) (h0:keys≠[])
  (h15:keys.length≤15):PE X (.Dict keys values pos) (Arn trs):=by
 intro pins s σ H Q I q
 have hn:=I.hok.fresh (Nat.le_refl s.heap.objs.size)
 have I1:=I.laid (a:=s.heap.objs.size) (o:=.dK []) (h':=s.heap.push { cls:=.type "dict",data:=.dict #[] }) (t':=s.toks) (fun _ _ q=>Heap.get?_push_of_some _ q) (Nat.le_refl _) (Ak0 s.heap I.big)
 refine wpAny_Dict_walk (knd:=AaH X.prog X.w) hall hl h0 h15 (thn (h pins _ σ _ _ I1 (q _ hn)) fun ws s2 ⟨ps,H2,I2,rel,e,kvs,ep,lk,q2⟩=>?_)
 subst ep
 obtain ⟨rs,c,rk⟩:=Aij (P:=X.prog) (w:=X.w) rel
 obtain ⟨z,hd,vs0,r0,dd⟩:=Api I2.hok e
 cases r0
 refine ⟨rs,c,dd,fun h' dd' hs=>⟨.ref s.heap.objs.size,_,?_,rfl,q2⟩⟩
 have hz:(Aii [] kvs).length≤sizeLine:=by
  have h1:=Ago kvs []
  rw [List.length_nil] at h1
  rw [sizeLine_eq]; omega
 have he:∃ q,h'.get? s.heap.objs.size=some q:=let ⟨q,_,_,hq,_⟩:=dd'; ⟨q,hq⟩
 exact AiR I2 (by rw [e]; exact True.intro) hs he (Amx hz hd (rk.merge .nil) dd')
structure M1 (X:Cx) (o:Expr) (m:Str) (apos:Pos) (e:Expr) (cpos:Pos):Prop where
 base:attributeBase o m X.env (eval o X.env)=eval o X.env
 few:((backTo cpos (starEach [e] X.env)).all (fun x=>!x.1) && (backToKw cpos (keywordEach [] X.env)).all (fun x=>x.1.isSome)
  && decide (([e]:List Expr).length + ([]:List Keyword).length + (if ([]:List Keyword).isEmpty then 0 else 1) < 30))=true
 line:(apos.endLine == cpos.line)=true
 trees:backTo cpos (starEach [e] X.env)=[(false,eval e X.env)]
structure M2 (X:Cx) (o:Expr) (m:Str) (apos:Pos) (e f:Expr) (cpos:Pos):Prop where
 base:attributeBase o m X.env (eval o X.env)=eval o X.env
 few:((backTo cpos (starEach [e,f] X.env)).all (fun x=>!x.1) && (backToKw cpos (keywordEach [] X.env)).all (fun x=>x.1.isSome)
  && decide (([e,f]:List Expr).length + ([]:List Keyword).length + (if ([]:List Keyword).isEmpty then 0 else 1) < 30))=true
 line:(apos.endLine == cpos.line)=true
 trees:backTo cpos (starEach [e,f] X.env)=[(false,eval e X.env),(false,eval f X.env)]
section
variable {X:Cx} {pins:List (Addr×Obj)} {σ:St} {H:Hp} {s:Shared} {a:Addr} {y d:V} {u r:Value} {o:Option V} {A:Around} {E:Value→Shared→Prop}
end
section
variable {X:Cx} {o e f:Expr} {apos cpos:Pos} {td ty tx:TE}
end
section
variable {X:Cx} {pins:List (Addr×Obj)} {σ:St} {H:Hp} {s:Shared} {a:Addr} {kvs:List (Key×V)} {A:Around} {E:Value→Shared→Prop}
end
section
variable {X:Cx} {pins:List (Addr×Obj)} {σ:St} {H:Hp} {s:Shared} {a:Addr} {y:V} {u:Value} {A:Around} {E:Value→Shared→Prop}
end
end L2
namespace L2
open PySem PySem.Spec PyProof.Rows
section
variable {X:Cx}
end
section
variable {κ:Type} [DecidableEq κ]
end
end L2
namespace L2
open PySem PySem.Spec PyProof.Rows
structure CFn (K:PySem.W.Frag) (C f:Addr) (m:Str):Prop where
 rd:PySem.W.readsIn K C (.type "type")=true
 sp:PySem.W.specialIn K (.ref C) "__getattribute__"=some (some (.builtin "type.__getattribute__"))
 fd:PySem.W.findCls K (.ref C) (.type "type") m=some (.val (.ref f))
 ty:PySem.W.typeIn K (.ref f)=some (.type "function")
 kp:PySem.W.keepIn K (.ref f)=true
section
variable {X:Cx} {CX:CXT} {k:Nat} {f C:Addr} {fd:FuncData} {ps:List Str} {sp:Sp} {E:XK} {x m:Str} {p pos apos:Pos} {e:Expr} {es:List Expr} {t:TA}
theorem Aqr {pl:Sem Bool} (c:CFn X.K C f m) (g:Gm X.env.scope x) (hm:X.mg x=some (.ref C)) (F:Aco X.prog X.w X.K X.mg X.base CX k f fd ps sp) (hb:Agj X.K fd ps []) (hr:Af4 k X.A) (hx:AdI CX X E) (ha:PA X (e :: es) t)
  (hst:starEach (e :: es) X.env=(false,eval e X.env) :: starEach es X.env:=by rfl) (hpl:(backTo pos (starEach es X.env)).any (·.1)=false:=by rfl)
  (ht:eval (.Call (.Attribute (.Name x p) m apos) (e :: es) [] pos) X.env=(eval (.Name x p) X.env >>= fun ov=>standAt apos.atName >>= fun _=>holding [ov] (getMethod ov m pl) >>= fun ff=>callWith pos ff.1 ff.2 (backTo pos (starEach (e :: es) X.env)) (backToKw pos (keywordEach [] X.env))):=by rfl) :
  PE X (.Call (.Attribute (.Name x p) m apos) (e :: es) [] pos) (AnA sp [] E t):=by
 intro pins s σ H Q I h
 refine PySem.W.methodCall_KW (pl:=pl) ?_ ht
 have pn:PE X (.Name x p) (tC (.ref C)):=AnN g hm rfl
 refine thn (pn pins s σ H (fun v H1=>v=.ref C∧H1=H) I ⟨rfl,rfl⟩) fun u s1 ⟨v,H1,I1,rv,e1,e2⟩=>?_
 subst e1 e2
 cases rv
 refine PySem.W.method_cls I1.kIn c.sp (PySem.W.cls_value I1.kIn c.rd c.fd rfl ?_)
 have I2:=I1.tok (s1.toks + 1)
 refine PySem.W.callWith_K (first:=[]) (h₀:=X.base) I.ok.mod.kin c.kp (thn (ha pos pins _ σ _ _ I2 h) fun us s2 ⟨vs,H2,I3,r,q⟩=>⟨I3.kIn,?_⟩) hst hpl
 exact AkT F hr hb .nil hx I3 r q
end
end L2
namespace L2
open PySem PySem.Spec PyProof.Rows
section
variable {X:Cx}
end
end L2
namespace L2
open PySem PySem.Spec PyProof.Rows
theorem Agp:∀ {vs:List Value} {zs:List Str},StrsAre vs zs→Aba (zs.map V.str) vs
 | _,_,.nil=>.nil
 | _,_,.cons n t r=>.cons ⟨t,rfl⟩ (Agp r)
theorem AhF:∀ {zs:List Str} {vs:List Value},Aba (zs.map V.str) vs→StrsAre vs zs
 | [],_,.nil=>.nil
 | n :: zs,_,.cons r t=>by
  obtain ⟨tk,rfl⟩:=r
  exact .cons n tk (AhF t)
def leS (a b:Str):Prop:=a.cps.toList≤b.cps.toList
theorem AmB {a b c:Str} (h:leS a b) (k:leS b c):leS a c:=List.le_trans h k
theorem AnU {a b:Str} (h:leS a b) (k:leS b a):a=b:=by
 have e:=List.le_antisymm h k
 cases a with | mk x=>cases b with | mk y=>cases x; cases y; simp_all
theorem Ajz:∀ (l:List Str) (p:Str),risingS p l=true→(p :: l).Pairwise leS
 | [],p,_=>List.pairwise_singleton _ _
 | x :: r,p,h=>by
  have h':(!ltCps x.cps.toList p.cps.toList && risingS x r)=true:=h
  rw [Bool.and_eq_true] at h'
  have ih:=Ajz r x h'.2
  have hx:leS p x:=by
   have:=h'.1
   rw [ltCps_eq] at this
   show ¬ (x.cps.toList < p.cps.toList)
   simpa using this
  refine List.pairwise_cons.mpr ⟨fun y hy=>?_,ih⟩
  rcases List.mem_cons.mp hy with z | z
  ·rw [z]; exact hx
  ·exact AmB hx ((List.pairwise_cons.mp ih).1 y z)
theorem AmC:∀ {l:List Str},sortedS l=true→l.Pairwise leS
 | [],_=>.nil
 | x :: r,h=>Ajz r x h
theorem Alw {a b:List Str} (p:a.Perm b) (ha:a.Pairwise leS) (hb:b.Pairwise leS):a=b :=
 List.Perm.eq_of_pairwise (le:=leS) (fun x y _ _ h1 h2=>AnU h1 h2) ha hb p
section
variable {X:Cx}
theorem Ag0:AcA X (.builtin "sorted") (fun xs H Q=>∃ (p:Addr) (zs:List Str),xs=[.ref p]∧SqL X.K H p (zs.map V.str)∧zs.length < 64∧∀ (l:Addr) (zs':List Str),H l=none→zs'.Perm zs→zs'.Pairwise leS→Q (.ref l) (upd H l (.lst (zs'.map V.str)))):=by
 intro pins s σ H xs us Q I r h
 obtain ⟨p,zs,rfl,hq,hl,q⟩:=h
 obtain ⟨u,rfl,rx⟩:=Af3 r
 cases rx
 obtain ⟨its,rv,pl,hz⟩:=I.list hq
 have e:=rv.length
 rw [List.length_map] at e
 refine sorted_strs pl.isList (AhF rv) (by omega) fun out zs' a1 a2 a3=>?_
 obtain ⟨c,ho⟩:=sortedAll_at s.heap its out
 have fr:H (s.heap.objs.size + 1)=none:=I.hok.fresh (Nat.le_succ _)
 refine ⟨.ref (s.heap.objs.size + 1),_,I.laid (t':=s.toks) (fun b o q=>sortedAll_old q) (Nat.le_succ _) (show AbR X.prog X.w _ _ _ (.lst (zs'.map V.str)) from ⟨?_,out.toList,c,Agp a1,by simpa using ho⟩),rfl,q _ zs' fr a2 (AmC a3)⟩
 rw [List.length_map,a2.length_eq,sizeLine_eq]
 omega
theorem AmD (hc:X.calm=true):AcA X (.builtin "all") (fun xs H Q=>∃ (p:Addr) (bs:List Bool),xs=[.ref p]∧SqL X.K H p (bs.map V.bl)∧Q (.bl (bs.all id)) H):=by
 intro pins s σ H xs us Q I r h
 obtain ⟨p,bs,rfl,hq,q⟩:=h
 obtain ⟨u,rfl,rx⟩:=Af3 r
 cases rx
 obtain ⟨its,rv,pl,hz⟩:=I.list hq
 refine call_all_walk (wpAny_pyIter_list pl.isList ?_)
 have hlt:p < s.heap.objs.size:=by
  obtain ⟨o,e,_⟩:=pl.isList
  exact Heap.lt_size e
 have el:=rv.length
 rw [List.length_map] at el
 have hb:∀ (i:Nat) (v:Value),its.toArray[i]?=some v→v=Value.bool (bs.getD i true):=fun i v hv=>by
  have hv':its[i]?=some v:=by simpa using hv
  have hi:i < bs.length:=by rw [el]; exact (List.getElem?_eq_some_iff.mp hv').1
  obtain ⟨u,e1,e2⟩:=rv.get (i:=i) (x:=.bl bs[i]) (by rw [List.getElem?_map,List.getElem?_eq_getElem hi]; rfl)
  rw [hv'] at e1
  cases e1
  rw [List.getD,List.getElem?_eq_getElem hi]
  exact e2
 refine ⟨s.heap.objs.size,_,_,_,_,_,fun i=>bs.getD i true,rfl,Walks.list (by simpa using I.ok.hd hc) s.heap.objs.size p (Nat.ne_of_lt hlt) its.toArray,⟨⟨_,Heap.get?_push_size _ rfl,rfl,rfl⟩,pl.isList.push _⟩,fun i v s' Q' E' hv hq'=>?_,fun h' tk hk=>?_⟩
 ·rw [hb i v hv]
  exact wpAny_truthy_bool hq'
 ·have e:(List.range its.toArray.size).all (fun i=>bs.getD i true)=bs.all id:=by
   rw [List.size_toArray,← el,Bool.eq_iff_iff,List.all_eq_true,List.all_eq_true]
   constructor
   ·intro h b hb'
    obtain ⟨i,hi,rfl⟩:=List.getElem_of_mem hb'
    have:=h i (List.mem_range.mpr hi)
    rwa [List.getD,List.getElem?_eq_getElem hi] at this
   ·intro h i hi
    have hi':=List.mem_range.mp hi
    rw [List.getD,List.getElem?_eq_getElem hi']
    exact h _ (List.getElem_mem hi')
  rw [e]
  have I2:Inv X pins σ H { s with heap:=h',toks:=tk }:=I.kept (t':=tk) fun b o hb'=>hk b o (fun z=>by
   rw [List.mem_singleton.mp z] at hb'
   exact absurd (Heap.lt_size hb') (Nat.lt_irrefl _)) (Heap.get?_push_of_some _ hb')
  exact ⟨.bl _,H,I2,rfl,q⟩
end
end L2
namespace L2
open PySem PySem.Spec PyProof.Rows PySem.W
section
variable {n:Nat} {key:Nat→List Nat} {cmp:Nat→Nat→(Bool→Shared→Prop)→Shared→Prop} {s:Shared}
def at0 (p:Array Nat) (i:Nat):Nat:=p.getD i 0
theorem Ae5 (p:Array Nat) (i:Nat):at0 p i=(p[i]?).getD 0:=by unfold at0; rw [Array.getD_eq_getD_getElem?]
structure Pm (n:Nat) (p:Array Nat):Prop where
 pm:p.toList.Perm (List.range n)
theorem Pm.size {p:Array Nat} (h:Pm n p):p.size=n:=by have:=h.pm.length_eq; simpa using this
theorem Pm.lt {p:Array Nat} (h:Pm n p) {i:Nat} (hi:i < n):at0 p i < n:=by
 have hs:i < p.size:=by rw [h.size]; exact hi
 rw [Ae5,Array.getElem?_eq_getElem hs]
 exact List.mem_range.mp (h.pm.mem_iff.mp (Array.getElem_mem_toList hs))
theorem Pm.inj {p:Array Nat} (h:Pm n p) {i j:Nat} (hi:i < n) (hj:j < n) (e:at0 p i=at0 p j):i=j:=by
 have hs:i < p.size:=by rw [h.size]; exact hi
 have ht:j < p.size:=by rw [h.size]; exact hj
 rw [Ae5,Ae5,Array.getElem?_eq_getElem hs,Array.getElem?_eq_getElem ht] at e
 have nd:p.toList.Nodup:=h.pm.nodup_iff.mpr List.nodup_range
 have e':p.toList[i]'(by simpa using hs)=p.toList[j]'(by simpa using ht):=by simpa using e
 exact (List.getElem_inj nd).mp e'
structure Ky (n:Nat) (key:Nat→List Nat) (cmp:Nat→Nat→(Bool→Shared→Prop)→Shared→Prop) (s:Shared):Prop where
 df:∀ i j,i < n→j < n→i≠j→key i≠key j
 ok:∀ i j C,i < n→j < n→C (decide (key i < key j)) s→cmp i j C s
def Up (key:Nat→List Nat) (p:Array Nat) (m:Nat):Prop:=∀ i j,i < j→j < m→key (at0 p i) < key (at0 p j)
def Dn (key:Nat→List Nat) (p:Array Nat) (m:Nat):Prop:=∀ i j,i < j→j < m→key (at0 p j) < key (at0 p i)
theorem AmE (k:Ky n key cmp s) {p:Array Nat} (h:Pm n p) {i j:Nat} (hi:i < n) (hj:j < n) (d:i≠j) (z:¬ key (at0 p i) < key (at0 p j)):key (at0 p j) < key (at0 p i):=by
 have ne:key (at0 p i)≠key (at0 p j):=k.df _ _ (h.lt hi) (h.lt hj) fun e=>d (h.inj hi hj e)
 rcases List.le_total (key (at0 p i)) (key (at0 p j)) with q | q
 ·exact absurd (List.le_antisymm q (List.not_lt.mp z)) ne
 ·exact Classical.byContradiction fun w=>ne (List.le_antisymm (List.not_lt.mp w) q)
theorem Up.more {p:Array Nat} {m:Nat} (u:Up key p m) (h:m=0∨key (at0 p (m - 1)) < key (at0 p m)):Up key p (m + 1):=fun i j hi hj=>by
 by_cases e:j < m
 ·exact u i j hi e
 ·have e:j=m:=by omega
  subst e
  rcases h with h | h
  ·omega
  ·by_cases q:i=j - 1
   ·rw [q]; exact h
   ·exact List.lt_trans (u i (j - 1) (by omega) (by omega)) h
theorem Dn.more {p:Array Nat} {m:Nat} (u:Dn key p m) (h:m=0∨key (at0 p m) < key (at0 p (m - 1))):Dn key p (m + 1):=fun i j hi hj=>by
 by_cases e:j < m
 ·exact u i j hi e
 ·have e:j=m:=by omega
  subst e
  rcases h with h | h
  ·omega
  ·by_cases q:i=j - 1
   ·rw [q]; exact h
   ·exact List.lt_trans h (u i (j - 1) (by omega) (by omega))
theorem AmF (k:Ky n key cmp s) {p:Array Nat} (hp:Pm n p) {Q:Nat→Shared→Prop}:∀ (f m:Nat),1≤m→m + f=n→Up key p m→(∀ m',m≤m'→m'≤n→Up key p m'→(m' < n→key (at0 p m') < key (at0 p (m' - 1)))→Q m' s)→(kas_asc p f m).kasWp cmp Q s
 | 0,m,h1,h2,u,q=>q m (Nat.le_refl _) (by omega) u fun z=>by omega
 | f + 1,m,h1,h2,u,q=>by
  refine k.ok _ _ _ (hp.lt (i:=m) (by omega)) (hp.lt (i:=m - 1) (by omega)) ?_
  by_cases c:key (at0 p m) < key (at0 p (m - 1))
  ·have c':key (p.getD m 0) < key (p.getD (m - 1) 0):=c
   rw [decide_eq_true c']; dsimp only; rw [if_pos rfl]
   exact q m (Nat.le_refl _) (by omega) u fun _=>c
  ·have c':¬ key (p.getD m 0) < key (p.getD (m - 1) 0):=c
   rw [decide_eq_false c']; dsimp only; rw [if_neg (by decide)]
   exact AmF k hp f (m + 1) (by omega) (by omega) (u.more (.inr (AmE k hp (by omega) (by omega) (by omega) c))) fun m' a b=>q m' (by omega) b
theorem AmG (k:Ky n key cmp s) {p:Array Nat} (hp:Pm n p) {Q:Array Nat×Nat×Nat→Shared→Prop}:∀ (f m:Nat),1≤m→m + f=n→Dn key p m→(∀ m',m≤m'→m'≤n→Dn key p m'→Q (p,m',0) s)→(kas_desc f p m 0).kasWp cmp Q s
 | 0,m,h1,h2,u,q=>q m (Nat.le_refl _) (by omega) u
 | f + 1,m,h1,h2,u,q=>by
  refine k.ok _ _ _ (hp.lt (i:=m) (by omega)) (hp.lt (i:=m - 1) (by omega)) ?_
  by_cases c:key (at0 p m) < key (at0 p (m - 1))
  ·have c':key (p.getD m 0) < key (p.getD (m - 1) 0):=c
   rw [decide_eq_true c']; dsimp only; rw [if_pos rfl,if_neg (by decide)]
   exact AmG k hp f (m + 1) (by omega) (by omega) (u.more (.inr c)) fun m' a b=>q m' (by omega) b
  ·have c':¬ key (p.getD m 0) < key (p.getD (m - 1) 0):=c
   rw [decide_eq_false c']; dsimp only; rw [if_neg (by decide)]
   have d:=AmE k hp (i:=m) (j:=m - 1) (by omega) (by omega) (by omega) c
   have d':key (p.getD (m - 1) 0) < key (p.getD m 0):=d
   refine k.ok _ _ _ (hp.lt (i:=m - 1) (by omega)) (hp.lt (i:=m) (by omega)) ?_
   rw [decide_eq_true d']; dsimp only; rw [if_pos rfl]
   exact q m (Nat.le_refl _) (by omega) u
theorem AoD {p:Array Nat} {m:Nat} (hm:m≤p.size) (i:Nat):at0 (kas_rev p 0 m) i=if i < m then at0 p (m - 1 - i) else at0 p i:=by
 rw [Ae5,Ae5,Ae5]
 unfold kas_rev
 rw [getElem?_mirror hm _ (by omega)]
 split
 ·rename_i h
  have hi:i < m:=by omega
  rw [if_pos hi]
  congr 2
  omega
 ·rename_i h
  split
  ·congr 2
   omega
  ·rfl
theorem Pm.rev {p:Array Nat} (h:Pm n p) (m:Nat):Pm n (kas_rev p 0 m):=⟨(Array.perm_iff_toList_perm.mp (mirror_perm _ _ _ _)).trans h.pm⟩
theorem Dn.rev {p:Array Nat} {m:Nat} (h:Dn key p m) (hm:m≤p.size):Up key (kas_rev p 0 m) m:=fun i j hi hj=>by
 rw [AoD hm,AoD hm,if_pos (by omega),if_pos hj]
 exact h _ _ (by omega) (by omega)
theorem AnV (k:Ky n key cmp s) {p:Array Nat} (hp:Pm n p) (hn:1≤n) {Q:Nat×Array Nat→Shared→Prop} (q:∀ m p',1≤m→m≤n→Pm n p'→Up key p' m→Q (m,p') s):(kas_count n p).kasWp cmp Q s:=by
 unfold kas_count
 rw [KasT.kasWp_bind]
 refine AmF k hp (n - 1) 1 (Nat.le_refl _) (by omega) (fun i j a b=>by omega) fun m h1 h2 u d=>?_
 by_cases e:m=n
 ·rw [if_pos (beq_iff_eq.mpr e)]
  exact q m p h1 h2 hp u
 ·rw [if_neg (fun z=>e (beq_iff_eq.mp z))]
  by_cases g:m > 1
  ·rw [if_pos g]
   have c:key (p.getD 0 0) < key (p.getD (m - 1) 0):=u 0 (m - 1) (by omega) (by omega)
   refine k.ok _ _ _ (hp.lt (i:=0) (by omega)) (hp.lt (i:=m - 1) (by omega)) ?_
   rw [decide_eq_true c]; dsimp only; rw [if_pos rfl]
   exact q m p h1 h2 hp u
  ·rw [if_neg g]
   have e1:m=1:=by omega
   subst e1
   unfold kas_descPart
   rw [KasT.kasWp_bind]
   refine AmG k hp (n - 2) 2 (by decide) (by omega) (Dn.more (m:=1) (fun i j a b=>by omega) (.inr (d (by omega)))) fun m' a b dn=>?_
   rw [if_neg (by simp)]
   unfold kas_tail3
   rw [KasT.kasWp_bind]
   have hz:=hp.size
   exact AmF k (hp.rev m') (n - m') m' (by omega) (by omega) (dn.rev (by omega)) fun m2 c1 c2 u2 _=>q m2 _ (by omega) c2 (hp.rev m') u2
theorem AiS (k:Ky n key cmp s) {p:Array Nat} (hp:Pm n p) {c:Nat} (hc:c < n) (u:Up key p c) {Q:Nat→Shared→Prop} (q:∀ l,l≤c→(∀ i,i < l→key (at0 p i) < key (at0 p c))→(∀ i,l≤i→i < c→key (at0 p c) < key (at0 p i))→Q l s) :
  ∀ (f l r:Nat),l≤r→r≤c→r - l≤f→(∀ i,i < l→key (at0 p i) < key (at0 p c))→(∀ i,r≤i→i < c→key (at0 p c) < key (at0 p i))→(kas_place p c f l r).kasWp cmp Q s
 | 0,l,r,h1,h2,h3,a,b=>by
  have e:l=r:=by omega
  subst e
  exact q l h2 a b
 | f + 1,l,r,h1,h2,h3,a,b=>by
  unfold kas_place
  by_cases g:l ≥ r
  ·rw [if_pos g]
   have e:l=r:=by omega
   subst e
   exact q l h2 a b
  ·rw [if_neg g]
   refine k.ok _ _ _ (hp.lt (i:=c) hc) (hp.lt (i:=(l + r) / 2) (by omega)) ?_
   by_cases z:key (at0 p c) < key (at0 p ((l + r) / 2))
   ·have z':key (p.getD c 0) < key (p.getD ((l + r) / 2) 0):=z
    rw [decide_eq_true z']; dsimp only; rw [if_pos rfl]
    refine AiS k hp hc u q f l ((l + r) / 2) (by omega) (by omega) (by omega) a fun i i1 i2=>?_
    by_cases e:i=(l + r) / 2
    ·rw [e]; exact z
    ·exact List.lt_trans z (u _ _ (by omega) i2)
   ·have z':¬ key (p.getD c 0) < key (p.getD ((l + r) / 2) 0):=z
    rw [decide_eq_false z']; dsimp only; rw [if_neg (by decide)]
    have y:=AmE k hp (i:=c) (j:=(l + r) / 2) hc (by omega) (by omega) z
    refine AiS k hp hc u q f ((l + r) / 2 + 1) r (by omega) (by omega) (by omega) (fun i i1=>?_) b
    by_cases e:i=(l + r) / 2
    ·rw [e]; exact y
    ·exact List.lt_trans (u _ _ (by omega) (by omega)) y
theorem AoE {p:Array Nat} {c l:Nat} (hc:c < p.size) (hl:l≤c) (i:Nat):at0 (bubble p c (c - l)) i=if i=l then at0 p c else if l < i∧i≤c then at0 p (i - 1) else at0 p i:=by
 rw [Ae5,getElem?_bubble hc (c - l) (by omega)]
 have e:c - (c - l)=l:=by omega
 rw [e,Ae5,Ae5,Ae5]
 split
 ·rfl
 ·split <;> rfl
theorem AoF (k:Ky n key cmp s) {Q:Array Nat→Shared→Prop} (q:∀ p,Pm n p→Up key p n→Q p s):∀ (f:Nat) (p:Array Nat) (c:Nat),Pm n p→c + f=n→Up key p c→(kas_bin f p c).kasWp cmp Q s
 | 0,p,c,hp,e,u=>by
  have e:c=n:=by omega
  subst e
  exact q p hp u
 | f + 1,p,c,hp,e,u=>by
  unfold kas_bin
  rw [KasT.kasWp_bind]
  have hz:=hp.size
  refine AiS k hp (by omega) u (fun l hl a b=>?_) c 0 c (Nat.zero_le _) (Nat.le_refl _) (Nat.le_refl _) (fun i z=>by omega) (fun i z1 z2=>by omega)
  refine AoF k q f _ (c + 1) ⟨(Array.perm_iff_toList_perm.mp (bubble_perm _ _ _)).trans hp.pm⟩ (by omega) fun i j hi hj=>?_
  rw [AoE (by omega) hl,AoE (by omega) hl]
  by_cases e1:i=l
  ·rw [if_pos e1,if_neg (by omega),if_pos (by omega)]
   exact b _ (by omega) (by omega)
  ·rw [if_neg e1]
   by_cases e2:l < i
   ·rw [if_pos ⟨e2,by omega⟩,if_neg (by omega),if_pos (by omega)]
    exact u _ _ (by omega) (by omega)
   ·rw [if_neg (by omega)]
    by_cases e3:j=l
    ·rw [if_pos e3]
     exact a i (by omega)
    ·rw [if_neg e3]
     by_cases e4:l < j
     ·rw [if_pos ⟨e4,by omega⟩]
      by_cases e5:i=j - 1
      ·omega
      ·exact u _ _ (by omega) (by omega)
     ·rw [if_neg (by omega)]
      exact u _ _ hi (by omega)
theorem Apm (k:Ky n key cmp s) (hn:1≤n) {Q:Array Nat→Shared→Prop} (q:∀ p,Pm n p→Up key p n→Q p s):(kas_sort n).kasWp cmp Q s:=by
 unfold kas_sort
 rw [KasT.kasWp_bind]
 refine AnV k ⟨by simp⟩ hn fun m p h1 h2 hp u=>?_
 by_cases e:m < n
 ·rw [if_pos e]
  have em:max m 1=m:=by omega
  rw [em]
  exact AoF k q (n - m) p m hp (by omega) u
 ·rw [if_neg e]
  have e:m=n:=by omega
  subst e
  exact q p hp u
end
end L2
namespace L2
open PySem PySem.Spec PyProof.Rows PySem.W
section
variable {prog:Program} {w:World} {A:Around} {E:Value→Shared→Prop} {s:Shared}
def Akb (prog:Program) (w:World) (A:Around) (key:Nat→List Nat) (vs:List Value) (s:Shared):Prop :=
 wpAny (model prog w) A (keyKind' vs.toArray) (fun κ s2=>s2=s∧Ky vs.length key (kas_ask prog w A κ vs) s) (fun _ _=>False) s
def Aei (p:Array Nat) (vs:List Value):Array Value:=(p.toList.map fun i=>vs.getD i Value.none).toArray
theorem Agq (vs:List Value):Aei (List.range vs.length).toArray vs=vs.toArray:=by
 unfold Aei
 congr 1
 refine List.ext_getElem (by simp) fun i h1 h2=>?_
 simp [List.getD,List.getElem?_eq_getElem h2]
theorem AmH {a:Addr} {vs:List Value} {n:Nat} {key:Nat→List Nat} {P:Fin→Shared→Prop} (ho:s.heap.get? a=some (seqObj "list" vs.toArray n)) (few:vs.length < 64)
  (hk:2≤vs.length→∀ h',(∀ b o,b≠a→s.heap.get? b=some o→h'.get? b=some o)→Akb prog w A key vs { s with heap:=h' })
  (q:∀ p,Pm vs.length p→Up key p vs.length→P (.done (.ret .none)) { s with heap:=sortedHeap s.heap a vs (Aei p vs) }):wpAny (model prog w) A (Builtin.«list.sort» ⟨[.ref a],[]⟩) P E s:=by
 rw [list_sort_plain]
 have lt:a < s.heap.objs.size:=Heap.lt_size ho
 refine wpAny_bind (listItems_at ho rfl (wpAny_bind (listUpdate_at ho rfl ?_)))
 obtain ⟨c,hc⟩:∃ c,(s.heap.update a (Obj.mapSeq fun _=>#[])).get? a=some (seqObj "list" #[] c):=⟨_,get?_update_seq ho (fun _=>#[])⟩
 refine wpAny_bind (seqEpoch_at hc rfl (wpAny_bind (wpAny_newTuple (wpAny_bind (wpAny_newList (wpAny_holding ?_))))))
 have n1:a≠(s.heap.update a (Obj.mapSeq fun _=>#[])).objs.size:=by rw [Heap.size_update]; exact Nat.ne_of_lt lt
 have n2:a≠((s.heap.update a (Obj.mapSeq fun _=>#[])).push (seqObj "tuple" vs.toArray 0)).objs.size:=by rw [size_push',Heap.size_update]; exact Nat.ne_of_lt (Nat.lt_succ_of_lt lt)
 have hd:(((s.heap.update a (Obj.mapSeq fun _=>#[])).push (seqObj "tuple" vs.toArray 0)).push (seqObj "list" #[] 0)).get? a=some (seqObj "list" #[] c):=by rw [Heap.get?_push_ne _ _ _ n2,Heap.get?_push_ne _ _ _ n1]; exact hc
 have old:∀ b o,b≠a→s.heap.get? b=some o→(((s.heap.update a (Obj.mapSeq fun _=>#[])).push (seqObj "tuple" vs.toArray 0)).push (seqObj "list" #[] 0)).get? b=some o:=fun b o hb e =>
  Heap.get?_push_of_some _ (Heap.get?_push_of_some _ (by rw [Heap.get?_update_ne _ _ _ _ hb]; exact e))
 show wpAny (model prog w) A _ P E { s with heap:=((s.heap.update a (Obj.mapSeq fun _=>#[])).push (seqObj "tuple" vs.toArray 0)).push (seqObj "list" #[] 0) }
 have q2:∀ p,Pm vs.length p→Up key p vs.length→P (.done (.ret .none)) { s with heap:=(((s.heap.update a (Obj.mapSeq fun _=>#[])).push (seqObj "tuple" vs.toArray 0)).push (seqObj "list" #[] 0)).update a (Obj.mapSeq fun _=>Aei p vs) }:=q
 have hk2:=fun h2=>hk h2 _ old
 generalize ((s.heap.update a (Obj.mapSeq fun _=>#[])).push (seqObj "tuple" vs.toArray 0)).push (seqObj "list" #[] 0)=G at hd q2 hk2 ⊢
 dsimp only
 have sz:vs.toArray.size=vs.length:=List.size_toArray
 by_cases two:vs.toArray.size < 2
 ·rw [if_pos two,if_pos two]
  refine wpAny_bind (wpAny_pure ?_)
  rw [StateT.run_pure]
  refine wpAny_bind (wpAny_pure ?_)
  dsimp only
  have e0:(arrOf (SortSt.mk' general' (vs.toArray.zip vs.toArray) #[] 7 none)).map (·.2)=Aei (List.range vs.length).toArray vs:=by
   rw [Agq]
   show (vs.toArray.zip vs.toArray).map (·.2)=_
   rw [Array.map_snd_zip] <;> simp
  refine wpAny_bind (seqEpoch_at hd rfl (wpAny_bind (listUpdate_at hd rfl ?_ (hsz2:=by rw [e0,Agq,sz,sizeLine_eq]; omega))))
  simp only [bne_self_eq_false,Bool.false_eq_true,if_false]
  rw [e0]
  exact wpAny_pure (q2 _ ⟨by simp⟩ fun i j h1 h2=>by omega)
 ·rw [if_neg two,if_neg two]
  refine wpAny_bind (wpAny_mono (hk2 (by omega)) (fun κ s2 ⟨e,ky⟩=>?_) fun _ _ f=>f.elim)
  subst e
  refine wpAny_bind (wpAny_mono (kat_run (ks:=vs) (vs:=vs) (Q:=fun st' s3=>s3={ s with heap:=G }∧failedOf st'=none∧∃ p,Pm vs.length p∧Up key p vs.length∧(arrOf st').map (·.2)=Aei p vs) (G:=fun p s3=>s3={ s with heap:=G }∧Pm vs.length p∧Up key p vs.length) rfl (by omega) few
   (fun p st' s3 _ ar nf ⟨e,hp,u⟩=>⟨e,nf,p,hp,u,kat_snds rfl ar⟩) (Apm ky (by omega) fun p hp u=>⟨rfl,hp,u⟩)) (fun r s3 ⟨e,nf,p,hp,u,ar⟩=>?_) fun _ _ f=>f)
  subst e
  obtain ⟨⟨⟩,st'⟩:=r
  dsimp only at nf ar ⊢
  have small:(Aei p vs).size≤sizeLine:=by
   unfold Aei
   rw [List.size_toArray,List.length_map,Array.length_toList,hp.size,sizeLine_eq]
   omega
  refine wpAny_bind (seqEpoch_at hd rfl (wpAny_bind (listUpdate_at hd rfl ?_ (hsz2:=by rw [ar]; exact Nat.le_succ_of_le small))))
  rw [nf,ar]
  simp only [bne_self_eq_false,Bool.false_eq_true,if_false]
  exact wpAny_pure (q2 p hp u)
theorem Alx {l:Addr} {vs:List Value} {key:Nat→List Nat} {Q:Value→Shared→Prop} (hl:s.heap.IsList l vs.toArray) (few:vs.length < 64)
  (hk:2≤vs.length→∀ h',(∀ b o,s.heap.get? b=some o→h'.get? b=some o)→Akb prog w A.in1.in1 key vs { s with heap:=h' })
  (q:∀ p,Pm vs.length p→Up key p vs.length→Q (.ref (s.heap.objs.size + 1)) { s with heap:=sortedAll s.heap vs (Aei p vs) }):wpAny (model prog w) A (call (.builtin "sorted") [.ref l]) Q E s:=by
 refine Calls.call_function_entry kind_sorted plain_sorted entry_sorted (args_sorted1 _) ?_
 unfold Builtin.«sorted»
 refine wpAny_bind (m:=checkCount "sorted" 1 1 _) (wpAny_pure (wpAny_bind (collect_list hl (wpAny_bind (wpAny_newList ?_ (by rw [sizeLine_eq]; omega))) (by rw [sizeLine_eq]; omega))))
 have z1:((s.heap.push (seqObj "list" #[] 0)).update s.heap.objs.size (Obj.mapSeq (·++vs.toArray))).objs.size=s.heap.objs.size + 1:=by rw [Heap.size_update,size_push']
 have atL:(((s.heap.push (seqObj "list" #[] 0)).update s.heap.objs.size (Obj.mapSeq (·++vs.toArray))).push (seqObj "list" vs.toArray 0)).get? (s.heap.objs.size + 1)=some (seqObj "list" vs.toArray 0):=z1▸Heap.get?_push_size _ rfl
 have keep:∀ b o,s.heap.get? b=some o→(((s.heap.push (seqObj "list" #[] 0)).update s.heap.objs.size (Obj.mapSeq (·++vs.toArray))).push (seqObj "list" vs.toArray 0)).get? b=some o:=fun b o e =>
  Heap.get?_push_of_some _ (by rw [Heap.get?_update_ne _ _ _ _ (Nat.ne_of_lt (Heap.lt_size e))]; exact Heap.get?_push_of_some _ e)
 show wpAny _ _ _ _ _ { s with heap:=((s.heap.push (seqObj "list" #[] 0)).update s.heap.objs.size (Obj.mapSeq (·++vs.toArray))).push (seqObj "list" vs.toArray 0) }
 rw [z1]
 refine wpAny_bind (wpAny_holding (wpAny_call_entry slot_list_sort ⟨_,atL,rfl⟩ entry_list_sort (AmH (key:=key) atL few (fun h2 h' old=>hk h2 h' fun b o e=>old b o (Nat.ne_of_lt (Nat.lt_succ_of_lt (Heap.lt_size e))) (keep b o e)) fun p hp u=>⟨_,rfl,?_⟩) (args_list_sort _)))
 exact wpAny_pure ⟨_,rfl,q p hp u⟩
end
end L2
namespace L2
open PySem PySem.Spec PyProof.Rows PySem.W
abbrev Pr:=Addr×Str×Int
def prV (t:Pr):V:=.ref t.1
def Lay (H:Hp) (ts:List Pr):Prop:=∀ t∈ts,H t.1=some (.tup [.str t.2.1,.int t.2.2])
theorem Lay.same {H H':Hp} {ts:List Pr} (h:Lay H ts) (s:Aav H H'):Lay H' ts:=fun t m=>s _ _ (h t m)
section
variable {X:Cx} {pins:List (Addr×Obj)} {σ:St} {H:Hp} {s:Shared}
theorem AnW (I:Inv X pins σ H s) {t:Pr} (h:H t.1=some (.tup [.str t.2.1,.int t.2.2])):∃ o tk tk' n,s.heap.get? t.1=some o∧o.cls=.type "tuple"∧o.data=.seq #[Value.str t.2.1 tk,Value.int t.2.2 tk'] n:=by
 obtain ⟨_,its,r,o,e,c,n,d⟩:=(show AbR X.prog X.w H s.heap t.1 _ from I.hok _ _ h)
 match its,r with
 | [_,_],.cons ⟨tk,e1⟩ (.cons ⟨tk',e2⟩ .nil) =>
  subst e1 e2
  exact ⟨o,tk,tk',n,e,c,d⟩
def Aqs (ts:List Pr) (i:Nat):List Nat:=(ts.getD i (0,Str.empty,0)).2.1.cps.toList
theorem AnX {x y:Str} (h:x.cps.toList=y.cps.toList):x=y:=by
 cases x with | mk a=>cases y with | mk b=>cases a; cases b; simp_all
theorem Aro {ts:List Pr} {vs:List Value} (r:Aba (ts.map prV) vs) {i:Nat} (hi:i < ts.length):vs.getD i Value.none=.ref ts[i].1:=by
 obtain ⟨u,e,q⟩:=r.get (i:=i) (x:=.ref ts[i].1) (by rw [List.getElem?_map,List.getElem?_eq_getElem hi]; rfl)
 rw [List.getD,e]
 exact q
theorem AiT {ts:List Pr} {i:Nat} (hi:i < ts.length):Aqs ts i=ts[i].2.1.cps.toList:=by unfold Aqs; rw [List.getD,List.getElem?_eq_getElem hi]; rfl
theorem AmI {h:Heap}:∀ {ts:List Pr} {vs:List Value},Aba (ts.map prV) vs→(∀ t∈ts,∃ o tk tk' n,h.get? t.1=some o∧o.cls=.type "tuple"∧o.data=.seq #[Value.str t.2.1 tk,Value.int t.2.2 tk'] n) →
  ∃ fs:List Value,KatTups h vs fs∧fs.length=ts.length∧∀ f∈fs,∃ z t,f=Value.str z t
 | [],_,.nil,_=>⟨[],trivial,rfl,fun _ m=>nomatch m⟩
 | t :: ts,v :: vs,.cons r q,k=>by
  obtain ⟨fs,a,b,c⟩:=AmI q fun t' m=>k t' (List.mem_cons_of_mem _ m)
  obtain ⟨o,tk,tk',n,e1,e2,e3⟩:=k t List.mem_cons_self
  have r:v=.ref t.1:=r
  subst r
  refine ⟨Value.str t.2.1 tk :: fs,KatTups.cons e1 e2 e3 rfl a,by rw [List.length_cons,List.length_cons,b],fun f hf=>?_⟩
  rcases List.mem_cons.mp hf with z | z
  ·exact ⟨_,_,z⟩
  ·exact c f z
theorem AmJ {A:Around} {ts:List Pr} {vs:List Value} {h':Heap} (r:Aba (ts.map prV) vs) (lay:∀ t∈ts,∃ o tk tk' n,h'.get? t.1=some o∧o.cls=.type "tuple"∧o.data=.seq #[Value.str t.2.1 tk,Value.int t.2.2 tk'] n)
  (nd:(ts.map (·.2.1)).Nodup) (two:2≤vs.length):Akb X.prog X.w A (Aqs ts) vs { s with heap:=h' }:=by
 have el:=r.length
 rw [List.length_map] at el
 obtain ⟨fs,k1,k2,k3⟩:=AmI r lay
 refine kat_kind (s:={ s with heap:=h' }) (T:=.type "str") k1 (by omega) (fun v m=>?_) (by decide) ⟨rfl,⟨fun i j hi hj ne e=>?_,fun i j C hi hj hc=>?_⟩⟩
 ·obtain ⟨z,t,rfl⟩:=k3 v m
  exact Looks.of_pure rfl
 ·rw [AiT (by omega),AiT (by omega)] at e
  have e':=AnX e
  have hi':i < (ts.map (·.2.1)).length:=by rw [List.length_map]; omega
  have hj':j < (ts.map (·.2.1)).length:=by rw [List.length_map]; omega
  exact ne ((List.getElem_inj (h₀:=hi') (h₁:=hj') nd).mp (by simpa using e'))
 ·have hi2:i < ts.length:=by omega
  have hj2:j < ts.length:=by omega
  show wpAny _ A (keyLt' (tuples' true) (vs.getD i Value.none) (vs.getD j Value.none)) C _ _
  rw [Aro r hi2,Aro r hj2]
  obtain ⟨o1,a1,b1,n1,x1,x2,x3⟩:=lay ts[i] (List.getElem_mem hi2)
  obtain ⟨o2,a2,b2,n2,y1,y2,y3⟩:=lay ts[j] (List.getElem_mem hj2)
  refine kat_lt (s:={ s with heap:=h' }) x1 x3 y1 y3 (kat_cons (eqBool_str ?_))
  rw [AiT hi2,AiT hj2] at hc
  by_cases e:ts[i].2.1=ts[j].2.1
  ·have hi':i < (ts.map (·.2.1)).length:=by rw [List.length_map]; omega
   have hj':j < (ts.map (·.2.1)).length:=by rw [List.length_map]; omega
   have ij:i=j:=(List.getElem_inj (h₀:=hi') (h₁:=hj') nd).mp (by simpa using e)
   subst ij
   rw [beq_self_eq_true]
   refine kat_yes (kat_cons (wpAny_eqBool_int ?_))
   rw [beq_self_eq_true]
   refine kat_yes (kat_nil ?_)
   rw [decide_eq_false (List.lt_irrefl _)] at hc
   simpa using hc
  ·rw [beq_eq_false_iff_ne.mpr e]
   exact kat_no (oneLt_str hc)
theorem AjA:AcA X (.builtin "sorted") (fun xs H Q=>∃ (p:Addr) (ts:List Pr),xs=[.ref p]∧SqL X.K H p (ts.map prV)∧Lay H ts∧(ts.map (·.2.1)).Nodup∧ts.length < 64 ∧
  ∀ (l:Addr) (ts':List Pr),H l=none→ts'.Perm ts→ts'.Pairwise (fun a b=>leS a.2.1 b.2.1)→Q (.ref l) (upd H l (.lst (ts'.map prV)))):=by
 intro pins s σ H xs us Q I r h
 obtain ⟨p,ts,rfl,hq,lay,nd,hl,q⟩:=h
 obtain ⟨u,rfl,rx⟩:=Af3 r
 cases rx
 obtain ⟨its,rv,pl,hz⟩:=I.list hq
 have el:=rv.length
 rw [List.length_map] at el
 have objs:=fun t (m:t∈ts)=>AnW I (lay t m)
 refine Alx (key:=Aqs ts) pl.isList (by omega) (fun two h' keep=>AmJ rv (fun t m=>?_) nd two) fun pm hp up=>?_
 ·obtain ⟨o,a,b,n,e1,e2,e3⟩:=objs t m
  exact ⟨o,a,b,n,keep _ _ e1,e2,e3⟩
 ·obtain ⟨c,ho⟩:=sortedAll_at s.heap its (Aei pm its)
  have fr:H (s.heap.objs.size + 1)=none:=I.hok.fresh (Nat.le_succ _)
  have hp':=hp.pm
  rw [← el] at hp' up
  have inb:∀ i∈pm.toList,i < ts.length:=fun i m=>List.mem_range.mp (hp'.mem_iff.mp m)
  have vv:∀ l:List Nat,(∀ i∈l,i < ts.length)→Aba ((l.map fun i=>ts.getD i (0,Str.empty,0)).map prV) (l.map fun i=>its.getD i Value.none):=fun l hl=>by
   induction l with
   | nil=>exact .nil
   | cons i l ih =>
    have hi:=hl i List.mem_cons_self
    refine .cons ?_ (ih fun j m=>hl j (List.mem_cons_of_mem _ m))
    dsimp only
    rw [Aro rv hi,List.getD,List.getElem?_eq_getElem hi]
    rfl
  have perm:(pm.toList.map fun i=>ts.getD i (0,Str.empty,0)).Perm ts:=by
   have:=hp'.map fun i=>ts.getD i (0,Str.empty,0)
   refine this.trans (List.Perm.of_eq ?_)
   refine List.ext_getElem (by simp) fun i h1 h2=>?_
   simp [List.getD,List.getElem?_eq_getElem h2]
  have sz:pm.size=ts.length:=by have:=hp'.length_eq; simpa using this
  refine ⟨.ref (s.heap.objs.size + 1),_,I.laid (t':=s.toks) (fun b o q=>sortedAll_old q) (Nat.le_succ _) (show AbR X.prog X.w _ _ _ (.lst ((pm.toList.map fun i=>ts.getD i (0,Str.empty,0)).map prV)) from ⟨?_,(pm.toList.map fun i=>its.getD i Value.none),c,vv _ inb,ho⟩),rfl,q _ _ fr perm ?_⟩
  ·rw [List.length_map,List.length_map,Array.length_toList,sz,sizeLine_eq]; omega
  ·rw [List.pairwise_map,List.pairwise_iff_getElem]
   intro i j h1 h2 hij
   have k1:i < pm.size:=by simpa using h1
   have k2:j < pm.size:=by simpa using h2
   have:=up i j hij (by omega)
   rw [Ae5,Ae5,Array.getElem?_eq_getElem k1,Array.getElem?_eq_getElem k2] at this
   simp only [Option.getD_some,Aqs] at this
   have t':(ts.getD pm.toList[i] (0,Str.empty,0)).2.1.cps.toList < (ts.getD pm.toList[j] (0,Str.empty,0)).2.1.cps.toList:=by simpa using this
   exact List.le_of_lt t'
end
end L2
namespace L2
open PySem PySem.Spec PyProof.Rows
def byT (w:World):Bool:=w.params.followText "set-order"
def Ent (w:World) (e:Int×Value):Prop:=∃ z tk,e=(hashStr w z,Value.str z tk)
def AmK (e:Int×Value):Str:=match e.2 with
 | .str z _=>z
 | _=>Str.empty
def Ak1 (w:World) (h:Heap) (a:Addr) (zs:List Str):Prop:=∃ o es ep t,h.get? a=some o∧o.ExactSet∧o.data=.set es ep t∧zs=es.toList.map AmK∧(∀ e∈es.toList,Ent w e)∧zs.Nodup∧zs.length < 3000∧t.fits es.size=true∧t.led=!byT w∧(zs≠[]→t.plain=false)
theorem Ak1.at {w:World} {h h':Heap} {a:Addr} {zs:List Str} (x:Ak1 w h a zs) (k:∀ o,h.get? a=some o→h'.get? a=some o):Ak1 w h' a zs:=by
 obtain ⟨o,es,ep,t,e,r⟩:=x
 exact ⟨o,es,ep,t,k _ e,r⟩
theorem AmL {prog:Program} {w:World} {l:List (Int×Value)} (h:∀ e∈l,Ent w e):ElemsOf (AaH prog w) l:=fun e m=>by
 obtain ⟨z,tk,rfl⟩:=h e m
 exact ⟨⟨Sum.inr z,Ac1 prog w z tk,rfl⟩,rfl⟩
theorem AoG {w:World} {e:Int×Value} {z:Str} (h:Ent w e):Ah6 (Sum.inr z) e.2=true↔AmK e=z:=by
 obtain ⟨y,tk,rfl⟩:=h
 show Value.isStrOf z (.str y tk)=true↔y=z
 constructor
 ·intro q
  obtain ⟨t,e⟩:=Value.isStrOf_shape q
  injection e
 ·rintro rfl; exact Ai8 y tk
theorem Aqt (t:SetTable) (n:Nat):(t.orStandIn n).led=t.led:=by unfold SetTable.orStandIn SetTable.standIn; split <;> rfl
theorem AnY {t:SetTable} {n:Nat} (h:t.plain=false):(t.orStandIn n).plain=false:=by unfold SetTable.orStandIn SetTable.standIn; split <;> first | exact h | rfl
theorem Apn (t:SetTable) (es:Array (Int×Value)) (h:Int) (x:Value):(layNew t es h x).2.1.led=t.led:=by
 unfold layNew
 split
 ·exact Aqt _ _
 ·rfl
theorem AmM {t:SetTable} {es:Array (Int×Value)} {h:Int} {x:Value} (hp:t.plain=false):(layNew t es h x).2.1.plain=false:=by
 unfold layNew
 split
 ·exact AnY hp
 ·rfl
theorem Aik {t t':SetTable} {hs:Array Int} {n:Nat} {o:Array Nat} (e:t.relaid hs n=some (t',o)):t'.led=t.led∧t'.plain=t.plain:=by
 unfold SetTable.relaid SetTable.laid at e
 cases q:SetTable.layClean (SetTable.sizeAbove n - 1) hs with
 | none=>rw [q] at e; cases e
 | some x=>rw [q] at e; cases e; exact ⟨rfl,rfl⟩
theorem Apo (t:SetTable) (es:Array (Int×Value)) (n:Nat):(relayAll t es n).2.1.led=t.led:=by
 unfold relayAll
 split
 ·rename_i t' o e
  dsimp only
  split
  ·exact (Aik e).1
  ·rfl
 ·rfl
theorem AmN {t:SetTable} {es:Array (Int×Value)} {n:Nat} (hp:t.plain=false):(relayAll t es n).2.1.plain=false:=by
 unfold relayAll
 split
 ·rename_i t' o e
  dsimp only
  split
  ·exact (Aik e).2.trans hp
  ·rfl
 ·rfl
section
variable {prog:Program} {w:World} {A:Around} {E:Value→Shared→Prop} {s:Shared}
theorem AmO {a:Addr} {o:Obj} {es es':Array (Int×Value)} {ep:Nat} {t t':SetTable} {h:Heap} (ho:h.get? a=some o) (hd:o.data=.set es ep t):(h.update a (Obj.putSet es' t')).get? a=some { o with data:=.set es' (ep + 1) t' }:=by
 have e:=Heap.get?_update_self (Obj.putSet es' t') ho (by rw [putSet_of es' t' hd]; rfl)
 rwa [putSet_of es' t' hd] at e
theorem add_str {a:Addr} {zs:List Str} {z:Str} {tk:Tok} {Q:Bool→Shared→Prop} (hS:Ak1 w s.heap a zs) (room:zs.length + 1 < 3000)
  (q:∀ h' zs' b,Heap.SameBut a s.heap h'→Ak1 w h' a zs'→(if z∈zs then zs'=zs else zs'.Perm (zs++[z]))→Q b { s with heap:=h' }):wpAny (model prog w) A (setAddHashed a (.str z tk) (hashStr w z)) Q E s:=by
 obtain ⟨o,es,ep,t,ho,hex,hd,rfl,hent,nd,few,hf,led,pl⟩:=id hS
 rw [List.length_map,Array.length_toList] at few room
 have sb:scanBound=4096:=rfl
 have hel:=AmL (prog:=prog) hent
 unfold setAddHashed setAddHashedIn
 refine wpAny_holding (wpAny_bind (wpAny_setState_of ho hd hf ?_))
 dsimp only
 rw [byScan_of (knd:=AaH prog w) (x:=Value.str z tk) rfl (by omega) hel]
 simp only [↓reduceIte]
 unfold setAddByScan
 refine wpAny_bind (wpAny_bind (wpAny_rule (wpAny_bind (wpAny_setScan_of (knd:=AaH prog w) (k:=Sum.inr z) (Ac1 prog w z tk) ho hd hf hel ?_))))
 cases fnd:List.findIdx? (fun e=>(AaH prog w).is (Sum.inr z) e.2) es.toList with
 | some j =>
  obtain ⟨hj,hp,_⟩:=List.findIdx?_eq_some_iff_getElem.mp fnd
  have mem:z∈es.toList.map AmK:=List.mem_map.mpr ⟨_,List.getElem_mem hj,(AoG (hent _ (List.getElem_mem hj))).mp hp⟩
  dsimp only
  exact wpAny_pure (wpAny_pure (q s.heap _ _ (Heap.SameBut.refl a s.heap) hS (by rw [if_pos mem])))
 | none =>
  have nmem:z ∉ es.toList.map AmK:=fun m=>by
   obtain ⟨e,me,rfl⟩:=List.mem_map.mp m
   have:=List.findIdx?_eq_none_iff.mp fnd e me
   rw [show (AaH prog w).is (Sum.inr (AmK e)) e.2=true from (AoG (hent e me)).mpr rfl] at this
   cases this
  have pm:=layNew_perm t es (hashStr w z) (.str z tk)
  have hf1:=layNew_fits t es (hashStr w z) (.str z tk)
  have l1:=Apn t es (hashStr w z) (.str z tk)
  have p1:t.plain=false→(layNew t es (hashStr w z) (.str z tk)).2.1.plain=false:=AmM
  dsimp only
  have ek:Arx w (Sum.inr z)=hashStr w z:=rfl
  have ek2:(AaH prog w).hash (Sum.inr z)=hashStr w z:=rfl
  try rw [ek2]
  generalize layNew t es (hashStr w z) (.str z tk)=L at pm hf1 l1 p1 ⊢
  obtain ⟨es1,t1,wd,gave⟩:=L
  dsimp only at pm hf1 l1 p1 ⊢
  rw [Array.toList_push] at pm
  have ent1:∀ e∈es1.toList,Ent w e:=fun e m=>by
   rcases List.mem_append.mp (pm.mem_iff.mp m) with y | y
   ·exact hent e y
   ·rw [List.mem_singleton.mp y]; exact ⟨z,tk,rfl⟩
  have pz:(es1.toList.map AmK).Perm (es.toList.map AmK++[z]):=by
   have:=pm.map AmK
   rwa [List.map_append] at this
  have sz1:es1.size=es.size + 1:=by rw [← Array.length_toList,pm.length_eq,List.length_append,Array.length_toList]; rfl
  have nd1:(es1.toList.map AmK).Nodup:=pz.nodup_iff.mpr (List.nodup_append.mpr ⟨nd,List.nodup_cons.mpr ⟨by simp,List.nodup_nil⟩,fun x hx y hy e=>by rw [List.mem_singleton.mp hy] at e; exact nmem (e▸hx)⟩)
  have fin:∀ (h':Heap) (o':Obj) (es2:Array (Int×Value)) (ep2:Nat) (t2:SetTable),Heap.SameBut a s.heap h'→h'.get? a=some o'→o'.ExactSet→o'.data=.set es2 ep2 t2→es2.toList.Perm es1.toList→t2.fits es2.size=true→t2.led=t.led→t2.plain=false→∀ b,Q b { s with heap:=h' }:=fun h' o' es2 ep2 t2 sm e1 e2 e3 pm2 f2 l2 p2 b=>by
   have pz2:=pm2.map AmK
   refine q h' (es2.toList.map AmK) b sm ⟨o',es2,ep2,t2,e1,e2,e3,rfl,fun e m=>ent1 e (pm2.mem_iff.mp m),pz2.nodup_iff.mpr nd1,?_,f2,l2.trans led,fun _=>p2⟩ (by rw [if_neg nmem]; exact pz2.trans pz)
   rw [List.length_map,pm2.length_eq,Array.length_toList,sz1]
   omega
  have quiet:∀ (b:Bool) {s₁:Shared} {Q':Unit→Shared→Prop},Q' () s₁→wpAny (model prog w) A (match b with | true=>rule "set.scan.the-table-gave-way" | false=>pure ()) Q' E s₁:=fun b s₁ Q' h=>by
   cases b
   ·exact wpAny_pure h
   ·exact wpAny_rule h
  refine wpAny_bind (quiet gave ?_)
  have key:∀ t2:SetTable,t2.fits es1.size=true→t2.led=t.led→t2.plain=false→∀ (K:Option Bool→Sem Bool),(∀ h' b,(∀ b,Q b { s with heap:=h' })→wpAny (model prog w) A (K (some b)) Q E { s with heap:=h' }) →
    wpAny (model prog w) A (do
     storeSet a es1 t2
     if (!wd && t2.tooFull)=true then do
       (match (relayAll t2 es1 (SetTable.grown es1.size)).2.2 with | true=>rule "set.scan.the-table-gave-way" | false=>pure ())
       storeSet a (relayAll t2 es1 (SetTable.grown es1.size)).1 (relayAll t2 es1 (SetTable.grown es1.size)).2.1
       pure (some true)
      else pure (some true)) (fun r s'=>wpAny (model prog w) A (K r) Q E s') E s:=by
   intro t2 f2 l2 p2 K hK
   refine wpAny_bind (wpAny_storeSet_of ho hd ?_ (by rw [sizeLine_eq]; omega))
   have g1:=AmO (es':=es1) (t':=t2) ho hd
   have s1:=Heap.SameBut.update s.heap a (Obj.putSet es1 t2)
   split
   ·have pm2:=relayAll_perm t2 es1 (SetTable.grown es1.size)
    have f3:=relayAll_fits t2 es1 (SetTable.grown es1.size)
    have l3:=Apo t2 es1 (SetTable.grown es1.size)
    have p3:=AmN (es:=es1) (n:=SetTable.grown es1.size) p2
    generalize relayAll t2 es1 (SetTable.grown es1.size)=R at pm2 f3 l3 p3 ⊢
    obtain ⟨es2,t3,g2⟩:=R
    dsimp only at pm2 f3 l3 p3 ⊢
    have sz2:es2.size=es1.size:=by rw [← Array.length_toList,pm2.length_eq,Array.length_toList]
    refine wpAny_bind (quiet g2 (wpAny_bind (wpAny_storeSet_of (s:={ s with heap:=s.heap.update a (Obj.putSet es1 t2) }) g1 rfl ?_ (by rw [sizeLine_eq]; omega))))
    have g3:=AmO (es':=es2) (t':=t3) g1 rfl
    exact wpAny_pure (hK _ true (fin _ _ es2 _ t3 (s1.trans (Heap.SameBut.update _ a _)) g3 hex rfl pm2 f3 (l3.trans l2) p3))
   ·exact wpAny_pure (hK _ true (fin _ _ es1 _ t2 s1 g1 hex rfl (List.Perm.refl _) f2 l2 p2))
  by_cases hp:t1.plain=true
  ·rw [if_pos hp]
   refine wpAny_bind ?_
   rw [hashByValue_scannable 8 (x:=Value.str z tk) rfl]
   refine wpAny_pure ?_
   exact key { t1 with plain:=false } (SetTable.fits_plain_off hf1) l1 rfl (fun r=>match r with | some added=>pure added | none=>setAddHashedIn a (.str z tk) (hashStr w z) 99999) fun h' b hq=>wpAny_pure (hq b)
  ·have hp:t1.plain=false:=by simpa using hp
   rw [if_neg (by rw [hp]; decide)]
   refine wpAny_bind (wpAny_pure ?_)
   exact key t1 hf1 l1 hp (fun r=>match r with | some added=>pure added | none=>setAddHashedIn a (.str z tk) (hashStr w z) 99999) fun h' b hq=>wpAny_pure (hq b)
end
end L2
set_option maxHeartbeats 4000000
namespace L2
open PySem PySem.Spec PyProof.Rows
section
variable {prog:Program} {w:World} {A:Around} {I:Addr} {fp wr:List Addr} {G:Array GenState→Array GenState→Prop} {n:Nat} {P:Nat→Value→Prop} {St:Nat→Shared→Prop}
theorem AmP {R:Result→Shared→Prop} (W:WalksS prog w A.in1 I fp wr G n P St) (S:Addr) (hS:S ∉ fp) (val:Nat→Str) (hv:∀ i v,P i v→∃ t,v=Value.str (val i) t) (few:n + 1 < 3000) :
  ∀ (k i:Nat) (s:Shared) (zs:List Str),n - i=k→i≤n→St i s→Ak1 w s.heap S zs→(∀ z,z∈zs↔∃ j,j < i∧val j=z)→zs.length≤i →
   (∀ s' zs',Moved (S :: wr) G s s'→Ak1 w s'.heap S zs'→(∀ z,z∈zs'↔∃ j,j < n∧val j=z)→R (.ok (.ret .none)) s')→codeAny (model prog w) A (.builtin "set.update.loop" ⟨[.ref S,.ref I],[]⟩) R s:=by
 have nw:S ∉ wr:=fun h=>hS (W.sub _ h)
 have sub:∀ b∈wr,b∈S :: wr:=fun b h=>List.mem_cons_of_mem _ h
 intro k
 induction k with
 | zero =>
  intro i s zs hk hi st x mem _ q
  have e:i=n:=by omega
  subst e
  refine codeAny_builtin F.entry_set_update_loop ?_
  rw [Around.under_plainId F.plain_set_update_loop _]
  show wpAny _ A.in1 (pyNext (.ref I) >>= _) _ _ s
  refine wpAny_bind (W.done s _ _ st fun s' m=>?_)
  exact wpAny_pure (q s' zs (m.mono sub) (x.at fun o e=>m.heap S o nw e) mem)
 | succ k ih =>
  intro i s zs hk hi st x mem len q
  refine codeAny_builtin F.entry_set_update_loop ?_
  rw [Around.under_plainId F.plain_set_update_loop _]
  show wpAny _ A.in1 (pyNext (.ref I) >>= _) _ _ s
  refine wpAny_bind (W.item i s _ _ (by omega) st fun v s' hP st' m=>?_)
  obtain ⟨t,rfl⟩:=hv i v hP
  have x':=x.at fun o e=>m.heap S o nw e
  show wpAny _ A.in1 (holding [Value.str (val i) t] (setAdd S (.str (val i) t)) >>= _) _ _ s'
  refine wpAny_bind (wpAny_holding ?_)
  unfold setAdd
  refine wpAny_holding (wpAny_bind ((AaH prog w).pyHash (k:=Sum.inr (val i)) (Ac1 _ _ _ _) ?_))
  refine add_str (s:={ s' with toks:=s'.toks + 1 }) x' (by omega) fun h' zs' b sb x2 hz=>?_
  have mem2:∀ z,z∈zs'↔∃ j,j < i + 1∧val j=z:=fun z=>by
   have e:z∈zs'↔z∈zs∨z=val i:=by
    by_cases y:val i∈zs
    ·rw [if_pos y] at hz
     rw [hz]
     exact ⟨.inl,fun h=>h.elim id fun e=>e▸y⟩
    ·rw [if_neg y] at hz
     rw [hz.mem_iff,List.mem_append,List.mem_singleton]
   rw [e,mem]
   constructor
   ·rintro (⟨j,h1,h2⟩ | h)
    ·exact ⟨j,by omega,h2⟩
    ·exact ⟨i,by omega,h.symm⟩
   ·rintro ⟨j,h1,h2⟩
    by_cases h:j < i
    ·exact .inl ⟨j,h,h2⟩
    ·have:j=i:=by omega
     subst this
     exact .inr h2.symm
  have len2:zs'.length≤i + 1:=by
   by_cases y:val i∈zs
   ·rw [if_pos y] at hz
    rw [hz]; omega
   ·rw [if_neg y] at hz
    rw [hz.length_eq,List.length_append,List.length_singleton]; omega
  refine wpAny_pure ⟨plainId_quiet F.plain_set_update_loop _,ih (i + 1) _ zs' (by omega) (by omega) (W.frame _ s' _ _ st' (Nat.le_succ _) fun b hb o e=>?_) x2 mem2 len2 fun s'' zs'' m2 x3 mem3=>?_⟩
  ·exact (sb.2 b fun h=>hS (h▸hb)).trans e
  ·refine q s'' zs'' (Moved.trans W.gtrans ((m.mono sub).then_heap (Nat.le_succ _) fun b o hb e=>?_) m2) x3 mem3
   exact (sb.2 b fun h=>hb (h▸List.mem_cons_self)).trans e
end
section
variable {prog:Program} {w:World} {A:Around} {E:Value→Shared→Prop} {s:Shared}
theorem AnZ (a:Value) {Q₁:Value→Shared→Prop} (h:Q₁ (.ref s.heap.objs.size) { s with heap:=s.heap.push { cls:=.type "set",dict:=none,data:=.set #[] 0 (.fresh 0 0 (!byT w)) } }) :
  codeAny (model prog w) A (.call (.builtin "set.__new__") ⟨[.type "set",a],[]⟩) (wants Q₁ E) s:=by
 refine codeAny_of_tree ?_
 show wpAny _ A.in1 (do checkBuiltinCall "set.__new__" ⟨[.type "set",a],[]⟩; again (.builtin "set.__new__" ⟨[.type "set",a],[]⟩)) _ _ s
 refine wpAny_bind (wpAny_of_eq (F.newCall_set_1 a) (wpAny_pure ⟨plainId_quiet F.plain_set_new _,codeAny_builtin F.entry_set_new ?_⟩))
 rw [Around.under_plainId F.plain_set_new _]
 unfold Builtin.«set.__new__» Builtin.Frozenset.newClass
 have sub:=sub_set_self
 obtain ⟨hp,g,d,tk,os⟩:=s
 dsimp only
 wp_walk
 refine wpAny_askSetting (wpAny_pure ?_)
 dsimp only
 simp only [newObj]
 exact wpAny_bind (wpAny_alloc (wpAny_pure (wpAny_pure h)))
theorem Ail {h:Heap} {a:Addr} (e:h.get? a=some { cls:=.type "set",dict:=none,data:=.set #[] 0 (.fresh 0 0 (!byT w)) }):Ak1 w h a [] :=
 ⟨_,#[],0,_,e,⟨rfl,rfl,rfl⟩,rfl,rfl,fun e m=>by simp at m,List.nodup_nil,by decide,rfl,rfl,fun z=>(z rfl).elim⟩
theorem Akc {l:Addr} {items:Array Value} {zs:List Str} {Q:Value→Shared→Prop} (hh:A.handled=none) (hl:s.heap.IsList l items) (hi:StrsAre items.toList zs) (few:items.size + 1 < 3000)
  (q:∀ (h':Heap) (tk:Nat) (zs':List Str),Ak1 w h' s.heap.objs.size zs'→(∀ z,z∈zs'↔z∈zs)→(∀ b o,b < s.heap.objs.size→s.heap.get? b=some o→h'.get? b=some o)→Q (.ref s.heap.objs.size) { s with heap:=h',toks:=tk }) :
  wpAny (model prog w) A (call (.type "set") [.ref l]) Q E s:=by
 obtain ⟨c,tl,hmro⟩:=F.called_set.mro
 have made:=F.called_set.made
 have sub:=F.called_set.sub
 refine wpAny_call (codeAny_of_tree ?_)
 show wpAny _ _ (callAny (.type "set") _) _ _ _
 refine wpAny_pure ⟨Code.quiet_builtin _ (by decide +kernel),codeAny_builtin F.entry_type_call ?_⟩
 rw [Around.under_plain (weight_type_call_type "set" [.ref l] []) rfl]
 have c1:=F.called_set.notType
 have c2:=F.called_set.canCreate
 have c3:=F.typeCall_set_1 (.ref l)
 repeat (any_goals (first | assumption | wp_step))
 refine codeAny_mono (AnZ (.ref l) (E:=E) (Q₁:=fun obj s₁=>obj=.ref s.heap.objs.size∧s₁={ s with heap:=s.heap.push { cls:=.type "set",dict:=none,data:=.set #[] 0 (.fresh 0 0 (!byT w)) } }) ⟨rfl,rfl⟩) fun r s₁ hr=>?_
 cases r with
 | error e=>exact hr
 | ok fl =>
  cases fl with
  | ret obj =>
   obtain ⟨rfl,rfl⟩:=hr
   have atS:(s.heap.push { cls:=.type "set",dict:=none,data:=.set #[] 0 (.fresh 0 0 (!byT w)) }).get? s.heap.objs.size=some { cls:=.type "set",dict:=none,data:=.set #[] 0 (.fresh 0 0 (!byT w)) }:=Heap.get?_push_size _ rfl
   have ty:Shared.TypeIs { s with heap:=s.heap.push { cls:=.type "set",dict:=none,data:=.set #[] 0 (.fresh 0 0 (!byT w)) } } (.ref s.heap.objs.size) "set":=⟨_,atS,rfl⟩
   have i1:=F.called_set.init.lookup
   have i2:=F.called_set.init.bind (.ref s.heap.objs.size)
   repeat (any_goals (first | assumption | wp_step))
   refine codeAny_mono (codeAny_call_builtin (R:=wants (fun r s₂=>r=.none∧∃ h' tk zs',s₂={ s with heap:=h',toks:=tk }∧Ak1 w h' s.heap.objs.size zs'∧(∀ z,z∈zs'↔z∈zs) ∧
     (∀ b o,b < s.heap.objs.size→s.heap.get? b=some o→h'.get? b=some o)) E) F.called_set.init.plain F.entry_set_init (check_set_init_1 ty ?_)) fun r₂ s₂ hr₂=>?_
   ·obtain ⟨⟨ocls,odict,odata,oslots⟩,e1,e2,nl,e3⟩:=hl
    simp only at e2 e3
    subst e2 e3
    have e1':(s.heap.push { cls:=.type "set",dict:=none,data:=.set #[] 0 (.fresh 0 0 (!byT w)) }).get? l=some { cls:=.type "list",dict:=odict,data:=.seq items nl,slots:=oslots }:=Heap.get?_push_of_some _ e1
    have s1:=F.sub_list_set
    have s2:=F.sub_list_frozenset
    have s3:(Value.type "list" == Value.type "dict")=false:=by decide
    have l1:(s.heap.push { cls:=.type "set",dict:=none,data:=.set #[] 0 (.fresh 0 0 (!byT w)) }).IsList l items:=⟨_,e1',rfl,nl,rfl⟩
    unfold Builtin.«set.__init__» noKeywords Builtin.Frozenset.updateFrom
    generalize hPI:pyIter=PI
    wp_walk
    subst hPI
    refine wpAny_pyIter_list l1 (wpAny_bind (wpAny_runValue ?_))
    have lt:l < s.heap.objs.size:=Heap.lt_size e1
    have ns:l≠(s.heap.push { cls:=.type "set",dict:=none,data:=.set #[] 0 (.fresh 0 0 (!byT w)) }).objs.size:=by rw [Heap.size_push]; exact Nat.ne_of_lt (Nat.lt_succ_of_lt lt)
    have nf:s.heap.objs.size ∉ [(s.heap.push { cls:=.type "set",dict:=none,data:=.set #[] 0 (.fresh 0 0 (!byT w)) }).objs.size,l]:=by
     rw [Heap.size_push]
     simp only [List.mem_cons,List.not_mem_nil,or_false,not_or]
     exact ⟨Nat.ne_of_lt (Nat.lt_succ_self _),Nat.ne_of_gt lt⟩
    have ze:zs.length=items.size:=by have:=(Agp hi).length; rw [List.length_map] at this; simpa using this
    have val:∀ (i:Nat) (v:Value),items[i]?=some v→∃ t,v=Value.str (zs.getD i Str.empty) t:=fun i v hv=>by
     have hv':items.toList[i]?=some v:=by rw [Array.getElem?_toList]; exact hv
     have il:i < zs.length:=by rw [ze]; exact (Array.getElem?_eq_some_iff.mp hv).1
     obtain ⟨u,g1,g2⟩:=(Agp hi).get (i:=i) (x:=.str zs[i]) (by rw [List.getElem?_map,List.getElem?_eq_getElem il]; rfl)
     rw [hv'] at g1
     cases g1
     obtain ⟨t,rfl⟩:=g2
     exact ⟨t,by rw [List.getD,List.getElem?_eq_getElem il]; rfl⟩
    have nh:A.in1.in1.in1.handled=none:=by simp [hh]
    refine AmP ((Walks.list nh _ l ns items).toS) s.heap.objs.size nf (fun i=>zs.getD i Str.empty) val few (items.size - 0) 0 _ [] (by omega) (Nat.zero_le _) ⟨⟨_,Heap.get?_push_size _ rfl,rfl,rfl⟩,l1.push _⟩ (Ail (Heap.get?_push_of_some _ atS)) (fun z=>⟨fun h=>absurd h List.not_mem_nil,fun ⟨j,h,_⟩=>absurd h (Nat.not_lt_zero _)⟩) (Nat.le_refl _) ?_
    intro s' zs' m x mem
    obtain ⟨h',g',d',tk',os'⟩:=s'
    have eg:g'=s.gens:=m.gens
    have ed:d'=s.drawn:=m.drawn
    have eo:os'=s.os:=m.os
    subst eg ed eo
    show wpAny _ _ _ _ _ _
    refine wpAny_pure ?_
    show wpAny _ _ (ret Value.none) _ _ _
    refine wpAny_pure ⟨rfl,h',tk',zs',rfl,x,fun z=>?_,fun b o hb e=>?_⟩
    ·rw [mem]
     constructor
     ·rintro ⟨j,h1,rfl⟩
      have jl:j < zs.length:=by omega
      rw [List.getD,List.getElem?_eq_getElem jl]
      exact List.getElem_mem jl
     ·intro h
      obtain ⟨j,jl,rfl⟩:=List.getElem_of_mem h
      exact ⟨j,by omega,by rw [List.getD,List.getElem?_eq_getElem jl]; rfl⟩
    ·have b2:b≠(s.heap.push { cls:=.type "set",dict:=none,data:=.set #[] 0 (.fresh 0 0 (!byT w)) }).objs.size:=by rw [Heap.size_push]; exact Nat.ne_of_lt (Nat.lt_succ_of_lt hb)
     exact m.heap b o (by simp only [List.mem_cons,List.not_mem_nil,or_false,not_or]; exact ⟨Nat.ne_of_lt hb,b2⟩) (Heap.get?_push_of_some _ (Heap.get?_push_of_some _ e))
   ·cases r₂ with
    | error e=>exact hr₂
    | ok fl₂ =>
     cases fl₂ with
     | ret r =>
      obtain ⟨rfl,h',tk,zs',rfl,x,mem,hk⟩:=hr₂
      repeat (any_goals (first | assumption | wp_step))
      exact q _ _ _ x mem hk
     | _=>exact hr₂.elim
  | _=>exact hr.elim
end
end L2
namespace L2
open PySem PySem.Spec PyProof.Rows
def Ahi (w:World) (a:Addr) (zs:List Str):HO:=.ext fun h=>∃ zs',Ak1 w h a zs'∧∀ z,z∈zs'↔z∈zs
theorem Akd {P:Program} {w:World} {H:Hp} {h:Heap} {a:Addr} {zs zs':List Str} (x:Ak1 w h a zs') (m:∀ z,z∈zs'↔z∈zs):AbR P w H h a (Ahi w a zs):=by
 refine ⟨⟨zs',x,m⟩,?_,fun h1 h2 ⟨y,x1,m1⟩ k=>⟨y,x1.at k,m1⟩⟩
 obtain ⟨o,_,_,_,e,_⟩:=x
 exact ⟨o,e⟩
theorem Ake:∀ {a b:List Str},a.Nodup→(∀ z∈a,z∈b)→a.length≤b.length
 | [],b,_,_=>Nat.zero_le _
 | x :: a,b,nd,h=>by
  have nd':=List.nodup_cons.mp nd
  have hx:=h x List.mem_cons_self
  have ih:=Ake (b:=b.erase x) nd'.2 fun z hz=>(List.mem_erase_of_ne (fun e:z=x=>nd'.1 (e▸hz))).mpr (h z (List.mem_cons_of_mem _ hz))
  rw [List.length_erase_of_mem hx] at ih
  have:0 < b.length:=List.length_pos_of_mem hx
  rw [List.length_cons]
  omega
theorem App {a b:List Str} (nd:a.Nodup) (m:∀ z,z∈a↔z∈b):a.length=b.length↔b.Nodup:=by
 constructor
 ·intro e
  refine Classical.byContradiction fun h=>?_
  have key:∀ b:List Str,¬ b.Nodup→∃ c:List Str,c.length < b.length∧∀ z,z∈c↔z∈b:=fun b=>by
   induction b with
   | nil=>exact fun h=>(h List.nodup_nil).elim
   | cons x b ih =>
    intro h
    by_cases hx:x∈b
    ·exact ⟨b,by simp,fun z=>⟨List.mem_cons_of_mem _,fun hz=>(List.mem_cons.mp hz).elim (fun e=>e▸hx) id⟩⟩
    ·obtain ⟨c,h1,h2⟩:=ih fun q=>h (List.nodup_cons.mpr ⟨hx,q⟩)
     refine ⟨x :: c,by simpa using h1,fun z=>?_⟩
     rw [List.mem_cons,List.mem_cons,h2]
  obtain ⟨c,h1,h2⟩:=key b h
  have:=Ake nd fun z hz=>(h2 z).mpr ((m z).mp hz)
  omega
 ·intro hb
  exact ((List.perm_ext_iff_of_nodup nd hb).mpr m).length_eq
section
variable {X:Cx}
theorem AmQ {w:World} (hw:X.w=w) (hc:X.calm=true):AcA X (.type "set") (fun xs H Q=>∃ (p:Addr) (zs:List Str),xs=[.ref p]∧SqL X.K H p (zs.map V.str)∧zs.length < 2000∧∀ l,H l=none→Q (.ref l) (upd H l (Ahi w l zs))):=by
 subst hw
 intro pins s σ H xs us Q I r h
 obtain ⟨p,zs,rfl,hq,few,q⟩:=h
 obtain ⟨u,rfl,rx⟩:=Af3 r
 cases rx
 obtain ⟨its,rv,pl,hz⟩:=I.list hq
 have e:=rv.length
 rw [List.length_map] at e
 refine Akc (items:=its.toArray) (zs:=zs) (I.ok.hd hc) pl.isList (by simpa using AhF rv) (by rw [List.size_toArray]; omega) fun h' tk zs' x m k=>?_
 exact ⟨.ref s.heap.objs.size,_,I.laid (t':=tk) (fun b o e=>k b o (Heap.lt_size e) e) (Nat.le_refl _) (Akd x m),rfl,q _ I.fresh⟩
theorem AhG {w:World} (hw:X.w=w):AcA X (.builtin "len") (fun xs H Q=>∃ (p:Addr) (zs:List Str),xs=[.ref p]∧H p=some (Ahi w p zs)∧∀ n:Nat,(n=zs.length↔zs.Nodup)→Q (.int n) H):=by
 subst hw
 intro pins s σ H xs us Q I r h
 obtain ⟨p,zs,rfl,hp,q⟩:=h
 obtain ⟨u,rfl,rx⟩:=Af3 r
 cases rx
 obtain ⟨⟨zs',⟨o,es,ep,t,e1,e2,e3,e4,e5,nd,few,hf,_⟩,m⟩,_⟩:=(show AbR X.prog X.w H s.heap p (Ahi X.w p zs) from I.hok p _ hp)
 have sz:zs'.length=es.size:=by rw [e4,List.length_map,Array.length_toList]
 refine call_len_set e1 e2 e3 hf (by omega) ⟨.int es.size,H,I.tok _,⟨_,rfl⟩,q _ ?_⟩
 rw [← sz]
 exact App nd m
end
end L2
set_option maxHeartbeats 4000000
namespace L2
open PySem PySem.Spec PyProof.Rows
section
variable {prog:Program} {w:World} {A:Around} {R:Result→Shared→Prop} {E:Value→Shared→Prop} {s:Shared}
theorem An0 {Q:Value→Shared→Prop} (h:Q (.ref s.heap.objs.size) { s with heap:=s.heap.push { cls:=.type "set",dict:=none,data:=.set #[] 0 (.fresh 0 0 (!byT w)) } }):wpAny (model prog w) A (newSet (.type "set")) Q E s:=by
 unfold newSet setsByText
 refine wpAny_bind (wpAny_bind (wpAny_askSetting (wpAny_pure ?_)))
 dsimp only
 simp only [newObj]
 exact wpAny_bind (wpAny_alloc (wpAny_pure h))
theorem An1 (elt tg iter:Expr) (ifs:List Expr) (sc:Scope) (pos:Pos) (it acc:Value) (env:Env):compTurn (.SetComp elt [⟨tg,iter,ifs,0⟩] sc pos) 0 it acc env=(do
  standAt iter.pos
  match ← pyNext it with
  | none=>pure (.done .next)
  | some v =>
   letOwnedTupleGo tg it v
   assign tg env v
   let ok ← AhD ifs env
   if ok then (do let v ← eval elt env; standAt elt.pos; let _ ← call (.builtin "set.add") [acc,v])
   again (.compLoop (.SetComp elt [⟨tg,iter,ifs,0⟩] sc pos) 0 it acc env)):=by rfl
theorem Akf {elt tg iter:Expr} {ifs:List Expr} {sc:Scope} {pos:Pos} {it acc:Value} {env:Env} (I:Nat→Shared→Prop)
  (turn:∀ n s,I n s→wpAny (model prog w) A (pyNext it) (fun r s₁=>match r with
   | none=>R (.ok .next) s₁
   | some v=>wpAny (model prog w) A (letOwnedTupleGo tg it v) (fun _ s₂=>wpAny (model prog w) A (assign tg env v) (fun _ s₃=>wpAny (model prog w) A (AhD ifs env) (fun ok s₄ =>
     if ok=true then wpAny (model prog w) A (eval elt env) (fun x s₅=>wpAny (model prog w) A (call (.builtin "set.add") [acc,x]) (fun _ s₆=>∃ m,m < n∧I m s₆) (fun _ _=>False) s₅) (fun _ _=>False) s₄
     else ∃ m,m < n∧I m s₄) (fun _ _=>False) s₃) (fun _ _=>False) s₂) (fun _ _=>False) s₁) (fun _ _=>False) s)
  (n:Nat) (h:I n s):codeAny (model prog w) A (.compLoop (.SetComp elt [⟨tg,iter,ifs,0⟩] sc pos) 0 it acc env) R s:=by
 refine codeAny_loop rfl I (fun n s hI=>?_) n h
 show wpAny _ A ((compTurn (.SetComp elt [⟨tg,iter,ifs,0⟩] sc pos) 0 it acc env).onRaise _) _ _ s
 refine wpAny_noted ?_
 rw [An1]
 refine wpAny_bind (wpAny_standAt (wpAny_bind (AcD (turn n s hI) fun r s₁ h₁=>?_)))
 match r,h₁ with
 | none,h₁=>exact wpAny_pure h₁
 | some v,h₁ =>
  refine wpAny_bind (AcD h₁ fun _ s₂ h₂=>wpAny_bind (AcD h₂ fun _ s₃ h₃=>wpAny_bind (AcD h₃ fun ok s₄ h₄=>?_)))
  match ok,h₄ with
  | false,h₄=>exact wpAny_pure ⟨rfl,h₄⟩
  | true,h₄=>exact wpAny_bind (wpAny_bind (AcD h₄ fun x s₅ h₅=>wpAny_bind (wpAny_standAt (wpAny_bind (AcD h₅ fun _ s₆ h₆=>wpAny_pure (wpAny_pure ⟨rfl,h₆⟩))))))
theorem AmR {elt tg iter:Expr} {ifs:List Expr} {sc:Scope} {pos:Pos} {it acc:Value} {env:Env} (h0:codeAny (model prog w) A (.compLoop (.SetComp elt [⟨tg,iter,ifs,0⟩] sc pos) 0 it acc env) R s)
  (h:wpAny (model prog w) A (pyIter it) (fun it' s'=>codeAny (model prog w) A (.compLoop (.SetComp elt [⟨tg,iter,ifs,0⟩] sc pos) 0 it' acc env) R s') (notedBy (model prog w) A env fun x s'=>R (.error x) s') s) :
  codeAny (model prog w) A (.compStart (.SetComp elt [⟨tg,iter,ifs,0⟩] sc pos) 0 it acc env) R s:=by
 refine codeAny_of_tree ?_
 show wpAny _ _ ((compStart (.SetComp elt [⟨tg,iter,ifs,0⟩] sc pos) 0 it acc env).onRaise (fun x=>do noteFrame x env; standAt theWindowsPlace)) _ _ s
 refine wpAny_notedAt ?_
 unfold compStart
 show wpAny _ _ (ask >>= _) _ _ s
 refine wpAny_bind (wpAny_askSetting (wpAny_ite ?_))
 split
 ·first | exact wpAny_bind (wpAny_pure (wpAny_pure ⟨rfl,h0⟩)) | exact wpAny_pure ⟨rfl,h0⟩
 ·first | exact wpAny_bind (wpAny_rule (wpAny_bind (wpAny_standAt (wpAny_bind (wpAny_mono h (fun it' s' h'=>wpAny_pure ⟨rfl,h'⟩) fun _ _ x=>x))))) | exact wpAny_rule (wpAny_bind (wpAny_standAt (wpAny_bind (wpAny_mono h (fun it' s' h'=>wpAny_pure ⟨rfl,h'⟩) fun _ _ x=>x))))
theorem AjB {a:Addr} {zs:List Str} {z:Str} {tk:Tok} {Q:Value→Shared→Prop} (ty:s.TypeIs (.ref a) "set") (hS:Ak1 w s.heap a zs) (room:zs.length + 1 < 3000)
  (q:∀ h' zs' tk',Heap.SameBut a s.heap h'→Ak1 w h' a zs'→(if z∈zs then zs'=zs else zs'.Perm (zs++[z]))→Q .none { s with heap:=h',toks:=tk' }):wpAny (model prog w) A (call (.builtin "set.add") [.ref a,.str z tk]) Q E s:=by
 refine wpAny_call_entry F.slot_set_add ty F.entry_set_add ?_ (F.args_set_add_2 _ _)
 unfold Builtin.«set.add» Builtin.Frozenset.oneOther
 simp only [List.isEmpty_nil,bind_assoc]
 unfold Builtin.Frozenset.addrOf setAdd
 refine wpAny_bind (wpAny_pure ?_); try dsimp only
 refine wpAny_bind (wpAny_pure ?_); try dsimp only
 refine wpAny_bind (wpAny_holding (wpAny_bind ((AaH prog w).pyHash (k:=Sum.inr z) (Ac1 _ _ _ _) ?_)))
 refine add_str (s:={ s with toks:=s.toks + 1 }) hS room fun h' zs' b sb x hz=>?_
 show wpAny _ _ (ret Value.none) _ _ _
 exact wpAny_pure ⟨_,rfl,q h' zs' _ sb x hz⟩
end
section
variable {X:Cx} {N':List Str} {sc:Scope} {srcs:List (Option Nat)} {cl:List (Str×Addr)} {C:Addr} {fp:List Addr} {pins:List (Addr×Obj)} {s₂:Shared} {H₂:Hp} {σ:St}
theorem An2 {s:Shared} {H:Hp} {D:Addr} {zs:List Str} {z:Str} {tk:Tok} {Q:Value→Shared→Prop} {E:Value→Shared→Prop} (I:Inv X pins σ H s) (hD:H D=some (Ahi X.w D zs)) (few:zs.length < 2000)
  (q:∀ h' tk',Inv X pins σ (upd H D (Ahi X.w D (zs++[z]))) { s with heap:=h',toks:=tk' }→Q .none { s with heap:=h',toks:=tk' }):wpAny (model X.prog X.w) X.A (call (.builtin "set.add") [.ref D,.str z tk]) Q E s:=by
 obtain ⟨⟨zs',x,m⟩,_⟩:=(show AbR X.prog X.w H s.heap D (Ahi X.w D zs) from I.hok D _ hD)
 obtain ⟨o,es,ep,t,e1,e2,r⟩:=id x
 have ty:s.TypeIs (.ref D) "set":=⟨o,e1,e2.1⟩
 have le:zs'.length≤zs.length:=by
  obtain ⟨_,_,_,_,_,_,_,_,_,nd,_⟩:=id x
  exact Ake nd fun z hz=>(m z).mp hz
 refine AjB ty x (by omega) fun h' zs2 tk' sb x2 hz=>?_
 have m2:∀ y,y∈zs2↔y∈zs++[z]:=fun y=>by
  rw [List.mem_append,List.mem_singleton,← m]
  by_cases hm:z∈zs'
  ·rw [if_pos hm] at hz
   rw [hz]
   exact ⟨.inl,fun h=>h.elim id fun e=>e▸hm⟩
  ·rw [if_neg hm] at hz
   rw [hz.mem_iff,List.mem_append,List.mem_singleton]
 refine q h' tk' (I.write (t':=tk') (x:=D) (e:=D) (by rw [hD]; trivial) (.inl rfl) (fun b u hb e=>(sb.2 b hb).trans e) ?_ (Akd x2 m2))
 obtain ⟨o2,_,_,_,g,_⟩:=x2
 exact ⟨o2,g⟩
theorem Akg {D:Addr} {h₁:Heap} {tk:Nat} {m:Str→Option Value} (S:Abc sc X.env.scope N' X.N srcs) (I:Inv X pins σ H₂ s₂) (hcl:∀ x c,cl.lookup x=some c→X.env.cells.lookup x=some c) (hcl2:∀ y∈sc.names,y.2=.free→∃ c,cl.lookup y.1=some c)
  (hfp:∀ b∈fp,AjX X pins H₂ b) (hfo:∀ b∈fp,∃ o,s₂.heap.get? b=some o) (hD:D=s₂.heap.objs.size) (hC:C=s₂.heap.objs.size + 1) (hk:∀ b o,(s₂.heap.push { cls:=.type "set",dict:=none,data:=.set #[] 0 (.fresh 0 0 (!byT X.w)) }).get? b=some o→h₁.get? b=some o) (hns:h₁.Ns C m) :
  Inv (Aay X N' sc cl C fp pins s₂ H₂) [] (AiJ srcs σ) (upd H₂ D (Ahi X.w D [])) { s₂ with heap:=h₁,toks:=tk }:=by
 subst hD
 have hCle:s₂.heap.objs.size≤C:=by rw [hC]; exact Nat.le_succ _
 have ok:=AiK S I hcl hcl2 hCle hfp hfo
 have I3:Inv X pins σ (upd H₂ s₂.heap.objs.size (Ahi X.w s₂.heap.objs.size [])) { s₂ with heap:=s₂.heap.push { cls:=.type "set",dict:=none,data:=.set #[] 0 (.fresh 0 0 (!byT X.w)) },toks:=tk }:=I.laid (t':=tk) (fun b o q=>Heap.get?_push_of_some _ q) (Nat.le_refl _) (Akd (Ail (Heap.get?_push_size _ rfl)) fun z=>Iff.rfl)
 have I4:Inv X pins σ (upd H₂ s₂.heap.objs.size (Ahi X.w s₂.heap.objs.size [])) { s₂ with heap:=h₁,toks:=tk }:=I3.kept (t':=tk) hk
 have old:∀ b o,s₂.heap.get? b=some o→h₁.get? b=some o:=fun b o e=>hk b o (Heap.get?_push_of_some _ e)
 have neD:∀ b o,s₂.heap.get? b=some o→b≠s₂.heap.objs.size:=fun b o e=>Nat.ne_of_lt (Heap.lt_size e)
 have cellOld:∀ x c,cl.lookup x=some c→∃ v o,s₂.heap.get? c=some o∧o.data=.cell v:=fun x c e=>by
  obtain ⟨v,o,ho,hd⟩:=I.cell x c (hcl x c e)
  exact ⟨v,o,ho,hd⟩
 refine ⟨ok,rfl,I.bare,Un.laid old (Nat.le_refl _) I.fresh,⟨m,hns,fun i x v e1 e2 e3=>?_⟩,fun x c e=>?_,?_,fun x c e=>?_,fun p hp=>?_,I4.hok,?_⟩
 ·have e2':(srcs[i]?).map (fun o=>o.bind fun j=>(σ[j]?).join)=some (some v):=by
   have:=e2
   unfold AiJ at this
   rwa [List.getElem?_map] at this
  cases q:srcs[i]? with
  | none=>rw [q] at e2'; cases e2'
  | some oj =>
   rw [q,Option.map_some] at e2'
   cases oj with
   | none=>cases e2'
   | some j =>
    have e4:(σ[j]?).join=some v:=by simpa using e2'
    have e5:σ[j]?=some (some v):=by
     cases z:σ[j]? with
     | none=>rw [z] at e4; cases e4
     | some w=>rw [z] at e4; rw [← e4]; rfl
    obtain ⟨x',n1,n2,n3,n4⟩:=S.out i j q
    have e1':N'[i]?=some x:=e1
    rw [n1] at e1'; cases e1'
    obtain ⟨m2,hn2,hl⟩:=I.loc
    have hv:Vis X.env.scope x:=n4.elim (fun z=>.inr (.inl z)) fun z=>.inr (.inr z)
    obtain ⟨u,r,l⟩:=hl j x v n2 e5 hv
    refine ⟨u,r,.inr ⟨AfF n3,?_⟩⟩
    rcases l with ⟨k,_⟩ | ⟨_,c,ec,z⟩
    ·have k':X.env.scope.names.lookup x=some .local:=k
     rcases n4 with z | z <;> rw [k'] at z <;> cases z
    ·obtain ⟨c',ec'⟩:=hcl2 _ (PySem.mem_of_lookup n3) rfl
     have:=hcl x c' ec'
     rw [ec] at this; cases this
     obtain ⟨o,ho,hd⟩:=z
     exact ⟨c,ec',o,old c o ho,hd⟩
 ·obtain ⟨v,o,ho,hd⟩:=cellOld x c e
  exact ⟨v,o,old c o ho,hd⟩
 ·show upd H₂ s₂.heap.objs.size (Ahi X.w s₂.heap.objs.size []) C=none
  rw [Aah (by rw [hC]; exact Nat.succ_ne_self _)]
  exact I.hok.fresh hCle
 ·obtain ⟨v,o,ho,hd⟩:=cellOld x c e
  show upd H₂ s₂.heap.objs.size (Ahi X.w s₂.heap.objs.size []) c=none
  rw [Aah (neD c o ho)]
  exact I.freeC x c (hcl x c e)
 ·have hp':p∈X.pn++pins:=by simpa [Aay] using hp
  obtain ⟨e,n,ne,nf,d⟩:=I.pin p hp'
  obtain ⟨_,n4,_⟩:=I4.pin p hp'
  exact ⟨old _ _ e,n4,Nat.ne_of_lt (Nat.lt_of_lt_of_le (Heap.lt_size e) hCle),fun z=>(List.mem_cons.mp (I.stkSub _ z)).elim ne nf,d⟩
 ·show (srcs.map _).length=N'.length
  rw [List.length_map]
  exact S.len
def AoH (w:World) (srcs:List (Option Nat)) (wi:TI) (g:TG) (tt:TT) (te:TE):TE:=fun σ H Q=>wi σ H fun J H1=>∀ D,H1 D=none→∃ W:Nat→Nat→St→Hp→Prop,(∃ m,W 0 m (AiJ srcs σ) (upd H1 D (Ahi w D [])))∧∀ i m σ' H',W i m σ' H' →
 (J.stop i H'∧Q (.ref D) H')∨(J.go i H'∧∃ N:St→Hp→Prop,(∀ σ2 H2,N σ2 H2→∃ m',m' < m∧W (i + 1) m' σ2 H2)∧∀ x H2,J.yld i H' x H2→g x σ' H2 fun σ3 H3=>tt σ3 H3 fun b H4 =>
  if b=true then te σ3 H4 fun v H5=>∃ zs z,v=.str z∧H5 D=some (Ahi w D zs)∧zs.length < 2000∧N σ3 (upd H5 D (Ahi w D (zs++[z]))) else N σ3 H4)
theorem Akh {elt tg iter:Expr} {ifs:List Expr} {sc:Scope} {srcs:List (Option Nat)} {N':List Str} {pos:Pos} {wi:TI} {g:TG} {tt:TT} {te:TE} {s:Shared} {H:Hp} {use:Option (Value→Sem Unit)} {Qv:Value→Shared→Prop} {Q:VK}
  (hc:X.calm=true) (S:Abc sc X.env.scope N' X.N srcs) (hi:PI X tg iter wi)
  (hg:∀ cl C fp pins s₂ H₂,PG (Aay X N' sc cl C fp pins s₂ H₂) tg g) (ht:∀ cl C fp pins s₂ H₂,PTs (Aay X N' sc cl C fp pins s₂ H₂) ifs tt) (he:∀ cl C fp pins s₂ H₂,PE (Aay X N' sc cl C fp pins s₂ H₂) elt te)
  (hs:∀ x,foldedSetIterable iter X.env x=pure x) (I:Inv X pins σ H s) (h:AoH X.w srcs wi g tt te σ H Q)
  (post:∀ D C H' s' m,(∀ h',Heap.SameBut C s'.heap h'→Inv X pins σ H' { s' with heap:=h' })→Inv X pins σ H' s'→s'.heap.Ns C m→(∀ x c,X.env.cells.lookup x=some c→c≠C)→X.env.locals≠C→H' C=none →
   (∀ σ' s'' h',Inv X pins σ' H' s''→Heap.SameBut C s''.heap h'→Inv X pins σ' H' { s'' with heap:=h' })→Q (.ref D) H'→compPost (model X.prog X.w) X.A X.xe use Qv (.ref D) C (.ok .next) s') :
  wpAny (model X.prog X.w) X.A (comprehension (.SetComp elt [⟨tg,iter,ifs,0⟩] sc pos) sc X.env (firstIterPos [⟨tg,iter,ifs,0⟩] pos) (newSet (.type "set")) false (eval iter X.env) use) Qv X.xe s:=by
 obtain ⟨cl,hclos,hcl,hcl2⟩:=Aj2 (env:=X.env) (sc:=sc) fun y hy hf=>I.ok.has y.1 (S.frees y hy hf)
 refine wpAny_comprehension_free rfl hs hclos S.kind S.one (thn (hi pins s σ H _ I h) fun xv s₁ h₁=>thn h₁ fun itv s₂ h₂=>?_)
 obtain ⟨it,fp,tn,J,H₂,e,I₂,T,st₂,f₂,rd⟩:=h₂
 subst e
 refine An0 (wpAny_newFunctionEnv S.nocell (by intro y hy; simp at hy) (fun h₁ hns hsb=>?_) S.kind)
 dsimp only at hns hsb ⊢
 have hfo:∀ b∈fp,∃ o,s₂.heap.get? b=some o:=fun b hb=>let ⟨o,e,_⟩:=T.obj _ _ st₂ b hb; ⟨o,e⟩
 have hCe:(s₂.heap.push { cls:=.type "set",dict:=none,data:=.set #[] 0 (.fresh 0 0 (!byT X.w)) }).objs.size=s₂.heap.objs.size + 1:=Heap.size_push ..
 have hk:∀ b o,(s₂.heap.push { cls:=.type "set",dict:=none,data:=.set #[] 0 (.fresh 0 0 (!byT X.w)) }).get? b=some o→h₁.get? b=some o:=fun b o e=>hsb.extBut b o (Nat.ne_of_lt (Heap.lt_size e)) (Heap.get?_push_of_some _ e)
 have IB:=Akg (tk:=s₂.toks + ([]:List (Str×Value)).length) S I₂ hcl hcl2 f₂ hfo rfl hCe hk hns
 generalize (s₂.heap.push { cls:=.type "set",dict:=none,data:=.set #[] 0 (.fresh 0 0 (!byT X.w)) }).objs.size=C at hCe hns hsb IB ⊢
 generalize hD:s₂.heap.objs.size=D at IB hCe ⊢
 have hCle:s₂.heap.objs.size≤C:=by rw [hD,hCe]; exact Nat.le_succ _
 obtain ⟨W,⟨m0,w0⟩,turn⟩:=rd D (by rw [← hD]; exact I₂.fresh)
 have fpB:∀ {H':Hp},(∀ b∈fp,H' b=none)→∀ b∈fp,AjX (Aay X N' sc cl C fp pins s₂ H₂) [] H' b:=fun hn b hb=>by
  obtain ⟨z1,z2⟩:=(AiK S I₂ hcl hcl2 hCle f₂ hfo).exf b hb
  exact ⟨hn b hb,z1,(AiK S I₂ hcl hcl2 hCle f₂ hfo).exfs b hb,.inl hb,z2,fun p hp=>(f₂ b hb).2.2.2.2.2 p (by simpa [Aay] using hp)⟩
 have fr0:∀ b∈fp,(upd H₂ D (Ahi X.w D [])) b=none:=fun b hb=>by
  obtain ⟨o,ho⟩:=hfo b hb
  rw [Aah (by rw [← hD]; exact Nat.ne_of_lt (Heap.lt_size ho))]
  exact (f₂ b hb).1
 have st0:tn 0 h₁:=T.keep _ _ _ st₂ fun b hb o e=>hk b o (Heap.get?_push_of_some _ e)
 have loop:codeAny (model X.prog X.w) X.A (.compLoop (.SetComp elt [⟨tg,iter,ifs,0⟩] sc pos) 0 (.ref it) (.ref D) (compEnvC sc cl C X.env)) (compPost (model X.prog X.w) X.A X.xe use Qv (.ref D) C) { s₂ with heap:=h₁,toks:=s₂.toks + ([]:List (Str×Value)).length }:=by
  refine Akf (fun n s'=>∃ i σ' H',Inv (Aay X N' sc cl C fp pins s₂ H₂) [] σ' H' s'∧tn i s'.heap∧(∀ b∈fp,H' b=none)∧W i n σ' H') ?_ m0 ⟨0,_,_,IB,st0,fr0,w0⟩
  rintro n s3 ⟨i,σ3,H3,I3,st3,fr3,w3⟩
  rcases turn i n σ3 H3 w3 with ⟨stop,qn⟩ | ⟨go,N,hN,step⟩
  ·refine thn (T.done (Aay X N' sc cl C fp pins s₂ H₂) rfl rfl rfl hc i [] s3 σ3 H3 _ I3 (fpB fr3) st3 stop) fun r s4 ⟨hr,I4⟩=>?_
   subst hr
   have JX:=AiL I₂ f₂ I4
   obtain ⟨m,hn,_⟩:=I4.loc
   have cn:∀ x c,X.env.cells.lookup x=some c→c≠C:=fun x c e z=>by
    obtain ⟨v,q⟩:=I₂.cell x c e
    exact absurd (Nat.lt_of_lt_of_le q.lt (by rw [z]; exact hCle)) (Nat.lt_irrefl _)
   have gone:∀ σ' s'' h',Inv X pins σ' H3 s''→Heap.SameBut C s''.heap h'→Inv X pins σ' H3 { s'' with heap:=h' }:=fun σ' s'' h' K3 hs3 =>
    K3.turned (t':=s''.toks) (it:=C) (fun b o hb e=>(hs3.2 b hb).trans e) I4.free (Nat.ne_of_gt (Nat.lt_of_lt_of_le I₂.lt hCle)) (.inr (Nat.le_trans I₂.sz hCle)) cn fun p hp z=>by
     exact absurd (Nat.lt_of_lt_of_le (Heap.lt_size (I₂.pin p hp).1) (by rw [z]; exact hCle)) (Nat.lt_irrefl _)
   exact post D C H3 s4 m (fun h' hs'=>gone σ s4 h' JX hs') JX hn cn (Nat.ne_of_lt (Nat.lt_of_lt_of_le I₂.lt hCle)) I4.free gone qn
  ·refine thn (T.item (Aay X N' sc cl C fp pins s₂ H₂) rfl rfl rfl hc i [] s3 σ3 H3 _ I3 (fpB fr3) st3 go) fun r s4 ⟨u,hr,h4⟩=>?_
   subst hr
   refine thn h4 fun _ s5 ⟨x,H5,I5,r5,y5,st5,fr5⟩=>?_
   have I5':=I5.pinned (fpB fr5) (T.obj _ _ st5)
   refine thn (hg cl C fp pins s₂ H₂ _ s5 σ3 H5 x u _ I5' r5 (step x H5 y5)) fun _ s6 ⟨σ6,H6,I6,q6⟩=>?_
   refine thn (ht cl C fp pins s₂ H₂ _ s6 σ6 H6 _ I6 q6) fun ok s7 ⟨H7,I7,q7⟩=>?_
   have again:∀ {H8:Hp} {s8:Shared},Inv (Aay X N' sc cl C fp pins s₂ H₂) ([]++Ahp fp s5.heap) σ6 H8 s8→N σ6 H8→∃ m,m < n∧∃ i σ' H',Inv (Aay X N' sc cl C fp pins s₂ H₂) [] σ' H' s8∧tn i s8.heap∧(∀ b∈fp,H' b=none)∧W i m σ' H':=fun {H8 s8} I8 n8=>by
    obtain ⟨m',hm,w8⟩:=hN σ6 H8 n8
    refine ⟨m',hm,i + 1,σ6,H8,I8.unpinned,T.keep _ _ _ st5 fun b hb o e=>(I8.pin (b,o) (List.mem_append_right _ (List.mem_append_right _ (Acv hb e)))).1,fun b hb=>?_,w8⟩
    obtain ⟨o,e,d⟩:=T.obj _ _ st5 b hb
    exact (I8.pin (b,o) (List.mem_append_right _ (List.mem_append_right _ (Acv hb e)))).2.1
   cases ok with
   | false=>exact again I7 q7
   | true =>
    refine thn (he cl C fp pins s₂ H₂ _ s7 σ6 H7 _ I7 q7) fun y s8 ⟨v,H8,I8,r8,q8⟩=>?_
    obtain ⟨zs,z,rfl,hy,few,n8⟩:=q8
    obtain ⟨tk,rfl⟩:=r8
    exact An2 (X:=Aay X N' sc cl C fp pins s₂ H₂) I8 hy few fun h9 tk9 I9=>again I9 n8
 exact AmR loop (T.self _ 0 _ _ _ st0 loop)
theorem An3 {elt tg iter:Expr} {ifs:List Expr} {sc:Scope} {srcs:List (Option Nat)} {N':List Str} {pos:Pos} {wi:TI} {g:TG} {tt:TT} {te:TE} {w:World} (hw:X.w=w) (hc:X.calm=true) (S:Abc sc X.env.scope N' X.N srcs) (hi:PI X tg iter wi)
  (hg:∀ cl C fp pins s₂ H₂,PG (Aay X N' sc cl C fp pins s₂ H₂) tg g) (ht:∀ cl C fp pins s₂ H₂,PTs (Aay X N' sc cl C fp pins s₂ H₂) ifs tt) (he:∀ cl C fp pins s₂ H₂,PE (Aay X N' sc cl C fp pins s₂ H₂) elt te)
  (hs:∀ x,foldedSetIterable iter X.env x=pure x:=by intro _; rfl):PE X (.SetComp elt [⟨tg,iter,ifs,0⟩] sc pos) (AoH w srcs wi g tt te):=by
 subst hw
 intro pins s σ H Q I h
 rw [arm_eval_SetComp]
 refine Akh (use:=none) (Q:=Q) hc S hi hg ht he hs I h fun D C H' s' m g1 J hn cn ln fr g2 q=>?_
 exact ⟨m,hn,fun h' hs'=>⟨.ref D,H',g1 h' hs',rfl,q⟩⟩
end
end L2
set_option maxHeartbeats 4000000
namespace L2
open PySem PySem.Spec PyProof.Rows
section
variable {prog:Program} {w:World} {A:Around} {E:Value→Shared→Prop} {s:Shared}
structure Sti (h:Heap) (I a:Addr) (o:Obj) (first:Value) (i n ep:Nat):Prop where
 it:h.get? I=some { cls:=.type "set_iterator",data:=.fields #[first,.int i 0,.ref a,.int n 0,.int ep 0] }
 st:h.get? a=some o
end
end L2
set_option maxHeartbeats 4000000
namespace L2
open PySem PySem.Spec PyProof.Rows
section
variable {prog:Program} {w:World} {A:Around} {E:Value→Shared→Prop} {s:Shared}
end
end L2
set_option maxHeartbeats 4000000
namespace L2
open PySem PySem.Spec PyProof.Rows
section
variable {prog:Program} {w:World} {A:Around} {E:Value→Shared→Prop} {s:Shared}
end
end L2
set_option maxHeartbeats 4000000
namespace L2
open PySem PySem.Spec PyProof.Rows
section
variable {prog:Program} {w:World} {A:Around} {E:Value→Shared→Prop} {s:Shared}
end
section
variable {X:Cx}
end
end L2
namespace L2
open PySem PySem.Spec PyProof.Rows
section
variable {K:PySem.W.Frag} {D:Addr} {z:Str} {g:TG} {tt:TT} {te:TE} {σ0:St} {H:Hp} {Q:Hp→Prop}
theorem AmS (Pv:Nat→St→Hp→Prop) (h0:Pv 0 σ0 (upd H D (.lst []))) (hs:∀ i c σ H',z.cps.toList[i]?=some c→Pv i σ H'→g (.str ⟨#[c]⟩) σ H' (AnQ D tt te (Pv (i + 1)))) (hd:∀ σ H',Pv z.cps.toList.length σ H'→Q H') :
  ∃ W:Nat→Nat→St→Hp→Prop,(∃ m,W 0 m σ0 (upd H D (.lst [])))∧∀ i m σ' H',W i m σ' H' →
   ((Its z).stop i H'∧Q H')∨((Its z).go i H'∧∃ N:St→Hp→Prop,(∀ σ2 H2,N σ2 H2→∃ m',m' < m∧W (i + 1) m' σ2 H2)∧∀ x H2,(Its z).yld i H' x H2→g x σ' H2 fun σ3 H3=>tt σ3 H3 fun b H4 =>
    if b=true then te σ3 H4 fun v H5=>∃ ys,H5 D=some (.lst ys)∧ys.length < sizeLine∧N σ3 (upd H5 D (.lst (ys++[v]))) else N σ3 H4):=by
 have hl:z.cps.toList.length=z.cps.size:=by simp
 rw [hl] at hd
 refine ⟨fun i m σ H=>m=z.cps.size - i∧i≤z.cps.size∧Pv i σ H,⟨_,rfl,Nat.zero_le _,h0⟩,?_⟩
 rintro i m σ H1 ⟨rfl,hi,p⟩
 by_cases hlt:i < z.cps.size
 ·refine .inr ⟨hlt,Pv (i + 1),fun σ' H' p'=>⟨z.cps.size - (i + 1),by omega,rfl,hlt,p'⟩,fun x H' y=>?_⟩
  obtain ⟨e,c,hc,e2⟩:=y
  subst e e2
  exact hs i c σ _ hc p
 ·have e:i=z.cps.size:=by omega
  subst e
  exact .inl ⟨Nat.le_refl _,hd σ H1 p⟩
theorem Aly {w:World} {a:Addr} {xs:List V} (Pv:Nat→St→Hp→Prop) (h0:Pv 0 σ0 (upd H D (Ahi w D []))) (hl:∀ i σ H,i≤xs.length→Pv i σ H→SqL K H a xs)
  (hs:∀ i x σ H',xs[i]?=some x→Pv i σ H'→g x σ H' fun σ3 H3=>tt σ3 H3 fun b H4=>if b=true then te σ3 H4 fun v H5=>∃ zs z,v=.str z∧H5 D=some (Ahi w D zs)∧zs.length < 2000∧Pv (i + 1) σ3 (upd H5 D (Ahi w D (zs++[z]))) else Pv (i + 1) σ3 H4) (hd:∀ σ H',Pv xs.length σ H'→Q H') :
  ∃ W:Nat→Nat→St→Hp→Prop,(∃ m,W 0 m σ0 (upd H D (Ahi w D [])))∧∀ i m σ' H',W i m σ' H' →
   ((Itl K a).stop i H'∧Q H')∨((Itl K a).go i H'∧∃ N:St→Hp→Prop,(∀ σ2 H2,N σ2 H2→∃ m',m' < m∧W (i + 1) m' σ2 H2)∧∀ x H2,(Itl K a).yld i H' x H2→g x σ' H2 fun σ3 H3=>tt σ3 H3 fun b H4 =>
    if b=true then te σ3 H4 fun v H5=>∃ zs z,v=.str z∧H5 D=some (Ahi w D zs)∧zs.length < 2000∧N σ3 (upd H5 D (Ahi w D (zs++[z]))) else N σ3 H4):=by
 refine ⟨fun i m σ H=>m=xs.length - i∧i≤xs.length∧Pv i σ H,⟨xs.length,by simp,Nat.zero_le _,h0⟩,?_⟩
 rintro i m σ H1 ⟨rfl,hi,p⟩
 have q:=hl i σ H1 hi p
 by_cases hlt:i < xs.length
 ·refine .inr ⟨⟨xs,xs[i],q,by simp [hlt]⟩,Pv (i + 1),fun σ' H' p'=>⟨xs.length - (i + 1),by omega,rfl,hlt,p'⟩,fun x H' y=>?_⟩
  obtain ⟨rfl,hy⟩:=y
  exact hs i x σ _ (hy xs q) p
 ·have e:i=xs.length:=by omega
  subst e
  exact .inl ⟨⟨xs,q,Nat.le_refl _⟩,hd σ H1 p⟩
end
section
variable {X:Cx} {CX:CXT} {k:Nat} {f C:Addr} {fd:FuncData} {ps:List Str} {sp:Sp} {x:Str} {p pos:Pos} {e:Expr} {es:List Expr} {t:TA} {W:St→XK}
theorem Aim {i:Int} (g:Gm X.env.scope x) (hm:∃ t,X.mg x=some (Value.int i t)):PE X (.Name x pos) (tC (.int i)):=by obtain ⟨t,h⟩:=hm; exact AnN g h ⟨t,rfl⟩
theorem Ain {z:Str} (g:Gm X.env.scope x) (hm:∃ t,X.mg x=some (Value.str z t)):PE X (.Name x pos) (tC (.str z)):=by obtain ⟨t,h⟩:=hm; exact AnN g h ⟨t,rfl⟩
end
section
variable {X:Cx}
end
end L2
set_option maxHeartbeats 4000000
namespace L2
open PySem PySem.Spec PyProof.Rows
section
variable {prog:Program} {w:World} {A:Around} {R:Result→Shared→Prop} {E:Value→Shared→Prop} {s:Shared}
theorem Aki {kx vx tg iter:Expr} {ifs:List Expr} {sc:Scope} {pos:Pos} {it:Value} {D:Addr} {env:Env} (I:Nat→Shared→Prop)
  (turn:∀ n s,I n s→wpAny (model prog w) A (pyNext it) (fun r s₁=>match r with
   | none=>R (.ok .next) s₁
   | some v=>wpAny (model prog w) A (letOwnedTupleGo tg it v) (fun _ s₂=>wpAny (model prog w) A (assign tg env v) (fun _ s₃=>wpAny (model prog w) A (AhD ifs env) (fun ok s₄ =>
     if ok=true then wpAny (model prog w) A (eval kx env) (fun x s₅=>wpAny (model prog w) A (eval vx env) (fun y s₆=>wpAny (model prog w) A (dictSet D x y) (fun _ s₇=>∃ m,m < n∧I m s₇) (fun _ _=>False) s₆) (fun _ _=>False) s₅) (fun _ _=>False) s₄
     else ∃ m,m < n∧I m s₄) (fun _ _=>False) s₃) (fun _ _=>False) s₂) (fun _ _=>False) s₁) (fun _ _=>False) s)
  (n:Nat) (h:I n s):codeAny (model prog w) A (.compLoop (.DictComp kx vx [⟨tg,iter,ifs,0⟩] sc pos) 0 it (.ref D) env) R s:=by
 refine codeAny_loop rfl I (fun n s hI=>?_) n h
 show wpAny _ A ((compTurn (.DictComp kx vx [⟨tg,iter,ifs,0⟩] sc pos) 0 it (.ref D) env).onRaise _) _ _ s
 refine wpAny_noted ?_
 rw [compTurn_dict]
 refine wpAny_bind (wpAny_standAt (wpAny_bind (AcD (turn n s hI) fun r s₁ h₁=>?_)))
 match r,h₁ with
 | none,h₁=>exact wpAny_pure h₁
 | some v,h₁ =>
  refine wpAny_bind (AcD h₁ fun _ s₂ h₂=>wpAny_bind (AcD h₂ fun _ s₃ h₃=>wpAny_bind (AcD h₃ fun ok s₄ h₄=>?_)))
  match ok,h₄ with
  | false,h₄=>exact wpAny_pure ⟨rfl,h₄⟩
  | true,h₄=>exact wpAny_bind (wpAny_bind (AcD h₄ fun x s₅ h₅=>wpAny_bind (wpAny_holding (AcD h₅ fun y s₆ h₆=>wpAny_bind (wpAny_standAt (wpAny_holding (AcD h₆ fun _ s₇ h₇=>wpAny_pure ⟨rfl,h₇⟩)))))))
end
section
variable {X:Cx} {N':List Str} {sc:Scope} {srcs:List (Option Nat)} {cl:List (Str×Addr)} {C:Addr} {fp:List Addr} {pins:List (Addr×Obj)} {s₂:Shared} {H₂:Hp} {σ:St}
theorem AmT {s:Shared} {H:Hp} {D:Addr} {kvs:List (Key×V)} {k:Key} {v:V} {x y:Value} {Q:Unit→Shared→Prop} {E:Value→Shared→Prop} (I:Inv X pins σ H s) (e:H D=some (.dK kvs)) (few:kvs.length < sizeLine) (rk:AbQ (kV k) x) (rv:AbQ v y)
  (q:∀ s',Inv X pins σ (upd H D (.dK (AfX kvs k v))) s'→Q () s'):wpAny (model X.prog X.w) X.A (dictSet D x y) Q E s:=by
 obtain ⟨z,hd,vs,rel,dd⟩:=Api I.hok e
 have hz:vs.length≤sizeLine:=by rw [← rel.length]; exact z
 have hl:(AfX kvs k v).length≤sizeLine:=by have:=AeM kvs k v; omega
 refine wpAny_dictSet_pairs (hsz:=hz) (Aj7 rk) dd fun h' dd' hs=>q _ ?_
 have he:∃ q,h'.get? D=some q:=let ⟨q,_,_,hq,_⟩:=dd'; ⟨q,hq⟩
 exact AiR I (by rw [e]; exact True.intro) hs he (Amx hl hd (rel.put k rv) dd')
theorem Akj {D:Addr} {h₁:Heap} {tk:Nat} {m:Str→Option Value} (S:Abc sc X.env.scope N' X.N srcs) (I:Inv X pins σ H₂ s₂) (hcl:∀ x c,cl.lookup x=some c→X.env.cells.lookup x=some c) (hcl2:∀ y∈sc.names,y.2=.free→∃ c,cl.lookup y.1=some c)
  (hfp:∀ b∈fp,AjX X pins H₂ b) (hfo:∀ b∈fp,∃ o,s₂.heap.get? b=some o) (hD:D=s₂.heap.objs.size) (hC:C=s₂.heap.objs.size + 1) (hk:∀ b o,(s₂.heap.push { cls:=.type "dict",dict:=none,data:=.dict #[] }).get? b=some o→h₁.get? b=some o) (hns:h₁.Ns C m) :
  Inv (Aay X N' sc cl C fp pins s₂ H₂) [] (AiJ srcs σ) (upd H₂ D (.dK [])) { s₂ with heap:=h₁,toks:=tk }:=by
 subst hD
 have hCle:s₂.heap.objs.size≤C:=by rw [hC]; exact Nat.le_succ _
 have ok:=AiK S I hcl hcl2 hCle hfp hfo
 have I3:Inv X pins σ (upd H₂ s₂.heap.objs.size (.dK [])) { s₂ with heap:=s₂.heap.push { cls:=.type "dict",dict:=none,data:=.dict #[] },toks:=tk }:=I.laid (t':=tk) (fun b o q=>Heap.get?_push_of_some _ q) (Nat.le_refl _) (Ak0 s₂.heap I.big)
 have I4:Inv X pins σ (upd H₂ s₂.heap.objs.size (.dK [])) { s₂ with heap:=h₁,toks:=tk }:=I3.kept (t':=tk) hk
 have old:∀ b o,s₂.heap.get? b=some o→h₁.get? b=some o:=fun b o e=>hk b o (Heap.get?_push_of_some _ e)
 have neD:∀ b o,s₂.heap.get? b=some o→b≠s₂.heap.objs.size:=fun b o e=>Nat.ne_of_lt (Heap.lt_size e)
 have cellOld:∀ x c,cl.lookup x=some c→∃ v o,s₂.heap.get? c=some o∧o.data=.cell v:=fun x c e=>by
  obtain ⟨v,o,ho,hd⟩:=I.cell x c (hcl x c e)
  exact ⟨v,o,ho,hd⟩
 refine ⟨ok,rfl,I.bare,Un.laid old (Nat.le_refl _) I.fresh,⟨m,hns,fun i x v e1 e2 e3=>?_⟩,fun x c e=>?_,?_,fun x c e=>?_,fun p hp=>?_,I4.hok,?_⟩
 ·have e2':(srcs[i]?).map (fun o=>o.bind fun j=>(σ[j]?).join)=some (some v):=by
   have:=e2
   unfold AiJ at this
   rwa [List.getElem?_map] at this
  cases q:srcs[i]? with
  | none=>rw [q] at e2'; cases e2'
  | some oj =>
   rw [q,Option.map_some] at e2'
   cases oj with
   | none=>cases e2'
   | some j =>
    have e4:(σ[j]?).join=some v:=by simpa using e2'
    have e5:σ[j]?=some (some v):=by
     cases z:σ[j]? with
     | none=>rw [z] at e4; cases e4
     | some w=>rw [z] at e4; rw [← e4]; rfl
    obtain ⟨x',n1,n2,n3,n4⟩:=S.out i j q
    have e1':N'[i]?=some x:=e1
    rw [n1] at e1'; cases e1'
    obtain ⟨m2,hn2,hl⟩:=I.loc
    have hv:Vis X.env.scope x:=n4.elim (fun z=>.inr (.inl z)) fun z=>.inr (.inr z)
    obtain ⟨u,r,l⟩:=hl j x v n2 e5 hv
    refine ⟨u,r,.inr ⟨AfF n3,?_⟩⟩
    rcases l with ⟨k,_⟩ | ⟨_,c,ec,z⟩
    ·have k':X.env.scope.names.lookup x=some .local:=k
     rcases n4 with z | z <;> rw [k'] at z <;> cases z
    ·obtain ⟨c',ec'⟩:=hcl2 _ (PySem.mem_of_lookup n3) rfl
     have:=hcl x c' ec'
     rw [ec] at this; cases this
     obtain ⟨o,ho,hd⟩:=z
     exact ⟨c,ec',o,old c o ho,hd⟩
 ·obtain ⟨v,o,ho,hd⟩:=cellOld x c e
  exact ⟨v,o,old c o ho,hd⟩
 ·show upd H₂ s₂.heap.objs.size (.dK []) C=none
  rw [Aah (by rw [hC]; exact Nat.succ_ne_self _)]
  exact I.hok.fresh hCle
 ·obtain ⟨v,o,ho,hd⟩:=cellOld x c e
  show upd H₂ s₂.heap.objs.size (.dK []) c=none
  rw [Aah (neD c o ho)]
  exact I.freeC x c (hcl x c e)
 ·have hp':p∈X.pn++pins:=by simpa [Aay] using hp
  obtain ⟨e,n,ne,nf,d⟩:=I.pin p hp'
  obtain ⟨_,n4,_⟩:=I4.pin p hp'
  exact ⟨old _ _ e,n4,Nat.ne_of_lt (Nat.lt_of_lt_of_le (Heap.lt_size e) hCle),fun z=>(List.mem_cons.mp (I.stkSub _ z)).elim ne nf,d⟩
 ·show (srcs.map _).length=N'.length
  rw [List.length_map]
  exact S.len
def AoI (srcs:List (Option Nat)) (wi:TI) (g:TG) (tt:TT) (tk tv:TE):TE:=fun σ H Q=>wi σ H fun J H1=>∀ D,H1 D=none→∃ W:Nat→Nat→St→Hp→Prop,(∃ m,W 0 m (AiJ srcs σ) (upd H1 D (.dK [])))∧∀ i m σ' H',W i m σ' H' →
 (J.stop i H'∧Q (.ref D) H')∨(J.go i H'∧∃ N:St→Hp→Prop,(∀ σ2 H2,N σ2 H2→∃ m',m' < m∧W (i + 1) m' σ2 H2)∧∀ x H2,J.yld i H' x H2→g x σ' H2 fun σ3 H3=>tt σ3 H3 fun b H4 =>
  if b=true then tk σ3 H4 fun k H5=>tv σ3 H5 fun v H6=>∃ kvs kk,k=kV kk∧H6 D=some (.dK kvs)∧kvs.length < sizeLine∧N σ3 (upd H6 D (.dK (AfX kvs kk v))) else N σ3 H4)
theorem Akk {kx vx tg iter:Expr} {ifs:List Expr} {sc:Scope} {srcs:List (Option Nat)} {N':List Str} {pos:Pos} {wi:TI} {g:TG} {tt:TT} {te tv:TE} {s:Shared} {H:Hp} {use:Option (Value→Sem Unit)} {Qv:Value→Shared→Prop} {Q:VK}
  (hc:X.calm=true) (S:Abc sc X.env.scope N' X.N srcs) (hi:PI X tg iter wi)
  (hg:∀ cl C fp pins s₂ H₂,PG (Aay X N' sc cl C fp pins s₂ H₂) tg g) (ht:∀ cl C fp pins s₂ H₂,PTs (Aay X N' sc cl C fp pins s₂ H₂) ifs tt) (he:∀ cl C fp pins s₂ H₂,PE (Aay X N' sc cl C fp pins s₂ H₂) kx te) (hv:∀ cl C fp pins s₂ H₂,PE (Aay X N' sc cl C fp pins s₂ H₂) vx tv)
  (hs:∀ x,foldedSetIterable iter X.env x=pure x) (I:Inv X pins σ H s) (h:AoI srcs wi g tt te tv σ H Q)
  (post:∀ D C H' s' m,(∀ h',Heap.SameBut C s'.heap h'→Inv X pins σ H' { s' with heap:=h' })→Inv X pins σ H' s'→s'.heap.Ns C m→(∀ x c,X.env.cells.lookup x=some c→c≠C)→X.env.locals≠C→H' C=none →
   (∀ σ' s'' h',Inv X pins σ' H' s''→Heap.SameBut C s''.heap h'→Inv X pins σ' H' { s'' with heap:=h' })→Q (.ref D) H'→compPost (model X.prog X.w) X.A X.xe use Qv (.ref D) C (.ok .next) s') :
  wpAny (model X.prog X.w) X.A (comprehension (.DictComp kx vx [⟨tg,iter,ifs,0⟩] sc pos) sc X.env (firstIterPos [⟨tg,iter,ifs,0⟩] pos) newDict false (eval iter X.env) use) Qv X.xe s:=by
 obtain ⟨cl,hclos,hcl,hcl2⟩:=Aj2 (env:=X.env) (sc:=sc) fun y hy hf=>I.ok.has y.1 (S.frees y hy hf)
 refine wpAny_comprehension_free rfl hs hclos S.kind S.one (thn (hi pins s σ H _ I h) fun xv s₁ h₁=>thn h₁ fun itv s₂ h₂=>?_)
 obtain ⟨it,fp,tn,J,H₂,e,I₂,T,st₂,f₂,rd⟩:=h₂
 subst e
 refine wpAny_newObj_type (wpAny_newFunctionEnv S.nocell (by intro y hy; simp at hy) (fun h₁ hns hsb=>?_) S.kind)
 dsimp only at hns hsb ⊢
 have hfo:∀ b∈fp,∃ o,s₂.heap.get? b=some o:=fun b hb=>let ⟨o,e,_⟩:=T.obj _ _ st₂ b hb; ⟨o,e⟩
 have hCe:(s₂.heap.push { cls:=.type "dict",dict:=none,data:=.dict #[] }).objs.size=s₂.heap.objs.size + 1:=Heap.size_push ..
 have hk:∀ b o,(s₂.heap.push { cls:=.type "dict",dict:=none,data:=.dict #[] }).get? b=some o→h₁.get? b=some o:=fun b o e=>hsb.extBut b o (Nat.ne_of_lt (Heap.lt_size e)) (Heap.get?_push_of_some _ e)
 have IB:=Akj (tk:=s₂.toks + ([]:List (Str×Value)).length) S I₂ hcl hcl2 f₂ hfo rfl hCe hk hns
 generalize (s₂.heap.push { cls:=.type "dict",dict:=none,data:=.dict #[] }).objs.size=C at hCe hns hsb IB ⊢
 generalize hD:s₂.heap.objs.size=D at IB hCe ⊢
 have hCle:s₂.heap.objs.size≤C:=by rw [hD,hCe]; exact Nat.le_succ _
 obtain ⟨W,⟨m0,w0⟩,turn⟩:=rd D (by rw [← hD]; exact I₂.fresh)
 have fpB:∀ {H':Hp},(∀ b∈fp,H' b=none)→∀ b∈fp,AjX (Aay X N' sc cl C fp pins s₂ H₂) [] H' b:=fun hn b hb=>by
  obtain ⟨z1,z2⟩:=(AiK S I₂ hcl hcl2 hCle f₂ hfo).exf b hb
  exact ⟨hn b hb,z1,(AiK S I₂ hcl hcl2 hCle f₂ hfo).exfs b hb,.inl hb,z2,fun p hp=>(f₂ b hb).2.2.2.2.2 p (by simpa [Aay] using hp)⟩
 have fr0:∀ b∈fp,(upd H₂ D (.dK [])) b=none:=fun b hb=>by
  obtain ⟨o,ho⟩:=hfo b hb
  rw [Aah (by rw [← hD]; exact Nat.ne_of_lt (Heap.lt_size ho))]
  exact (f₂ b hb).1
 have st0:tn 0 h₁:=T.keep _ _ _ st₂ fun b hb o e=>hk b o (Heap.get?_push_of_some _ e)
 have loop:codeAny (model X.prog X.w) X.A (.compLoop (.DictComp kx vx [⟨tg,iter,ifs,0⟩] sc pos) 0 (.ref it) (.ref D) (compEnvC sc cl C X.env)) (compPost (model X.prog X.w) X.A X.xe use Qv (.ref D) C) { s₂ with heap:=h₁,toks:=s₂.toks + ([]:List (Str×Value)).length }:=by
  refine Aki (fun n s'=>∃ i σ' H',Inv (Aay X N' sc cl C fp pins s₂ H₂) [] σ' H' s'∧tn i s'.heap∧(∀ b∈fp,H' b=none)∧W i n σ' H') ?_ m0 ⟨0,_,_,IB,st0,fr0,w0⟩
  rintro n s3 ⟨i,σ3,H3,I3,st3,fr3,w3⟩
  rcases turn i n σ3 H3 w3 with ⟨stop,qn⟩ | ⟨go,N,hN,step⟩
  ·refine thn (T.done (Aay X N' sc cl C fp pins s₂ H₂) rfl rfl rfl hc i [] s3 σ3 H3 _ I3 (fpB fr3) st3 stop) fun r s4 ⟨hr,I4⟩=>?_
   subst hr
   have JX:=AiL I₂ f₂ I4
   obtain ⟨m,hn,_⟩:=I4.loc
   have cn:∀ x c,X.env.cells.lookup x=some c→c≠C:=fun x c e z=>by
    obtain ⟨v,q⟩:=I₂.cell x c e
    exact absurd (Nat.lt_of_lt_of_le q.lt (by rw [z]; exact hCle)) (Nat.lt_irrefl _)
   have gone:∀ σ' s'' h',Inv X pins σ' H3 s''→Heap.SameBut C s''.heap h'→Inv X pins σ' H3 { s'' with heap:=h' }:=fun σ' s'' h' K3 hs3 =>
    K3.turned (t':=s''.toks) (it:=C) (fun b o hb e=>(hs3.2 b hb).trans e) I4.free (Nat.ne_of_gt (Nat.lt_of_lt_of_le I₂.lt hCle)) (.inr (Nat.le_trans I₂.sz hCle)) cn fun p hp z=>by
     exact absurd (Nat.lt_of_lt_of_le (Heap.lt_size (I₂.pin p hp).1) (by rw [z]; exact hCle)) (Nat.lt_irrefl _)
   exact post D C H3 s4 m (fun h' hs'=>gone σ s4 h' JX hs') JX hn cn (Nat.ne_of_lt (Nat.lt_of_lt_of_le I₂.lt hCle)) I4.free gone qn
  ·refine thn (T.item (Aay X N' sc cl C fp pins s₂ H₂) rfl rfl rfl hc i [] s3 σ3 H3 _ I3 (fpB fr3) st3 go) fun r s4 ⟨u,hr,h4⟩=>?_
   subst hr
   refine thn h4 fun _ s5 ⟨x,H5,I5,r5,y5,st5,fr5⟩=>?_
   have I5':=I5.pinned (fpB fr5) (T.obj _ _ st5)
   refine thn (hg cl C fp pins s₂ H₂ _ s5 σ3 H5 x u _ I5' r5 (step x H5 y5)) fun _ s6 ⟨σ6,H6,I6,q6⟩=>?_
   refine thn (ht cl C fp pins s₂ H₂ _ s6 σ6 H6 _ I6 q6) fun ok s7 ⟨H7,I7,q7⟩=>?_
   have again:∀ {H8:Hp} {s8:Shared},Inv (Aay X N' sc cl C fp pins s₂ H₂) ([]++Ahp fp s5.heap) σ6 H8 s8→N σ6 H8→∃ m,m < n∧∃ i σ' H',Inv (Aay X N' sc cl C fp pins s₂ H₂) [] σ' H' s8∧tn i s8.heap∧(∀ b∈fp,H' b=none)∧W i m σ' H':=fun {H8 s8} I8 n8=>by
    obtain ⟨m',hm,w8⟩:=hN σ6 H8 n8
    refine ⟨m',hm,i + 1,σ6,H8,I8.unpinned,T.keep _ _ _ st5 fun b hb o e=>(I8.pin (b,o) (List.mem_append_right _ (List.mem_append_right _ (Acv hb e)))).1,fun b hb=>?_,w8⟩
    obtain ⟨o,e,d⟩:=T.obj _ _ st5 b hb
    exact (I8.pin (b,o) (List.mem_append_right _ (List.mem_append_right _ (Acv hb e)))).2.1
   cases ok with
   | false=>exact again I7 q7
   | true =>
    refine thn (he cl C fp pins s₂ H₂ _ s7 σ6 H7 _ I7 q7) fun y s8 ⟨v,H8,I8,r8,q8⟩=>?_
    refine thn (hv cl C fp pins s₂ H₂ _ s8 σ6 H8 _ I8 q8) fun y' s9 ⟨v',H9,I9,r9,q9⟩=>?_
    obtain ⟨kvs,kk,rfl,hy,few,n9⟩:=q9
    exact AmT (X:=Aay X N' sc cl C fp pins s₂ H₂) I9 hy few r8 r9 fun s10 I10=>again I10 n9
 exact codeAny_compStart_dict loop (T.self _ 0 _ _ _ st0 loop)
theorem Ak2 {kx vx tg iter:Expr} {ifs:List Expr} {sc:Scope} {srcs:List (Option Nat)} {N':List Str} {pos:Pos} {wi:TI} {g:TG} {tt:TT} {te tv:TE} (hc:X.calm=true) (S:Abc sc X.env.scope N' X.N srcs) (hi:PI X tg iter wi)
  (hg:∀ cl C fp pins s₂ H₂,PG (Aay X N' sc cl C fp pins s₂ H₂) tg g) (ht:∀ cl C fp pins s₂ H₂,PTs (Aay X N' sc cl C fp pins s₂ H₂) ifs tt) (he:∀ cl C fp pins s₂ H₂,PE (Aay X N' sc cl C fp pins s₂ H₂) kx te) (hv:∀ cl C fp pins s₂ H₂,PE (Aay X N' sc cl C fp pins s₂ H₂) vx tv)
  (hs:∀ x,foldedSetIterable iter X.env x=pure x:=by intro _; rfl):PE X (.DictComp kx vx [⟨tg,iter,ifs,0⟩] sc pos) (AoI srcs wi g tt te tv):=by
 intro pins s σ H Q I h
 rw [arm_eval_DictComp]
 refine Akk (use:=none) (Q:=Q) hc S hi hg ht he hv hs I h fun D C H' s' m g1 J hn cn ln fr g2 q=>?_
 exact ⟨m,hn,fun h' hs'=>⟨.ref D,H',g1 h' hs',rfl,q⟩⟩
end
end L2
set_option maxHeartbeats 4000000
namespace L2
open PySem PySem.Spec PyProof.Rows
structure Apq (P:Program) (w:World) (K:PySem.W.Frag) (a:Addr) (kvs:List (Key×V)):Prop where
 lo:(a == sysModules)=false
 sz:kvs.length≤sizeLine
 dct:∃ o vs ep,K.lookup a=some o∧KV kvs vs∧∀ h:Heap,h.get? a=some o→h.DictAt (AaH P w) a vs ep
def DAt (P:Program) (w:World) (K:PySem.W.Frag) (H:Hp) (a:Addr) (kvs:List (Key×V)):Prop:=Rd H a (.dK kvs)∨Apq P w K a kvs
theorem DAt.of {P:Program} {w:World} {K:PySem.W.Frag} {H:Hp} {a:Addr} {kvs:List (Key×V)} (h:H a=some (.dK kvs)):DAt P w K H a kvs:=.inl (.inl h)
theorem Apr {P:Program} {w:World} {k:Key} {u:Value} (h:(AaH P w).is k u=true):AbQ (kV k) u:=by
 rw [Ale] at h
 cases k with
 | inl i =>
  show ∃ t,u=Value.int i t
  cases u <;> simp [Ah6,Value.isInt] at h
  rename_i j t
  exact ⟨t,by rw [h]⟩
 | inr x =>
  show ∃ t,u=Value.str x t
  cases u <;> simp [Ah6,Value.isStrOf] at h
  rename_i j t
  exact ⟨t,by rw [h]⟩
section
variable {X:Cx} {pins:List (Addr×Obj)} {σ:St} {H:Hp} {s:Shared} {a:Addr} {kvs:List (Key×V)} {P:Program} {w:World} {K:PySem.W.Frag}
theorem AmU (I:Inv X pins σ H s) (e:DAt X.prog X.w X.K H a kvs):kvs.length≤sizeLine∧(a == sysModules)=false∧∃ vs,KV kvs vs∧s.heap.DictOf (AaH X.prog X.w) a vs:=by
 rcases e with e | e
 ·exact AnT I.hok e
 ·obtain ⟨o,vs,ep,l,r,d⟩:=e.dct
  exact ⟨e.sz,e.lo,vs,r,(d _ (I.bk _ _ (I.mod.kin _ _ l))).dictOf⟩
def Ar8 (P:Program) (w:World) (K:PySem.W.Frag) (neg:Bool):R2:=fun x y H Q=>∃ a kvs k,y=.ref a∧x=kV k∧DAt P w K H a kvs∧Q (.bl (if neg then !(Ag9 kvs k).isSome else (Ag9 kvs k).isSome)) H
theorem AjC (hP:X.prog=P:=by rfl) (hw:X.w=w:=by rfl) (hK:X.K=K:=by rfl):OpR X (compareOp .NotIn) (Ar8 P w K true):=by
 subst hP hw hK
 intro pins s σ H x y v u Q I rx ry h
 obtain ⟨a,kvs,k,rfl,rfl,e,q⟩:=h
 cases (show u=Value.ref a from ry)
 obtain ⟨z,hd,vs,rel,dd⟩:=AmU I e
 refine wpAny_notIn_of (Aj7 rx) hd dd.mapOf ?_
 rw [← (rel.val k).isSome_eq]
 exact ⟨.bl (!(Ag9 kvs k).isSome),H,I.tok _,rfl,q⟩
def Ar9 (P:Program) (w:World) (K:PySem.W.Frag) (td ty:TE):TE:=fun σ H Q=>td σ H fun x H1=>ty σ H1 fun y H2=>∃ a kvs k v,x=.ref a∧y=kV k∧DAt P w K H2 a kvs∧Ag9 kvs k=some v∧Q v H2
theorem Agr {o i:Expr} {pos:Pos} {td ty:TE} (ho:PE X o td) (hi:PE X i ty) (hs:Ark i) (hP:X.prog=P:=by rfl) (hw:X.w=w:=by rfl) (hK:X.K=K:=by rfl):PE X (.Subscript o i pos) (Ar9 P w K td ty):=by
 subst hP hw hK
 intro pins s σ H Q I h
 refine Amz PySem.F.slot_dict_getitem.lookup hs (thn (ho pins s σ H _ I h) fun u s1 ⟨x,H1,I1,rx,q1⟩=>thn (hi pins s1 σ H1 _ I1 q1) fun iv s2 ⟨y,H2,I2,ry,a,kvs,k,v,ex,ey,g,l,q2⟩=>?_)
 subst ex ey
 obtain rfl:u=Value.ref a:=rx
 obtain ⟨z,hd,vs,rel,dd⟩:=AmU I2 g
 obtain ⟨w',hw,rw'⟩:=Ai9.some_of (v:=v) (o:=valueAt vs k) (by rw [← l]; exact rel.val k)
 exact ⟨dd.typeIs,wpAny_getItem_of (Aj7 ry) dd.mapOf hw ⟨v,H2,I2.tok _,rw',q2⟩⟩
end
section
variable {K:PySem.W.Frag} {D:Addr} {kvs:List (Key×V)} {g:TG} {tt:TT} {tk tv:TE} {σ0:St} {H:Hp} {Q:Hp→Prop} {a:Addr} {xs:List V}
abbrev Aqu (D:Addr) (tt:TT) (tk tv:TE) (N:St→Hp→Prop):St→Hp→Prop:=fun σ3 H3=>tt σ3 H3 fun b H4 =>
 if b=true then tk σ3 H4 fun k H5=>tv σ3 H5 fun v H6=>∃ kvs kk,k=kV kk∧H6 D=some (.dK kvs)∧kvs.length < sizeLine∧N σ3 (upd H6 D (.dK (AfX kvs kk v))) else N σ3 H4
end
end L2
set_option maxHeartbeats 4000000
namespace L2
open PySem PySem.Spec PyProof.Rows Builtin Builtin.Str
section
variable {X:Cx}
end
end L2
namespace L2
open PySem PySem.Spec PyProof.Rows
section
variable {K:PySem.W.Frag} {a D:Addr} {xs:List V} {g:TG} {tt:TT} {te:TE} {σ0:St} {H:Hp} {Q:Hp→Prop}
end
end L2
set_option maxHeartbeats 4000000
namespace L2
open PySem PySem.Spec PyProof.Rows
section
variable {prog:Program} {w:World} {A:Around} {E:Value→Shared→Prop} {s:Shared}
theorem Aps {j t:Addr} {i:Nat} {its:Array Value} {x:Value} {Q:Value→Shared→Prop} (hj:s.heap.IsTupleIter j t i) (ht:s.heap.IsTuple t its) (hx:its[i]?=some x)
  (q:∀ g,g.IsTupleIter j t (i + 1)→Heap.SameBut j s.heap g→Q x { s with heap:=g }):wpAny (model prog w) A (Builtin.SmallTypes.nextOf (.ref j)) Q E s:=by
 obtain ⟨o,e1,e2,e3⟩:=id hj
 obtain ⟨u,f1,_,n,f3⟩:=ht
 unfold Builtin.SmallTypes.nextOf
 refine wpAny_bind (wpAny_callSpecial?_slot (name:=Str.ofString "__next__") hj.typeIs F.slot_tuple_iterator_next (wpAny_call_entry F.slot_tuple_iterator_next hj.typeIs F.entry_tuple_iterator_next ?_ (F.args_tuple_iterator_next_1 _)))
 show wpAny _ _ (field (.ref j) 0 >>= _) _ _ s
 refine wpAny_bind (wpAny_field e1 e3 (x:=.ref t) rfl ?_)
 show wpAny _ _ (if (Value.ref t == Value.none)=true then _ else _) _ _ s
 rw [if_neg (show ¬ ((Value.ref t == Value.none)=true) from Bool.false_ne_true)]
 show wpAny _ _ (field (.ref j) 1 >>= _) _ _ s
 refine wpAny_bind (wpAny_field e1 e3 (x:=.int i 0) rfl ?_)
 show wpAny _ _ (seqItems? (.ref t) >>= _) _ _ s
 refine wpAny_bind (wpAny_seqItems f1 f3 ?_)
 simp only [Int.toNat_natCast,hx]
 refine wpAny_bind (wpAny_setField e1 e3 (by simp) (wpAny_pure ⟨x,rfl,wpAny_pure (q _ ⟨_,Heap.get?_update_self _ e1 (Obj.isFreed_of_fields (Obj.data_mapFields e3 _)),(Obj.cls_mapFields ..).trans e2,?_⟩ (Heap.SameBut.update ..))⟩))
 rw [Obj.data_mapFields e3]; simp [rawInt]
theorem Akl {j t:Addr} {i:Nat} {its:Array Value} {Q:Value→Shared→Prop} (hh:A.handled=none) (hj:s.heap.IsTupleIter j t i) (ht:s.heap.IsTuple t its) (hx:its[i]?=none)
  (q:∀ g e,Heap.ExtBut j s.heap g→(∃ o,g.get? e=some o∧o.cls=.type "StopIteration")→E (.ref e) { s with heap:=g }):wpAny (model prog w) A (Builtin.SmallTypes.nextOf (.ref j)) Q E s:=by
 obtain ⟨o,e1,e2,e3⟩:=id hj
 obtain ⟨u,f1,_,n,f3⟩:=ht
 unfold Builtin.SmallTypes.nextOf
 refine wpAny_bind (wpAny_callSpecial?_slot (name:=Str.ofString "__next__") hj.typeIs F.slot_tuple_iterator_next (wpAny_call_entry F.slot_tuple_iterator_next hj.typeIs F.entry_tuple_iterator_next ?_ (F.args_tuple_iterator_next_1 _)))
 show wpAny _ _ (field (.ref j) 0 >>= _) _ _ s
 refine wpAny_bind (wpAny_field e1 e3 (x:=.ref t) rfl ?_)
 show wpAny _ _ (if (Value.ref t == Value.none)=true then _ else _) _ _ s
 rw [if_neg (show ¬ ((Value.ref t == Value.none)=true) from Bool.false_ne_true)]
 show wpAny _ _ (field (.ref j) 1 >>= _) _ _ s
 refine wpAny_bind (wpAny_field e1 e3 (x:=.int i 0) rfl ?_)
 show wpAny _ _ (seqItems? (.ref t) >>= _) _ _ s
 refine wpAny_bind (wpAny_seqItems f1 f3 ?_)
 simp only [Int.toNat_natCast,hx]
 refine wpAny_bind (wpAny_rule (wpAny_bind (wpAny_setField e1 e3 (by simp) ?_)))
 show wpAny _ _ (newExc (.type "StopIteration") [] >>= _) _ _ _
 refine wpAny_bind ?_
 simp only [newExc,newTuple]
 refine wpAny_bind (wpAny_newObj_type ?_ (by size_fits))
 refine wpAny_bind (m:=firstArgMember _ _) (wpAny_of_eq (a:=Value.none) (by first | rfl | (simp only [firstArgMember]; rfl)) ?_)
 refine wpAny_newObj_type ?_ (by size_fits)
 simp only [raiseNew]
 refine wpAny_bind (wpAny_handled ?_)
 first | rw [show A.in1.handled=none from hh] | rw [hh]
 refine wpAny_bind (wpAny_pure (wpAny_throw ?_))
 exact q _ _ (((Heap.SameBut.update ..).extBut.push _).push _) ⟨_,Heap.get?_push_size _ rfl,rfl⟩
theorem Alz {e j t:Addr} {i:Nat} {its:Array Value} {x old:Value} {Q:Value→Shared→Prop} (he:IsEnum s.heap e j i old) (hj:s.heap.IsTupleIter j t i) (ht:s.heap.IsTuple t its) (hx:its[i]?=some x) (ne:e≠j)
  (q:∀ g,IsEnumOut g e j ((i:Int) + 1) x s.heap.objs.size→g.IsTupleIter j t (i + 1)→g.get? s.heap.objs.size=some { cls:=.type "tuple",data:=.seq #[.int i s.toks,x] }→g.objs.size=s.heap.objs.size + 1 →
   (∀ b o,b≠e→b≠j→s.heap.get? b=some o→g.get? b=some o)→Q (.ref s.heap.objs.size) { s with heap:=g,toks:=s.toks + 1 }) :
  wpAny (model prog w) A (Builtin.«enumerate.__next__» ⟨[.ref e],[]⟩) (fun fin s'=>∃ v,fin=.done (.ret v)∧Q v s') E s:=by
 obtain ⟨hp,gg,dd,tk,os⟩:=s
 show wpAny _ _ (field (.ref e) 2 >>= _) _ _ _
 refine wpAny_bind (wpAny_field he rfl (x:=.ref j) rfl (wpAny_bind (Aps hj ht hx fun a1 j1 s1=>?_)))
 replace s1:Heap.SameBut j hp a1:=s1
 have E1:IsEnum a1 e j i old:=(s1.2 e ne).trans he
 show wpAny _ _ (field (.ref e) 3 >>= _) _ _ ⟨a1,gg,dd,tk,os⟩
 refine wpAny_bind (wpAny_field E1 rfl (x:=rawInt i) rfl ?_)
 show wpAny _ _ (field (.ref e) 4 >>= _) _ _ ⟨a1,gg,dd,tk,os⟩
 refine wpAny_bind (wpAny_field E1 rfl (x:=.none) rfl ?_)
 show wpAny _ _ (mkInt i >>= _) _ _ ⟨a1,gg,dd,tk,os⟩
 refine wpAny_bind (wpAny_mkInt ?_)
 show wpAny _ _ (setField (.ref e) 3 (rawInt ((i:Int) + 1)) >>= _) _ _ ⟨a1,gg,dd,tk + 1,os⟩
 refine wpAny_bind (wpAny_setField_rec E1 (by simp) fun a2 E2 s2=>?_)
 replace s2:Heap.SameBut e a1 a2:=s2
 replace E2:IsEnum a2 e j ((i:Int) + 1) old:=E2
 show wpAny _ _ (setField (.ref e) 4 .none >>= _) _ _ ⟨a2,gg,dd,tk + 1,os⟩
 refine wpAny_bind (wpAny_setField_rec E2 (by simp) fun a3 E3 s3=>?_)
 replace s3:Heap.SameBut e a2 a3:=s3
 replace E3:IsEnum a3 e j ((i:Int) + 1) old:=E3
 show wpAny _ _ (newTuple [.int i tk,x] >>= _) _ _ ⟨a3,gg,dd,tk + 1,os⟩
 refine wpAny_bind (wpAny_newTuple ?_)
 have E4:IsEnum (a3.push { cls:=.type "tuple",data:=.seq #[.int i tk,x] }) e j ((i:Int) + 1) old:=Heap.get?_push_of_some _ E3
 generalize e4:a3.push { cls:=.type "tuple",data:=.seq #[.int i tk,x] }=a4 at E4
 have z3:a3.objs.size=hp.objs.size:=by rw [s3.1,s2.1,s1.1]
 have le:e < hp.objs.size:=Heap.lt_size he
 have T4:a4.get? hp.objs.size=some { cls:=.type "tuple",data:=.seq #[.int i tk,x] }:=by rw [← e4,← z3]; exact Heap.get?_push_size _ rfl
 have z4:a4.objs.size=hp.objs.size + 1:=by rw [← e4,Heap.size_push,z3]
 have k4:∀ b o,b≠e→b≠j→hp.get? b=some o→a4.get? b=some o:=fun b o n1 n2 hb=>by
  rw [← e4]; exact Heap.get?_push_of_some _ (s3.extBut b o n1 (s2.extBut b o n1 (s1.extBut b o n2 hb)))
 have j4:a4.IsTupleIter j t (i + 1):=by
  rw [← e4]; obtain ⟨o,ho,r⟩:=(j1.extBut s2.extBut (Ne.symm ne)).extBut s3.extBut (Ne.symm ne); exact ⟨o,Heap.get?_push_of_some _ ho,r⟩
 show wpAny _ _ (Builtin.SmallTypes.ownedTupleIsFree (.ref e) >>= _) _ _ ⟨a4,gg,dd,tk + 1,os⟩
 rw [z3]
 clear e4 E3 s3 E2 s2 E1 s1 j1 z3 a3 a2 a1
 refine wpAny_bind ?_
 unfold Builtin.SmallTypes.ownedTupleIsFree
 refine wpAny_bind (wpAny_field E4 rfl (x:=.none) rfl (wpAny_pure ?_))
 simp only [if_true]
 refine wpAny_bind (wpAny_rule (wpAny_bind (wpAny_field E4 rfl (x:=old) rfl (wpAny_bind (wpAny_setField_rec E4 (by simp) fun a5 E5 s5=>?_)))))
 replace s5:Heap.SameBut e a4 a5:=s5
 replace E5:IsEnum a5 e j ((i:Int) + 1) x:=E5
 show wpAny _ _ (Builtin.SmallTypes.ownedTupleHandOut (.ref e) (.ref hp.objs.size) >>= _) _ _ ⟨a5,gg,dd,tk + 1,os⟩
 refine wpAny_bind ?_
 unfold Builtin.SmallTypes.ownedTupleHandOut
 refine wpAny_bind (wpAny_setField_rec E5 (by simp) fun a6 E6 s6=>?_)
 replace s6:Heap.SameBut e a5 a6:=s6
 replace E6:IsEnumOut a6 e j ((i:Int) + 1) x hp.objs.size:=E6
 refine wpAny_setField_rec E6 (by simp) fun a7 E7 s7=>?_
 replace s7:Heap.SameBut e a6 a7:=s7
 replace E7:IsEnumOut a7 e j ((i:Int) + 1) x hp.objs.size:=E7
 refine wpAny_bind (wpAny_letGo (wpAny_pure ⟨_,rfl,q a7 E7 ?_ ?_ ?_ ?_⟩))
 ·exact ((j4.extBut s5.extBut (Ne.symm ne)).extBut s6.extBut (Ne.symm ne)).extBut s7.extBut (Ne.symm ne)
 ·exact s7.extBut _ _ (Nat.ne_of_gt le) (s6.extBut _ _ (Nat.ne_of_gt le) (s5.extBut _ _ (Nat.ne_of_gt le) T4))
 ·rw [s7.1,s6.1,s5.1,z4]
 ·exact fun b o n1 n2 hb=>s7.extBut b o n1 (s6.extBut b o n1 (s5.extBut b o n1 (k4 b o n1 n2 hb)))
theorem AlA {e j t:Addr} {i:Nat} {its:Array Value} {x old:Value} {Q:Option Value→Shared→Prop} (he:IsEnum s.heap e j i old) (hj:s.heap.IsTupleIter j t i) (ht:s.heap.IsTuple t its) (hx:its[i]?=some x) (ne:e≠j)
  (q:∀ g,IsEnumOut g e j ((i:Int) + 1) x s.heap.objs.size→g.IsTupleIter j t (i + 1)→g.get? s.heap.objs.size=some { cls:=.type "tuple",data:=.seq #[.int i s.toks,x] }→g.objs.size=s.heap.objs.size + 1 →
   (∀ b o,b≠e→b≠j→s.heap.get? b=some o→g.get? b=some o)→Q (some (.ref s.heap.objs.size)) { s with heap:=g,toks:=s.toks + 1 }):wpAny (model prog w) A (pyNext (.ref e)) Q E s:=by
 have ty:s.TypeIs (.ref e) "enumerate":=⟨_,he,rfl⟩
 unfold pyNext
 exact wpAny_bind (wpAny_attempt (wpAny_callSpecial?_slot (name:=Str.ofString "__next__") ty F.slot_enumerate_next (wpAny_call_entry F.slot_enumerate_next ty F.entry_enumerate_next (Alz he hj ht hx ne fun g a b c d k=>wpAny_pure (q g a b c d k)) (F.args_enumerate_next_1 _))))
theorem AmV {e j t:Addr} {i:Nat} {its:Array Value} {old:Value} {Q:Option Value→Shared→Prop} (hh:A.handled=none) (he:IsEnum s.heap e j i old) (hj:s.heap.IsTupleIter j t i) (ht:s.heap.IsTuple t its) (hx:its[i]?=none)
  (q:∀ g,Heap.ExtBut j s.heap g→Q none { s with heap:=g }):wpAny (model prog w) A (pyNext (.ref e)) Q E s:=by
 have ty:s.TypeIs (.ref e) "enumerate":=⟨_,he,rfl⟩
 unfold pyNext
 refine wpAny_bind (wpAny_attempt (wpAny_callSpecial?_slot (name:=Str.ofString "__next__") ty F.slot_enumerate_next (wpAny_call_entry F.slot_enumerate_next ty F.entry_enumerate_next ?_ (F.args_enumerate_next_1 _))))
 show wpAny _ _ (field (.ref e) 2 >>= _) _ _ _
 refine wpAny_bind (wpAny_field he rfl (x:=.ref j) rfl (wpAny_bind (Akl hh hj ht hx fun g y eb ⟨o,ho,hc⟩=>?_)))
 exact wpAny_bind (wpAny_isInstance (T:="StopIteration") (b:=true) ⟨o,ho,hc⟩ isSubtype_stop (wpAny_pure (q _ eb)))
end
theorem AmW (t:Addr) (its:Array Value) (o:Obj) (hc:o.cls=.type "tuple") (n:Nat) (hd:o.data=.seq its n) :
  Meets (Builtin.«enumerate.__new__» ⟨[.type "enumerate",.ref t],[]⟩) (fun _ R s=>s.heap.get? t=some o ∧
   R (.ok (.ret (.ref (s.heap.push { cls:=.type "tuple_iterator",data:=.fields #[.ref t,.int 0 0] }).objs.size)))
    { s with heap:=(s.heap.push { cls:=.type "tuple_iterator",data:=.fields #[.ref t,.int 0 0] }).push { cls:=.type "enumerate",data:=.fields #[.none,.bool false,.ref s.heap.objs.size,rawInt 0,.none,.none] } }) :=
 .of_wp fun prog w A R s h=>by
  obtain ⟨c,dct,dt,sl⟩:=o
  replace hc:c=.type "tuple":=hc
  replace hd:dt=.seq its n:=hd
  subst hc hd
  obtain ⟨hp,gg,dd,tk,os⟩:=s
  obtain ⟨hl,h⟩:=h
  have hsub:=sub_enumerate
  have hT:Heap.IsTuple (Shared.heap ⟨hp,gg,dd,tk,os⟩) t its:=⟨_,hl,rfl,n,rfl⟩
  wp_walk using AutoSeq1.wpAny_loadPart' hl
  refine wpAny_stack_any fun st=>wpAny_pure ?_
  split
  ·rename_i c _ _ _ _ _
   cases (c == Value.type "enumerate") <;> (wp_walk using AutoSeq1.wpAny_loadPart' hl,wpAny_pyIter_tuple hT; exact ⟨_,rfl,h⟩)
  ·wp_walk using AutoSeq1.wpAny_loadPart' hl,wpAny_pyIter_tuple hT
   exact ⟨_,rfl,h⟩
end L2
set_option maxHeartbeats 4000000
namespace L2
open PySem PySem.Spec PyProof.Rows
section
variable {prog:Program} {w:World} {A:Around} {E:Value→Shared→Prop} {s:Shared}
theorem AlB {t:Addr} {its:Array Value} {Q:Value→Shared→Prop} (hT:s.heap.IsTuple t its)
  (h:∀ g,IsEnum g (s.heap.objs.size + 1) s.heap.objs.size 0 .none→g.IsTupleIter s.heap.objs.size t 0→g.objs.size=s.heap.objs.size + 2→(∀ b o,s.heap.get? b=some o→g.get? b=some o)→Q (.ref (s.heap.objs.size + 1)) { s with heap:=g }) :
  wpAny (model prog w) A (call (.type "enumerate") [.ref t]) Q E s:=by
 obtain ⟨o,ho,hc,n,hd⟩:=hT
 refine callType_new F.called_enumerate (by decide) (F.typeCall_enumerate_1 _) (F.newCall_enumerate_1 _) (fun obj=>F.args_object_init_2 obj _) F.entry_enumerate_new (AmW t its o hc n hd) ⟨ho,?_⟩
 have z1:(s.heap.push { cls:=.type "tuple_iterator",data:=.fields #[.ref t,.int 0 0] }).objs.size=s.heap.objs.size + 1:=Heap.size_push ..
 show _∧_
 rw [z1]
 have he:IsEnum ((s.heap.push { cls:=.type "tuple_iterator",data:=.fields #[.ref t,.int 0 0] }).push { cls:=.type "enumerate",data:=.fields #[.none,.bool false,.ref s.heap.objs.size,rawInt 0,.none,.none] }) (s.heap.objs.size + 1) s.heap.objs.size 0 .none:=by
  have:=Heap.get?_push_size (s.heap.push { cls:=.type "tuple_iterator",data:=.fields #[.ref t,.int 0 0] }) (o:={ cls:=.type "enumerate",data:=.fields #[.none,.bool false,.ref s.heap.objs.size,rawInt 0,.none,.none] }) rfl
  rw [z1] at this; exact this
 exact ⟨⟨_,he,rfl⟩,h _ he ⟨_,Heap.get?_push_of_some _ (Heap.get?_push_size _ rfl),rfl,rfl⟩ (by rw [Heap.size_push,z1]) fun b o x=>Heap.get?_push_of_some _ (Heap.get?_push_of_some _ x)⟩
end
section
variable {X:Cx} {pins:List (Addr×Obj)} {σ:St} {H:Hp} {s:Shared} {h':Heap}
def Aqv (K:PySem.W.Frag) (a:Addr):It :=
 ⟨fun i H=>∃ xs x,SqT K H a xs∧xs[i]?=some x,fun i H x H'=>∃ t y,x=.ref t∧H t=none∧H'=upd H t (.tup [.int i,y])∧∀ xs,SqT K H a xs→xs[i]?=some y,fun i H=>∃ xs,SqT K H a xs∧xs.length≤i⟩
theorem AlC {P:Program} {w:World} {K:PySem.W.Frag} {elts:List Expr} {kk:Nat} {pos:Pos} (a e it:Addr) (hei:e≠it):AoR P w K (.Tuple elts kk pos) (Aqv K a) [e,it] e (fun i h=>(∃ old,IsEnum h e it i old)∧h.IsTupleIter it a i) where
 mem:=by simp
 obj:=fun i h st b hb=>by
  obtain ⟨⟨old,he⟩,⟨o,ho,c,d⟩⟩:=st
  rcases List.mem_cons.mp hb with z | z
  ·subst z; exact ⟨_,he,fun v z=>by cases z⟩
  ·have z:b=it:=by simpa using z
   subst z; exact ⟨o,ho,fun v z=>by rw [d] at z; cases z⟩
 keep:=fun i h h' st k=>by
  obtain ⟨⟨old,he⟩,hi⟩:=st
  exact ⟨⟨old,k e (by simp) _ he⟩,hi.at fun o q=>k it (by simp) o q⟩
 item:=by
  intro X hP hw hK hc i pins s σ H E I hf st hg
  subst hP hw hK
  obtain ⟨xs,x,hq,hx⟩:=hg
  obtain ⟨its,rv,p,hz⟩:=I.tuple hq
  obtain ⟨u,hu,ru⟩:=rv.get hx
  obtain ⟨⟨old,he⟩,hit⟩:=st
  refine AlA he hit p (x:=u) (by simpa using hu) hei fun h' ho hit' hT hsz hk=>⟨_,rfl,?_⟩
  have I1:Inv X pins σ (upd H s.heap.objs.size (.tup [.int i,x])) { s with heap:=h',toks:=s.toks + 1 } :=
   I.turnedT (ch:=[e,it]) (us:=[.int i s.toks,u]) hf (fun b o hb q=>hk b o (fun z=>hb (by simp [z])) (fun z=>hb (by simp [z])) q) (Nat.le_refl _)
    (fun b hb=>by
     rcases List.mem_cons.mp hb with z | z
     ·subst z; exact ⟨_,he⟩
     ·have z:b=it:=by simpa using z
      subst z; obtain ⟨o,q,_⟩:=hit; exact ⟨o,q⟩) hT (.cons ⟨_,rfl⟩ (.cons ru .nil)) (by show 2≤sizeLine; decide)
  have fr:∀ b∈[e,it],(upd H s.heap.objs.size (.tup [.int i,x])) b=none:=fun b hb=>by
   have hlt:b < s.heap.objs.size:=by
    rcases List.mem_cons.mp hb with z | z
    ·subst z; exact Heap.lt_size he
    ·have z:b=it:=by simpa using z
     subst z; obtain ⟨o,q,_⟩:=hit; exact Heap.lt_size q
   rw [Aah (Nat.ne_of_lt hlt)]; exact (hf b hb).1
  refine wpAny_letOwnedTupleGo_enum ho fun h2 he2 hs2=>?_
  obtain ⟨f0,f1,f2,f3,f4,f5⟩:=hf e (by simp)
  have I2:Inv X pins σ (upd H s.heap.objs.size (.tup [.int i,x])) { s with heap:=h2,toks:=s.toks + 1 }:=I1.turned (t':=s.toks + 1) (fun b o hb q=>(hs2.2 b hb).trans q) (fr e (by simp)) f1 f3 f4 f5
  refine ⟨.ref s.heap.objs.size,_,I2,rfl,⟨_,x,rfl,I.fresh,rfl,fun ys hy=>by rw [I.tuple_inj hy hq]; exact hx⟩,⟨⟨u,he2⟩,?_⟩,fr⟩
  exact hit'.at fun o q=>(hs2.2 it hei.symm).trans q
 done:=by
  intro X hP hw hK hc i pins s σ H E I hf st hg
  subst hP hw hK
  obtain ⟨xs,hq,hx⟩:=hg
  obtain ⟨its,rv,p,hz⟩:=I.tuple hq
  obtain ⟨⟨old,he⟩,hit⟩:=st
  obtain ⟨f0,f1,f2,f3,f4,f5⟩:=hf it (by simp)
  have hl:=rv.length
  exact AmV (I.ok.hd hc) he hit p (by simp; omega) fun h' eb=>⟨rfl,I.turned (t':=s.toks) (fun b o hb q=>eb b o hb q) f0 f1 f3 f4 f5⟩
 self:=fun _ _ _ _ _ st h=>by
  obtain ⟨⟨old,he⟩,_⟩:=st
  exact wpAny_pyIter_enum he h
def Arp (K:PySem.W.Frag) (ta:TA):TI:=fun σ H R=>ta σ H fun vs H1=>∃ a xs,vs=[.ref a]∧SqT K H1 a xs∧R (Aqv K a) H1
theorem An4 {x:Expr} {ta:TA} {p pos tp:Pos} {elts:List Expr} {kk:Nat} (g:Gm X.env.scope "enumerate") (hm:X.mg "enumerate"=none) (ha:PA X [x] ta) (hs:starEach [x] X.env=[(false,eval x X.env)]:=by rfl) :
  PI X (.Tuple elts kk tp) (.Call (.Name "enumerate" p) [x] [] pos) (Arp X.K ta):=by
 intro pins s σ H R I h
 refine Call_ (Aib I g.gl hm AgZ (PyProof.Rows.callWith_type1 (thn (ha pos pins s σ H _ I h) fun us s1 ⟨vs,H1,I1,r1,q1⟩=>?_) hs rfl))
 obtain ⟨a,xs,e,hq,q⟩:=q1
 subst e
 cases r1 with
 | cons r rr =>
  cases rr
  cases r
  obtain ⟨its,rv,pl,hz⟩:=I1.tuple hq
  refine AlB pl fun h' he hit hsz hk=>?_
  refine wpAny_pyIter_enum he ?_
  have fresh2:H1 (s1.heap.objs.size + 1)=none:=I1.hok.fresh (Nat.le_succ _)
  refine ⟨s1.heap.objs.size + 1,[s1.heap.objs.size + 1,s1.heap.objs.size],_,_,H1,rfl,I1.kept (t':=s1.toks) hk,AlC a _ _ (Nat.succ_ne_self _),⟨⟨_,he⟩,hit⟩,fun b hb=>?_,q⟩
  rcases List.mem_cons.mp hb with z | z
  ·subst z; exact I1.fpOk (Nat.le_succ _) fresh2
  ·have z:b=s1.heap.objs.size:=by simpa using z
   subst z; exact I1.fpOk (Nat.le_refl _) I1.fresh
end
section
variable {K:PySem.W.Frag} {a D:Addr} {xs:List V} {g:TG} {tt:TT} {tk tv:TE} {σ0:St} {H:Hp} {Q:Hp→Prop}
theorem Akm (Pv:Nat→St→Hp→Prop) (h0:Pv 0 σ0 (upd H D (.dK []))) (hl:∀ i σ H,i≤xs.length→Pv i σ H→SqT K H a xs)
  (hs:∀ i x t σ H',xs[i]?=some x→Pv i σ H'→H' t=none→g (.ref t) σ (upd H' t (.tup [.int i,x])) (Aqu D tt tk tv (Pv (i + 1)))) (hd:∀ σ H',Pv xs.length σ H'→Q H') :
  ∃ W:Nat→Nat→St→Hp→Prop,(∃ m,W 0 m σ0 (upd H D (.dK [])))∧∀ i m σ' H',W i m σ' H' →
   ((Aqv K a).stop i H'∧Q H')∨((Aqv K a).go i H'∧∃ N:St→Hp→Prop,(∀ σ2 H2,N σ2 H2→∃ m',m' < m∧W (i + 1) m' σ2 H2)∧∀ x H2,(Aqv K a).yld i H' x H2→g x σ' H2 fun σ3 H3=>tt σ3 H3 fun b H4 =>
    if b=true then tk σ3 H4 fun k H5=>tv σ3 H5 fun v H6=>∃ kvs kk,k=kV kk∧H6 D=some (.dK kvs)∧kvs.length < sizeLine∧N σ3 (upd H6 D (.dK (AfX kvs kk v))) else N σ3 H4):=by
 refine ⟨fun i m σ H=>m=xs.length - i∧i≤xs.length∧Pv i σ H,⟨xs.length,by simp,Nat.zero_le _,h0⟩,?_⟩
 rintro i m σ H1 ⟨rfl,hi,p⟩
 have q:=hl i σ H1 hi p
 by_cases hlt:i < xs.length
 ·refine .inr ⟨⟨xs,xs[i],q,by simp [hlt]⟩,Pv (i + 1),fun σ' H' p'=>⟨xs.length - (i + 1),by omega,rfl,hlt,p'⟩,fun x H' y=>?_⟩
  obtain ⟨t,y,rfl,ht,rfl,hy⟩:=y
  exact hs i y t σ H1 (hy xs q) p ht
 ·have e:i=xs.length:=by omega
  subst e
  exact .inl ⟨⟨xs,q,Nat.le_refl _⟩,hd σ H1 p⟩
theorem AmX (Pv:Nat→St→Hp→Prop) (h0:Pv 0 σ0 (upd H D (.dK []))) (hl:∀ i σ H,i≤xs.length→Pv i σ H→SqT K H a xs)
  (hs:∀ i x σ H',xs[i]?=some x→Pv i σ H'→g x σ H' (Aqu D tt tk tv (Pv (i + 1)))) (hd:∀ σ H',Pv xs.length σ H'→Q H') :
  ∃ W:Nat→Nat→St→Hp→Prop,(∃ m,W 0 m σ0 (upd H D (.dK [])))∧∀ i m σ' H',W i m σ' H' →
   ((Itt K a).stop i H'∧Q H')∨((Itt K a).go i H'∧∃ N:St→Hp→Prop,(∀ σ2 H2,N σ2 H2→∃ m',m' < m∧W (i + 1) m' σ2 H2)∧∀ x H2,(Itt K a).yld i H' x H2→g x σ' H2 fun σ3 H3=>tt σ3 H3 fun b H4 =>
    if b=true then tk σ3 H4 fun k H5=>tv σ3 H5 fun v H6=>∃ kvs kk,k=kV kk∧H6 D=some (.dK kvs)∧kvs.length < sizeLine∧N σ3 (upd H6 D (.dK (AfX kvs kk v))) else N σ3 H4):=by
 refine ⟨fun i m σ H=>m=xs.length - i∧i≤xs.length∧Pv i σ H,⟨xs.length,by simp,Nat.zero_le _,h0⟩,?_⟩
 rintro i m σ H1 ⟨rfl,hi,p⟩
 have q:=hl i σ H1 hi p
 by_cases hlt:i < xs.length
 ·refine .inr ⟨⟨xs,xs[i],q,by simp [hlt]⟩,Pv (i + 1),fun σ' H' p'=>⟨xs.length - (i + 1),by omega,rfl,hlt,p'⟩,fun x H' y=>?_⟩
  obtain ⟨rfl,hy⟩:=y
  exact hs i x σ _ (hy xs q) p
 ·have e:i=xs.length:=by omega
  subst e
  exact .inl ⟨⟨xs,q,Nat.le_refl _⟩,hd σ H1 p⟩
end
end L2
namespace L2
open PySem PySem.Spec PyProof.Rows
def Ak3 (P:Params):List DictEntry→List (Str×V)→Prop
 | [],[]=>True
 | e :: r,p :: kvs=>(∃ t,e.key=.str p.1 t)∧e.hash=PyData.keyHash P p.1∧AbQ p.2 e.val∧Ak3 P r kvs
 | _,_=>False
theorem Aio {P:Program} {w:World}:∀ {es:List DictEntry} {kvs:List (Str×V)},Ak3 w.params es kvs→∃ vs:List (Key×Value),KV (kvs.map fun p=>(Sum.inr p.1,p.2)) vs∧Pairs (AaH P w) es vs∧∀ e∈es,∃ k,(AaH P w).is k e.key=true∧e.hash=(AaH P w).hash k
 | [],[],_=>⟨[],.nil,.nil,fun e m=>absurd m (by simp)⟩
 | [],_ :: _,h=>h.elim
 | _ :: _,[],h=>h.elim
 | e :: es,p :: kvs,h=>by
  obtain ⟨⟨t,e1⟩,e2,e3,e4⟩:=h
  obtain ⟨vs,r,q,m⟩:=Aio (P:=P) e4
  have k1:(AaH P w).is (.inr p.1) e.key=true:=by rw [e1]; exact Ac1 P w p.1 t
  refine ⟨(.inr p.1,e.val) :: vs,.cons ⟨rfl,e3⟩ r,.cons k1 rfl q,fun x hx=>?_⟩
  rcases List.mem_cons.mp hx with z | z
  ·exact ⟨.inr p.1,by rw [z]; exact k1,by rw [z]; exact e2⟩
  ·exact m x z
theorem An5 {P:Program} {w:World} {K:PySem.W.Frag} {a:Addr} {es:Array DictEntry} {n:Nat} {kvs:List (Str×V)} (lo:(a == sysModules)=false) (l:K.lookup a=some ⟨.type "dict",none,.dict es n,#[]⟩) (h:Ak3 w.params es.toList kvs) (nd:(kvs.map (·.1)).Nodup) (sz:kvs.length≤1000) :
  Apq P w K a (kvs.map fun p=>(Sum.inr p.1,p.2)):=by
 obtain ⟨vs,r,q,m⟩:=Aio (P:=P) h
 refine ⟨lo,by rw [List.length_map,sizeLine_eq]; omega,_,vs,n,l,r,fun hp hg=>⟨_,es,hg,⟨rfl,rfl,rfl⟩,rfl,fun e he=>m e (Array.mem_toList_iff.mpr he),q,?_⟩⟩
 rw [← r.keys,List.map_map]
 have:(kvs.map ((·.1)∘fun p:Str×V=>((Sum.inr p.1:Key),p.2)))=(kvs.map (·.1)).map (Sum.inr:Str→Key):=by rw [List.map_map]; rfl
 rw [this]
 exact List.pairwise_map.mpr (nd.imp fun h z=>h (Sum.inr.inj z))
end L2
set_option maxHeartbeats 4000000
namespace L2
open PySem PySem.Spec PyProof.Rows
theorem Ak4:∀ {xs:List V} {us:List Value},us.length=xs.length→(∀ (j:Nat) (v:Value) (x:V),us[j]?=some v→xs[j]?=some x→AbQ x v)→Aba xs us
 | [],[],_,_=>.nil
 | [],_ :: _,h,_=>by simp at h
 | _ :: _,[],h,_=>by simp at h
 | x :: xs,u :: us,h,f=>.cons (f 0 u x rfl rfl) (Ak4 (by simpa using h) fun j v y hv hy=>f (j + 1) v y (by simpa using hv) (by simpa using hy))
section
variable {X:Cx}
theorem AlD (hc:X.calm=true):AcA X (.type "list") (fun xs H Q=>∃ p kvs,xs=[.ref p]∧DAt X.prog X.w X.K H p kvs∧∀ l,H l=none→Q (.ref l) (upd H l (.lst (kvs.map fun kv=>kV kv.1)))):=by
 intro pins s σ H xs us Q I r h
 obtain ⟨p,kvs,rfl,hp,q⟩:=h
 obtain ⟨u,rfl,rx⟩:=Af3 r
 cases rx
 obtain ⟨hz,lo,vs,rel,dd⟩:=AmU I hp
 obtain ⟨o,es,ep,r⟩:=dd
 have da:s.heap.DictAt (AaH X.prog X.w) p vs ep:=⟨o,es,r⟩
 have hl:=rel.length
 refine PySem.W.kdl_call (PySem.W.kdl_dict (kvs:=vs) (ep:=ep) lo) (I.ok.hd hc) da (by omega) fun h' tk acc c hk hs ha=>?_
 refine ⟨.ref s.heap.objs.size,_,I.laid (t':=tk) hk (Nat.le_refl _) (show AbR X.prog X.w _ h' _ (.lst (kvs.map fun kv=>kV kv.1)) from ⟨?_,acc.toList,c,?_,by simpa using hs⟩),rfl,q _ I.fresh⟩
 ·rw [List.length_map]; exact hz
 ·obtain ⟨a1,a2⟩:=ha
  refine Ak4 (by rw [Array.length_toList,List.length_map,a1,hl]) fun j v x hv hx=>?_
  obtain ⟨k,y,e,hk⟩:=a2 j v (by simpa using hv)
  rw [List.getElem?_map] at hx
  obtain ⟨kv,e2,rfl⟩:=Option.map_eq_some_iff.mp hx
  have ke:=rel.keys
  have e3:(kvs.map (·.1))[j]?=(vs.map (·.1))[j]?:=by rw [ke]
  rw [List.getElem?_map,List.getElem?_map,e,e2] at e3
  have e4:kv.1=k:=Option.some.inj e3
  show AbQ (kV kv.1) v
  rw [e4]
  exact Apr hk
end
end L2
set_option maxHeartbeats 4000000
namespace L2
open PySem PySem.Spec PyProof.Rows
section
variable {X:Cx}
def Apt:V→List V→Hp→VK→Prop:=fun x vs H Q=>∃ p xs y j,x=.ref p∧vs=[y]∧H p=some (.lst xs)∧Afl y=true∧xs.all Afl=true ∧
 (∃ z,xs[j]?=some z∧eqV z y=true)∧(∀ m z,m < j→xs[m]?=some z→eqV z y=false)∧Q (.int (j:Nat)) H
theorem AhH:MtM X "list.index" Apt:=by
 intro pins s σ H x vs v us Q I rx rv h
 obtain ⟨p,xs,y,j,rfl,rfl,hq,fy,fs,⟨z,hz,ez⟩,hno,q⟩:=h
 cases rx
 obtain ⟨u,rfl,ru⟩:=rv.one
 obtain ⟨hsz,its,n,r,hl,e⟩:=I.lstM hq
 obtain ⟨w,hw,rw'⟩:=r.get hz
 obtain ⟨hlt,hw'⟩:=List.getElem?_eq_some_iff.mp hw
 have hs:sizeLine=16777216:=sizeLine_eq
 refine call_meets F.slot_list_index ⟨_,e,rfl⟩ F.entry_list_index (F.args_list_index_2 _ _) (SeqAt.list_indexAt p its.toArray n none #[] u (eqU y) j (by simpa using hlt) (by omega) ?_ ?_) ⟨e,fun a ha=>AfE ru fy r fs a (by simpa using ha),?_⟩
 ·have fz:Afl z=true:=List.all_eq_true.mp fs z (List.mem_of_getElem? hz)
  rw [show its.toArray[j]'(by simpa using hlt)=w by simpa using hw',AkV rw' fz]
  exact ez
 ·intro m hm hmj
  have hm':m < its.length:=by simpa using hm
  have hxs:m < xs.length:=by rw [r.length]; exact hm'
  obtain ⟨a,ha,ra⟩:=r.get (List.getElem?_eq_getElem hxs)
  have fa:Afl xs[m]=true:=List.all_eq_true.mp fs _ (List.getElem_mem hxs)
  obtain ⟨_,ha'⟩:=List.getElem?_eq_some_iff.mp ha
  rw [show its.toArray[m]'hm=a by simpa using ha',AkV ra fa]
  exact hno m _ hmj (List.getElem?_eq_getElem hxs)
 ·exact ⟨.int _,H,I.tok _,⟨_,rfl⟩,q⟩
def Asa (K:PySem.W.Frag) (ta tb:TE):TE:=fun σ H Q=>ta σ H fun x H1=>∃ c,Aq7 K x H1 c∧if c=true then Q x H1 else tb σ H1 Q
theorem Aqw {a b:Expr} {rest:List Expr} {pos:Pos} {ta tb:TE} (ha:PE X a ta) (hb:PE X (.BoolOp .Or (b :: rest) pos) tb):PE X (.BoolOp .Or (a :: b :: rest) pos) (Asa X.K ta tb):=by
 intro pins s σ H Q I h
 refine BoolOp_or (thn (ha pins s σ H _ I h) fun v s1 ⟨x,H1,I1,r1,q1⟩=>?_)
 obtain ⟨c,hc,q1⟩:=q1
 refine thn (AoB pins s1 σ H1 x v (fun k H2=>k=c∧H2=H1) I1 r1 ⟨c,hc,rfl,rfl⟩) fun k s2 e=>?_
 obtain ⟨H2,I2,rfl,rfl⟩:=e
 cases k with
 | false=>exact hb pins s2 σ H2 Q I2 q1
 | true=>exact ⟨x,H2,I2,r1,q1⟩
end
end L2
set_option maxHeartbeats 4000000
namespace Lw
open PySem L2
local macro_rules | `(tactic| walk_at "st")=>`(tactic| repeat (first
 | refine ⟨_,rfl,?_⟩
 | refine ⟨_,_,rfl,rfl,?_⟩
 | refine Or.inl ⟨_,_,rfl,rfl,?_⟩
 | refine Or.inl ⟨rfl,?_⟩
 | (refine And.intro (show Aeq _ _ from ?_) ?_; (first | exact Or.inr ⟨by omega,by omega⟩ | exact Or.inl ⟨by omega,by omega⟩))
 | (refine And.intro (show Ae4 _ _ from ?_) ?_; exact ⟨by omega,by omega⟩)
 | (refine And.intro (show (0:Int) < _ from ?_) ?_; first | decide | omega)))
local macro_rules | `(tactic| walk_at "k")=>`(tactic| exact ⟨by decide +kernel,by decide +kernel,by decide +kernel⟩)
def top (i:Nat):Stmt:=PySem.Challenge.pw_stephall_k36_whole_all_stuck_and_mended.main.body.getD i (.Pass ⟨0,0,0,0⟩)
structure Adr where
 (HallError BadPlan NoSwitch NoLine NotSo Plan Seekers Switches Group Line Hall WAYS:Addr)
def Adr.racks (a:Adr):List Addr:=[a.Seekers]
structure Txt (K:PySem.W.Frag) (mg:Str→Option Value) (a:Adr):Prop where
 n_len:mg "len"=none
 n_isinstance:mg "isinstance"=none
 n_bool:mg "bool"=none
 n_int:mg "int"=none
 n_range:mg "range"=none
def AhI (ns:List Int) (k:Int):Int :=
 if k < ns.length then ns.getD k.toNat 0 else if ns.length=0 then 7919 * k + 101 else ns.getD (k % ns.length).toNat 0 % 1000003 + 7919 * k
def AmY (K:PySem.W.Frag):Sp:=fun vs H Q _=>∃ (p:Addr) (ns:List Int) (k:Int),vs=[.ref p,.int k]∧SqL K H p (ns.map V.int)∧0≤k∧k < 1000∧ns.length≤63∧Q (.int (AhI ns k)) H
section
variable {P:Program} {w:World} {K:PySem.W.Frag} {mg:Str→Option Value} {base:Heap} {a:Adr}
theorem AhJ:Aat ["script","k"] ["script","k"] (Aaa (top 40)):=⟨rfl,rfl,rfl,by decide +kernel,rfl,by decide +kernel,by decide +kernel⟩
theorem Abl:Nm (Aaa (top 40)) "script":=by walk_at "k"
theorem AcE:Nm (Aaa (top 40)) "k":=by walk_at "k"
theorem AdK:Gm (Aaa (top 40)) "len":=by walk_at "k"
theorem Apu {f:Addr} {fd:FuncData} (F:Fun K "_law_cell" "_law_cell" (top 40) f fd) (T:Txt K mg a):Aco P w K mg base CX0 1 f fd ["script","k"] (AmY K):=by
 refine F.ok AhJ (fun vs H Q E h=>?_) (fun cdv A outer s H vs Q E hr h=>?_)
 ·obtain ⟨p,ns,k,rfl,_⟩:=h
  rfl
 ·obtain ⟨p,ns,k,rfl,hS,h0,hk,hl,q⟩:=h
  have hu:=hr.units
  have nd:=AhJ.nd
  refine ⟨_,(@Aae _ _ _ _ _ (AbC (AaB Aq4 (pvN 1 AcE) (Ac3 AaP AdK T.n_len Ack (Aac (pvN 0 Abl) Aaf)) (AaY _)) (Aag (AaL (Abt AaT (pvN 0 Abl) (pvN 1 AcE) (fun _ _=>rfl)))) AaF)
    (Aae (AbC (AaB (Aea hu) (Ac3 AaP AdK T.n_len Ack (Aac (pvN 0 Abl) Aaf)) Aal (AaY _)) (Aag (AaL (AaD AbG (AaD Abw Aal (pvN 1 AcE)) Aal))) AaF)
    (Aag (AaL (AaD AbG (AaD Ab1 (Abt AaT (pvN 0 Abl) (AaD Ab1 (pvN 1 AcE) (Ac3 AaP AdK T.n_len Ack (Aac (pvN 0 Abl) Aaf))) (fun _ _=>rfl)) Aal) (AaD Abw Aal (pvN 1 AcE))))))),?_⟩
  walk_at "st"
  refine Or.inr ⟨_,_,rfl,.inl hS,?_⟩
  walk_at "st"
  rw [List.length_map]
  refine AqO (fun h=>?_) (fun h=>?_)
  ·have h:=of_decide_eq_true h
   walk_at "st"
   refine Or.inl ⟨p,_,k,_,rfl,rfl,hS,AgJ h0 h,?_⟩
   have e:AhI ns k=ns.getD k.toNat 0:=by unfold AhI; rw [if_pos h]
   rw [e] at q
   exact q
  ·have h:¬ k < ns.length:=by simpa using h
   walk_at "st"
   refine Or.inr ⟨_,_,rfl,.inl hS,?_⟩
   walk_at "st"
   rw [List.length_map]
   refine AqO (fun h2=>?_) (fun h2=>?_)
   ·have h2:ns.length=0:=by simpa using h2
    walk_at "st"
    have e:AhI ns k=7919 * k + 101:=by unfold AhI; rw [if_neg h,if_pos h2]
    rw [e] at q
    exact q
   ·have h2:¬ ns.length=0:=by simpa using h2
    walk_at "st"
    refine Or.inr ⟨_,_,rfl,.inl hS,?_⟩
    rw [List.length_map]
    have hp:0 < (ns.length:Int):=by omega
    walk_at "st"
    have m0:0≤k % (ns.length:Int):=Int.emod_nonneg _ (by omega)
    have m1:k % (ns.length:Int) < ns.length:=Int.emod_lt_of_pos _ (by omega)
    refine Or.inl ⟨p,_,_,_,rfl,rfl,hS,AgJ m0 m1,?_⟩
    walk_at "st"
    have e:AhI ns k=ns.getD (k % ns.length).toNat 0 % 1000003 + 7919 * k:=by unfold AhI; rw [if_neg h,if_neg h2]
    rw [e] at q
    exact q
def Akn (K:PySem.W.Frag):Sp:=fun vs H Q _=>∃ (p:Addr) (ns:List Int) (k many base:Int),vs=[.ref p,.int k,.int many,.int base]∧SqL K H p (ns.map V.int)∧0≤k∧k < 1000∧ns.length≤63∧0≤many∧many≤100∧0 < base∧base < 1000000000 ∧
 ∀ (r:Addr) (row:List Int) (H':Hp),Aav H H'→H r=none→H' r=some (.lst (row.map V.int))→row.length=many.toNat→(∀ v∈row,0≤v∧v < base)→Q (.ref r) H'
theorem Ak5 {H:Hp} {r:Addr} {row:List Int} {v:Int}:upd H r (.lst (row.map V.int++[.int v])) r=some (.lst ((row++[v]).map V.int)):=by
 rw [Aad,List.map_append]
 rfl
theorem Apv {row:List Int} {v b:Int} (h:∀ u∈row,0≤u∧u < b) (hv:0≤v∧v < b):∀ u∈row++[v],0≤u∧u < b:=by
 intro u hu
 rcases List.mem_append.mp hu with z | z
 ·exact h u z
 ·rw [List.mem_singleton.mp z]; exact hv
def AhK:List Int:=[2147483647,2147483629,2147483587,2147483579,2147483563,2147483549,2147483543,2147483497]
theorem AiU {i:Int} (h0:0≤i) (h1:i < 8):∃ p:Int,atI (AhK.map V.int) i=some (.int p)∧0 < p∧p < 2147483648:=by
 refine ⟨_,AgJ h0 h1,?_⟩
 have key:∀ m:Nat,m < 8→0 < AhK.getD m 0∧AhK.getD m 0 < 2147483648:=by decide
 exact key _ (by omega)
theorem Ag1:Aat ["script","k","many","base","primes","cell","rest","row","j","mash"] ["script","k","many","base"] (Aaa (top 41)):=⟨rfl,rfl,rfl,by decide +kernel,rfl,by decide +kernel,by decide +kernel⟩
theorem Af7:Nm (Aaa (top 41)) "script":=by walk_at "k"
theorem Aej:Nm (Aaa (top 41)) "k":=by walk_at "k"
theorem AgL:Nm (Aaa (top 41)) "many":=by walk_at "k"
theorem Aes:Nm (Aaa (top 41)) "base":=by walk_at "k"
theorem AbS:Nm (Aaa (top 41)) "primes":=by walk_at "k"
theorem Acf:Nm (Aaa (top 41)) "cell":=by walk_at "k"
theorem Aa9:Nm (Aaa (top 41)) "rest":=by walk_at "k"
theorem Ado:Nm (Aaa (top 41)) "row":=by walk_at "k"
theorem Aa7:Nm (Aaa (top 41)) "j":=by walk_at "k"
theorem AaA:Nm (Aaa (top 41)) "mash":=by walk_at "k"
theorem Ags:Gm (Aaa (top 41)) "range":=by walk_at "k"
theorem Afb:Gm (Aaa (top 41)) "_law_cell":=by walk_at "k"
theorem An6 {f:Addr} {fd:FuncData} (F:Fun K "_law_draws" "_law_draws" (top 41) f fd) (T:Txt K mg a) (D_law_cell:AgG P w K mg base CX0 1 "_law_cell" ["script","k"] (AmY K)) :
  Aco P w K mg base CX0 2 f fd ["script","k","many","base"] (Akn K):=by
 refine F.ok Ag1 (fun vs H Q E h=>?_) (fun cdv A outer s H vs Q E hr h=>?_)
 ·obtain ⟨p,ns,k,many,bs,rfl,_⟩:=h
  rfl
 ·obtain ⟨p,ns,k,many,bs,rfl,hS,k0,k1,hl,m0,m1,b0,b1,q⟩:=h
  have hu:=hr.units
  have nd:=Ag1.nd
  refine ⟨_,(@Aae _ _ _ _ _ (Abb 4 nd AbS (Adh (AhB rfl)))
    (Aae (Abb 5 nd Acf (Ad2 D_law_cell Afb (hr.mono (by decide)) AbO (Aac (pvN 0 Af7) (Aac (pvN 1 Aej) Aaf))))
    (Aae (Abb 6 nd Aa9 Aal)
    (Aae (AbC (AaB Aq5 (pvN 5 Acf) (AaD Ap3 Aal Aal) (AaY _)) (Aag (Abb 6 nd Aa9 (pvN 5 Acf))) AaF)
    (Aae (Abb 7 nd Ado (Aa6 Aaf))
    (Aae (Ae3 PassesOwn.never rfl (Ami Ags T.n_range (Aac (pvN 2 AgL) Aaf)) (AcB 8 nd Aa7) (Aae (Abb 9 nd AaA (AaD Abw (AaD Ab1 (pvN 5 Acf) (Abt AaT (pvN 4 AbS) (AaD Ab1 (pvN 8 Aa7) Aal) (fun _ _=>rfl))) (AaD AbG Aal (AaD Abw (AaD Abw Aal (pvN 8 Aa7)) (pvN 8 Aa7)))))
     (Aae (Abb 9 nd AaA (AaD AbG (AaD AbG (pvN 9 AaA) (AaD Abw (AaD Abw Aal (AaD AbG (pvN 8 Aa7) Aal)) (AaD AbG (pvN 8 Aa7) Aal))) (AaD Abw Aal (pvN 1 Aej))))
     (Aae (Abb 9 nd AaA (AaD Ab1 (pvN 9 AaA) (Abt AaT (pvN 4 AbS) (AaD Ab1 (AaD AbG (AaD Abw Aal (pvN 8 Aa7)) (pvN 1 Aej)) Aal) (fun _ _=>rfl))))
     (Aae (Abb 9 nd AaA (AaD Ab1 (AaD Abw (AaD Abw (pvN 9 AaA) (pvN 9 AaA)) (pvN 9 AaA)) (Abt AaT (pvN 4 AbS) (AaD Ab1 (AaD AbG (pvN 8 Aa7) Aal) Aal) (fun _ _=>rfl))))
     (Aae (AbC (AaB Anv (pvN 6 Aa9) Aal (AaY _)) (Aag (Abb 9 nd AaA (pvN 6 Aa9))) AaF)
     (Aae (AaN (Aer PySem.F.plainAttrs_list PySem.F.slot_list_append PySem.F.type_list_append AbF (pvN 7 Ado) (Aac (AaD Ab1 (pvN 9 AaA) (pvN 3 Aes)) Aaf)))
     (Aag (Abb 6 nd Aa9 (AaD Ahr (pvN 6 Aa9) (pvN 3 Aes)))))))))))
    (Aag (AaL (pvN 7 Ado))))))))),?_⟩
  refine ⟨by decide,fun pr hpr=>?_⟩
  have s1:Aav H (upd H pr (.tup (AhK.map V.int))):=(Aav.refl H).upd hpr
  walk_at "st"
  refine ⟨p,ns,k,rfl,s1.seq hS,k0,k1,hl,?_⟩
  walk_at "st"
  refine ⟨⟨by decide,by decide,by decide⟩,?_⟩
  walk_at "st"
  refine AqO (fun _=>?_) (fun _=>?_) <;>
  ·walk_at "st"
   refine ⟨by decide,fun r hr=>?_⟩
   have hrpr:r≠pr:=fun e=>by rw [e,Aad] at hr; cases hr
   have hrH:H r=none:=by rw [Aah hrpr] at hr; exact hr
   walk_at "st"
   refine ⟨by omega,by omega,Ahq (n:=many.toNat) (fun i σ H2=>∃ (row:List Int) (z:Int) (x y:Option V),σ=[some (.ref p),some (.int k),some (.int many),some (.int bs),some (.ref pr),some (.int (AhI ns k)),some (.int z),some (.ref r),x,y] ∧
    Aav H H2∧H2 pr=some (.tup (AhK.map V.int))∧H2 r=some (.lst (row.map V.int))∧row.length=i∧∀ v∈row,0≤v∧v < bs) ?_ ?_ ?_⟩
   ·exact ⟨[],_,none,none,rfl,s1.upd hr,(by rw [Aah hrpr.symm,Aad]; rfl),Aad,rfl,fun v hv=>absurd hv (by simp)⟩
   ·rintro i σ H2 hi ⟨row,z,x,y,rfl,sm,hP,hR,hlen,hrow⟩
    have hi':(i:Int) < 100:=by omega
    simp only [Int.zero_add]
    walk_at "st"
    obtain ⟨p1,e1,a1,b1'⟩:=AiU (i:=(i:Int) % 8) (by omega) (by omega)
    refine Or.inr (Or.inl ⟨pr,_,_,_,rfl,rfl,.of hP,e1,?_⟩)
    walk_at "st"
    have c1:=Int.emod_nonneg (AhI ns k) (show p1≠0 by omega)
    have c2:=Int.emod_lt_of_pos (AhI ns k) a1
    generalize AhI ns k % p1=m1 at c1 c2 ⊢
    walk_at "st"
    obtain ⟨p2,e2,a2,b2'⟩:=AiU (i:=(3 * (i:Int) + k) % 8) (by omega) (by omega)
    refine Or.inr (Or.inl ⟨pr,_,_,_,rfl,rfl,.of hP,e2,?_⟩)
    walk_at "st"
    generalize hm2:(m1 * (48271 + 2 * (i:Int) * (i:Int)) + 7919 * ((i:Int) + 1) * ((i:Int) + 1) + 104729 * k) % p2=m2
    have c3:0≤m2:=by rw [← hm2]; exact Int.emod_nonneg _ (by omega)
    have c4:m2 < p2:=by rw [← hm2]; exact Int.emod_lt_of_pos _ a2
    walk_at "st"
    obtain ⟨p3,e3,a3,b3'⟩:=AiU (i:=((i:Int) + 5) % 8) (by omega) (by omega)
    refine Or.inr (Or.inl ⟨pr,_,_,_,rfl,rfl,.of hP,e3,?_⟩)
    walk_at "st"
    refine AqO (fun _=>?_) (fun _=>?_) <;>
    ·walk_at "st"
     refine ⟨.inl ⟨rfl,_,.of hR⟩,?_⟩
     walk_at "st"
     refine ⟨r,_,_,rfl,rfl,hR,?_,?_⟩
     ·rw [List.length_map,hlen,sizeLine_eq]; omega
     walk_at "st"
     exact ⟨row++[_],_,_,_,rfl,sm.updN hrH,(by rw [Aah hrpr.symm]; exact hP),Ak5,(by rw [List.length_append,hlen]; rfl),Apv hrow ⟨Int.emod_nonneg _ (by omega),Int.emod_lt_of_pos _ b0⟩⟩
   ·rintro σ H2 ⟨row,z,x,y,rfl,sm,hP,hR,hlen,hrow⟩
    walk_at "st"
    exact q r row H2 sm hrH hR hlen hrow
end
theorem Aqx (K:PySem.W.Frag):PySem.W.kitOne K (.type "int") (.type "bool")=some false:=by rfl
def Asc (z:Str):Prop:=∀ c∈z.cps.toList,c < 128
def Dig (z:Str):Prop:=∀ c∈z.cps.toList,48≤c∧c≤57
theorem Dig.asc {z:Str} (h:Dig z):Asc z:=fun c hc=>by have:=h c hc; omega
theorem An7 (x y:Str):(x++y).cps.toList=x.cps.toList++y.cps.toList:=by
 show (x.cps++y.cps).toList=_
 simp
theorem Ahj (x:Str):x.length=x.cps.toList.length:=by simp [Str.length]
def AfG:Sp:=fun vs H Q _=>∃ n lo hi,vs=[.int n,.int lo,.int hi]∧Q (.bl (decide (lo≤n) && decide (n≤hi))) H
section
variable {P:Program} {w:World} {K:PySem.W.Frag} {mg:Str→Option Value} {base:Heap} {a:Adr}
theorem AjD:Aat ["number","least","most"] ["number","least","most"] (Aaa (top 10)):=⟨rfl,rfl,rfl,by decide +kernel,rfl,by decide +kernel,by decide +kernel⟩
theorem Ae6:Nm (Aaa (top 10)) "number":=by walk_at "k"
theorem AhL:Nm (Aaa (top 10)) "least":=by walk_at "k"
theorem Ah7:Nm (Aaa (top 10)) "most":=by walk_at "k"
theorem AfK:Gm (Aaa (top 10)) "isinstance":=by walk_at "k"
theorem Ah8:Gm (Aaa (top 10)) "bool":=by walk_at "k"
theorem AmZ {f:Addr} {fd:FuncData} (F:Fun K "within" "within" (top 10) f fd) (T:Txt K mg a):Aco P w K mg base CX0 1 f fd ["number","least","most"] AfG:=by
 refine F.ok AjD (fun vs H Q E h=>?_) (fun cdv A outer s H vs Q E hr h=>?_)
 ·obtain ⟨n,lo,hi,rfl,_⟩:=h
  rfl
 ·obtain ⟨n,lo,hi,rfl,q⟩:=h
  have hu:=hr.units
  have nd:=AjD.nd
  refine ⟨_,(@Aag _ _ _ (AaL (Aox (ApW (Ac3 Amg AfK T.n_isinstance AiH (Aac (pvN 0 Ae6) (Aac (Arg (v:=.ty "bool") Ah8 T.n_bool Ape rfl) Aaf)))) (AlS (Anw Ap4 Ap4 (pvN 1 AhL) (pvN 0 Ae6) (pvN 2 Ah7)))))),?_⟩
  walk_at "st"
  refine Or.inl ⟨_,_,_,_,_,rfl,.of (.int n),rfl,Aqx K,?_⟩
  walk_at "st"
  by_cases h1:lo≤n
  ·rw [decide_eq_true h1]
   refine AgI ?_
   walk_at "st"
   rw [decide_eq_true h1] at q
   exact q
  ·rw [decide_eq_false h1]
   refine AgH ?_
   rw [decide_eq_false h1] at q
   exact q
end
local macro_rules | `(tactic| walk_at "st")=>`(tactic| repeat (first
 | refine ⟨_,rfl,?_⟩
 | refine ⟨_,_,rfl,rfl,?_⟩
 | refine ⟨_,_,rfl,?_⟩
 | refine Or.inl ⟨_,_,rfl,rfl,?_⟩
 | refine Or.inl ⟨rfl,?_⟩
 | refine ⟨rfl,?_⟩
 | refine Or.inl ⟨_,_,_,_,rfl,rfl,.of (by assumption),rfl,?_⟩
 | (refine And.intro (show Aeq _ _ from ?_) ?_; (first | exact Or.inr ⟨by omega,by omega⟩ | exact Or.inl ⟨by omega,by omega⟩))
 | (refine And.intro (show Ae4 _ _ from ?_) ?_; exact ⟨by omega,by omega⟩)
 | (refine And.intro (show (0:Int) < _ from ?_) ?_; first | decide | omega)))
structure SwC (K:PySem.W.Frag) (a:Adr) (C:Addr):Prop where
 mem:C∈a.racks
 cls:Cls K C
 h:Abh K C "held_by"
 j:Abh K C "jammed"
 t:Abh K C "taken"
structure Fs (fs:List (Str×V)) (ra rb rc:Addr):Prop where
 h:fs.lookup ("held_by":Str)=some (V.ref ra)
 j:fs.lookup ("jammed":Str)=some (V.ref rb)
 t:fs.lookup ("taken":Str)=some (V.ref rc)
 m:∀ x∈(["first_free","hold","free","stick","mend","check","holders","stuck","shares","take","paper"]:List Str),fs.lookup x=none
structure AlE (K:PySem.W.Frag) (a:Adr) (H:Hp) (p C:Addr) (ra rb rc:Addr) (hs:List V) (js:List Bool) (ts:List Int):Prop where
 ins:∃ dx fs,H p=some (.ins C dx fs)∧Fs fs ra rb rc
 c:SwC K a C
 ha:H ra=some (.lst hs)
 hb:H rb=some (.lst (js.map V.bl))
 hc:H rc=some (.lst (ts.map V.int))
 ab:ra≠rb
 ac:ra≠rc
 bc:rb≠rc
 lj:js.length=hs.length
 lt:ts.length=hs.length
 z:hs.length≤1000
theorem AlE.same {K:PySem.W.Frag} {a:Adr} {H H':Hp} {p C ra rb rc:Addr} {hs:List V} {js:List Bool} {ts:List Int} (r:AlE K a H p C ra rb rc hs js ts) (s:Aav H H'):AlE K a H' p C ra rb rc hs js ts:=by
 obtain ⟨dx,fs,e,f⟩:=r.ins
 exact ⟨⟨dx,fs,s _ _ e,f⟩,r.c,s _ _ r.ha,s _ _ r.hb,s _ _ r.hc,r.ab,r.ac,r.bc,r.lj,r.lt,r.z⟩
def inR (k:Int) (hs:List V):Bool:=decide (0≤k) && decide (k≤(hs.length:Int) - 1)
theorem Ako {k:Int} {hs:List V}:inR k hs=true↔0≤k∧k < hs.length:=by
 unfold inR
 rw [Bool.and_eq_true,decide_eq_true_eq,decide_eq_true_eq]
 omega
theorem Aet {n:Nat} {k:Int} (h0:0≤k) (h:k < n):ixN n k=some k.toNat:=by unfold ixN; rw [if_pos h0,if_pos h]
def AhM (K:PySem.W.Frag) (a:Adr):Sp:=fun vs H Q _=>∃ p C ra rb rc hs js ts,vs=[.ref p]∧AlE K a H p C ra rb rc hs js ts∧∀ l,H l=none→Q (.ref l) (upd H l (.lst hs))
def AiV (K:PySem.W.Frag) (a:Adr):Sp:=fun vs H Q _=>∃ p C ra rb rc hs js ts,vs=[.ref p]∧AlE K a H p C ra rb rc hs js ts∧∀ l,H l=none→Q (.ref l) (upd H l (.lst (ts.map V.int)))
def AhN (K:PySem.W.Frag) (a:Adr):Sp:=fun vs H Q E=>∃ p k C ra rb rc hs js ts,vs=[.ref p,.int k]∧AlE K a H p C ra rb rc hs js ts∧if inR k hs=true then Q .non H else E (.ref a.NoSwitch) none H
def Am0 (K:PySem.W.Frag) (a:Adr):Sp:=fun vs H Q _=>∃ p k who C ra rb rc hs js ts,vs=[.ref p,.int k,who]∧AlE K a H p C ra rb rc hs js ts∧0≤k∧k < hs.length ∧
 Q .non (upd (upd H ra (.lst (hs.set k.toNat who))) rc (.lst ((ts.set k.toNat (ts.getD k.toNat 0 + 1)).map V.int)))
def Am1 (K:PySem.W.Frag) (a:Adr):Sp:=fun vs H Q E=>∃ p k C ra rb rc hs js ts,vs=[.ref p,.int k]∧AlE K a H p C ra rb rc hs js ts ∧
 if inR k hs=true∧hs.getD k.toNat .non≠.non then Q .non (upd H ra (.lst (hs.set k.toNat .non))) else E (.ref a.NoSwitch) none H
def AlF (K:PySem.W.Frag) (a:Adr) (b:Bool):Sp:=fun vs H Q E=>∃ p k C ra rb rc hs js ts,vs=[.ref p,.int k]∧AlE K a H p C ra rb rc hs js ts ∧
 if inR k hs=true then Q .non (upd H rb (.lst ((js.set k.toNat b).map V.bl))) else E (.ref a.NoSwitch) none H
structure TxtS (K:PySem.W.Frag) (mg:Str→Option Value) (a:Adr):Prop extends Txt K mg a where
 n_list:mg "list"=none
 n_enumerate:mg "enumerate"=none
 n_tuple:mg "tuple"=none
 g_NoSwitch:mg "NoSwitch"=some (.ref a.NoSwitch)
 x_NoSwitch:PySem.W.excIn K a.NoSwitch [.type "ValueError",.type "Exception",.type "BaseException",.type "object"] "ValueError.__new__"=true
section
variable {P:Program} {w:World} {K:PySem.W.Frag} {mg:Str→Option Value} {base:Heap} {a:Adr}
theorem Af8:Aat ["self"] ["self"] (Aaa (Aab (top 16) 7)):=⟨rfl,rfl,rfl,by decide +kernel,rfl,by decide +kernel,by decide +kernel⟩
theorem Aeu:Nm (Aaa (Aab (top 16) 7)) "self":=by walk_at "k"
theorem Aev:Gm (Aaa (Aab (top 16) 7)) "list":=by walk_at "k"
theorem AlG {f:Addr} {fd:FuncData} (F:Fun K "holders" "Switches.holders" (Aab (top 16) 7) f fd) (T:TxtS K mg a):Aco P w K mg base CX0 1 f fd ["self"] (AhM K a):=by
 refine F.ok Af8 (fun vs H Q E h=>?_) (fun cdv A outer s H vs Q E hr h=>?_)
 ·obtain ⟨p,C,ra,rb,rc,hs,js,ts,rfl,_⟩:=h
  rfl
 ·obtain ⟨p,C,ra,rb,rc,hs,js,ts,rfl,R,q⟩:=h
  obtain ⟨dx,fs,hp,F3⟩:=R.ins
  refine ⟨_,(@Aag _ _ _ (AaL (Afa (Ac4 rfl) Aev T.n_list Afm (Aac (Aau (pvN 0 Aeu) rfl) Aaf)))),?_⟩
  walk_at "st"
  refine ⟨p,C,dx,fs,_,rfl,hp,R.c.cls,R.c.h,F3.h,?_⟩
  walk_at "st"
  refine Or.inl ⟨_,_,rfl,.inl (.of R.ha),fun l hl=>?_⟩
  exact q l hl
theorem Agt:Aat ["self"] ["self"] (Aaa (Aab (top 16) 9)):=⟨rfl,rfl,rfl,by decide +kernel,rfl,by decide +kernel,by decide +kernel⟩
theorem AeN:Nm (Aaa (Aab (top 16) 9)) "self":=by walk_at "k"
theorem AeO:Gm (Aaa (Aab (top 16) 9)) "list":=by walk_at "k"
theorem Am2 {f:Addr} {fd:FuncData} (F:Fun K "shares" "Switches.shares" (Aab (top 16) 9) f fd) (T:TxtS K mg a):Aco P w K mg base CX0 1 f fd ["self"] (AiV K a):=by
 refine F.ok Agt (fun vs H Q E h=>?_) (fun cdv A outer s H vs Q E hr h=>?_)
 ·obtain ⟨p,C,ra,rb,rc,hs,js,ts,rfl,_⟩:=h
  rfl
 ·obtain ⟨p,C,ra,rb,rc,hs,js,ts,rfl,R,q⟩:=h
  obtain ⟨dx,fs,hp,F3⟩:=R.ins
  refine ⟨_,(@Aag _ _ _ (AaL (Afa (Ac4 rfl) AeO T.n_list Afm (Aac (Aau (pvN 0 AeN) rfl) Aaf)))),?_⟩
  walk_at "st"
  refine ⟨p,C,dx,fs,_,rfl,hp,R.c.cls,R.c.t,F3.t,?_⟩
  walk_at "st"
  refine Or.inl ⟨_,_,rfl,.inl (.of R.hc),fun l hl=>?_⟩
  exact q l hl
theorem Aha:Aat ["self","k","who"] ["self","k","who"] (Aaa (Aab (top 16) 2)):=⟨rfl,rfl,rfl,by decide +kernel,rfl,by decide +kernel,by decide +kernel⟩
theorem Adi:Nm (Aaa (Aab (top 16) 2)) "self":=by walk_at "k"
theorem Aec:Nm (Aaa (Aab (top 16) 2)) "k":=by walk_at "k"
theorem AfL:Nm (Aaa (Aab (top 16) 2)) "who":=by walk_at "k"
theorem Apw {f:Addr} {fd:FuncData} (F:Fun K "hold" "Switches.hold" (Aab (top 16) 2) f fd) (T:TxtS K mg a):Aco P w K mg base CX0 1 f fd ["self","k","who"] (Am0 K a):=by
 refine F.ok Aha (fun vs H Q E h=>?_) (fun cdv A outer s H vs Q E hr h=>?_)
 ·obtain ⟨p,k,who,C,ra,rb,rc,hs,js,ts,rfl,_⟩:=h
  rfl
 ·obtain ⟨p,k,who,C,ra,rb,rc,hs,js,ts,rfl,R,h0,h1,q⟩:=h
  obtain ⟨dx,fs,hp,F3⟩:=R.ins
  have hlt:=R.lt
  refine ⟨_,(@Aae _ _ _ _ _ (AfW (pvN 2 AfL) (Agi (Aau (pvN 0 Adi) rfl) (pvN 1 Aec) Ace))
    (Aag (Aix (Aau (pvN 0 Adi) rfl) (pvN 1 Aec) Ahh Aal AkQ Ace))),?_⟩
  walk_at "st"
  refine ⟨p,C,dx,fs,_,rfl,hp,R.c.cls,R.c.h,F3.h,?_⟩
  walk_at "st"
  refine ⟨_,_,_,_,rfl,rfl,R.ha,Aet h0 h1,?_⟩
  walk_at "st"
  have hp2:(upd H ra (.lst (hs.set k.toNat who))) p=some (.ins C dx fs):=by
   rw [Aah (AaI hp R.ha (by intro z; cases z))]; exact hp
  have hc2:(upd H ra (.lst (hs.set k.toNat who))) rc=some (.lst (ts.map V.int)):=by rw [Aah (Ne.symm R.ac)]; exact R.hc
  refine ⟨p,C,dx,fs,_,rfl,hp2,R.c.cls,R.c.t,F3.t,?_⟩
  walk_at "st"
  refine ⟨_,_,_,_,rfl,rfl,h0,.of hc2,AgJ h0 (by omega),?_⟩
  walk_at "st"
  refine ⟨_,_,_,_,rfl,rfl,hc2,Aet h0 (by rw [List.length_map]; omega),?_⟩
  rw [List.map_set] at q
  exact q
end
local macro_rules | `(tactic| walk_at "st")=>`(tactic| repeat (first
 | refine ⟨_,rfl,?_⟩
 | refine ⟨_,_,rfl,rfl,?_⟩
 | refine ⟨_,_,rfl,?_⟩
 | refine Or.inl ⟨_,_,rfl,rfl,?_⟩
 | refine Or.inl ⟨rfl,?_⟩
 | refine ⟨rfl,?_⟩
 | refine Or.inl ⟨_,_,_,_,rfl,rfl,.of (by assumption),rfl,?_⟩
 | (refine And.intro (show Aeq _ _ from ?_) ?_; (first | exact Or.inr ⟨by omega,by omega⟩ | exact Or.inl ⟨by omega,by omega⟩))
 | (refine And.intro (show Ae4 _ _ from ?_) ?_; exact ⟨by omega,by omega⟩)
 | (refine And.intro (show (0:Int) < _ from ?_) ?_; first | decide | omega)))
theorem AaO (x y:Str):(x++y).length=x.length + y.length:=by rw [Ahj,Ahj,Ahj,An7,List.length_append]
section
variable {P:Program} {w:World} {K:PySem.W.Frag} {mg:Str→Option Value} {base:Heap} {a:Adr}
theorem AgM:Aat ["self","k"] ["self","k"] (Aaa (Aab (top 16) 6)):=⟨rfl,rfl,rfl,by decide +kernel,rfl,by decide +kernel,by decide +kernel⟩
theorem AcR:Nm (Aaa (Aab (top 16) 6)) "self":=by walk_at "k"
theorem Af9:Nm (Aaa (Aab (top 16) 6)) "k":=by walk_at "k"
theorem Aew:Gm (Aaa (Aab (top 16) 6)) "within":=by walk_at "k"
theorem Adj:Gm (Aaa (Aab (top 16) 6)) "len":=by walk_at "k"
theorem Ad3:Gm (Aaa (Aab (top 16) 6)) "NoSwitch":=by walk_at "k"
theorem An8 {f:Addr} {fd:FuncData} (F:Fun K "check" "Switches.check" (Aab (top 16) 6) f fd) (T:TxtS K mg a) (D_within:AgG P w K mg base CX0 1 "within" ["number","least","most"] AfG):Aco P w K mg base (CXE P w) 2 f fd ["self","k"] (AhN K a):=by
 refine F.okX AgM (fun vs H Q E h=>?_) (fun cdv A outer s H vs Q E hr h=>?_)
 ·obtain ⟨p,k,C,ra,rb,rc,hs,js,ts,rfl,_⟩:=h
  rfl
 ·obtain ⟨p,k,C,ra,rb,rc,hs,js,ts,rfl,R,q⟩:=h
  obtain ⟨dx,fs,hp,F3⟩:=R.ins
  have hz:=R.z
  refine ⟨_,(@Aag _ _ _ (AbC (Aep (Ad9 (Ad2 D_within Aew (hr.mono (by decide)) AbO (Aac (pvN 1 Af9) (Aac Aal (Aac (AaD AkS (Ac3 AaP Adj T.n_len Ack (Aac (Aau (pvN 0 AcR) rfl) Aaf)) Aal) Aaf)))))) (Aag (Agm Aa0 Ad3 rfl T.x_NoSwitch T.g_NoSwitch (Aac (AdJ (Abv Aak (Abv (Amt (Ac3 AaP Adj T.n_len Ack (Aac (Aau (pvN 0 AcR) rfl) Aaf))) (Abv Aak Ahx)))) Aaf))) AaF)),?_⟩
  walk_at "st"
  refine ⟨p,C,dx,fs,_,rfl,hp,R.c.cls,R.c.h,F3.h,?_⟩
  walk_at "st"
  refine Or.inr ⟨_,_,rfl,.inl (.of R.ha),?_⟩
  walk_at "st"
  refine ⟨k,0,(hs.length:Int) - 1,rfl,?_⟩
  walk_at "st"
  by_cases hk:inR k hs=true
  ·rw [if_pos hk] at q
   have e:(decide (0≤k) && decide (k≤(hs.length:Int) - 1))=true:=hk
   rw [e]
   refine AgH ?_
   exact q
  ·rw [if_neg hk] at q
   have e:(decide (0≤k) && decide (k≤(hs.length:Int) - 1))=false:=Bool.eq_false_iff.mpr hk
   rw [e]
   refine AgI ?_
   walk_at "st"
   have e1:(Str.empty++Str.ofString "there are ").length=10:=by decide +kernel
   have e2:(Str.ofString " switches, numbered from 0").length=26:=by decide +kernel
   refine ⟨(by rw [e1,sizeLine_eq]; decide),?_⟩
   walk_at "st"
   refine ⟨p,C,dx,fs,_,rfl,hp,R.c.cls,R.c.h,F3.h,?_⟩
   walk_at "st"
   refine Or.inr ⟨_,_,rfl,.inl (.of R.ha),?_⟩
   refine Or.inl ⟨_,rfl,by omega,by omega,fun z hz=>?_⟩
   walk_at "st"
   refine ⟨(by rw [AaO,e1,sizeLine_eq]; omega),?_⟩
   walk_at "st"
   refine ⟨(by rw [AaO,AaO,e1,e2,sizeLine_eq]; omega),?_⟩
   walk_at "st"
   refine ⟨(by rw [AaO,AaO,e1,e2,sizeLine_eq]; omega),?_⟩
   exact ⟨(by show 1≤sizeLine; decide),q⟩
theorem AgN:Aat ["self","k"] ["self","k"] (Aaa (Aab (top 16) 4)):=⟨rfl,rfl,rfl,by decide +kernel,rfl,by decide +kernel,by decide +kernel⟩
theorem AcS:Nm (Aaa (Aab (top 16) 4)) "self":=by walk_at "k"
theorem AdL:Nm (Aaa (Aab (top 16) 4)) "k":=by walk_at "k"
theorem An9 {f:Addr} {fd:FuncData} (F:Fun K "stick" "Switches.stick" (Aab (top 16) 4) f fd) (T:TxtS K mg a) (DD_check:∀ C∈a.racks,AaJ P w K mg base (CXE P w) 2 C "check" ["self","k"] (AhN K a)):Aco P w K mg base (CXE P w) 3 f fd ["self","k"] (AlF K a true):=by
 refine F.okX AgN (fun vs H Q E h=>?_) (fun cdv A outer s H vs Q E hr h=>?_)
 ·obtain ⟨p,k,C,ra,rb,rc,hs,js,ts,rfl,_⟩:=h
  rfl
 ·obtain ⟨p,k,C,ra,rb,rc,hs,js,ts,rfl,R,q⟩:=h
  obtain ⟨dx,fs,hp,F3⟩:=R.ins
  have D_check:=DD_check C R.c.mem
  have cls:=R.c.cls
  have hj:=R.lj
  refine ⟨_,(@Aae _ _ _ _ _ (AaN (AcC D_check cls (pvN 0 AcS) (hr.mono (by decide)) Abu (Aac (pvN 1 AdL) Aaf)))
    (Aag (AfW Aho (Agi (Aau (pvN 0 AcS) rfl) (pvN 1 AdL) Ace)))),?_⟩
  walk_at "st"
  refine ⟨p,dx,fs,rfl,hp,F3.m _ (by decide),?_⟩
  walk_at "st"
  refine ⟨p,k,C,ra,rb,rc,hs,js,ts,rfl,R,?_⟩
  by_cases hk:inR k hs=true
  ·rw [if_pos hk] at q ⊢
   obtain ⟨h0,h1⟩:=Ako.mp hk
   walk_at "st"
   refine ⟨p,C,dx,fs,_,rfl,hp,R.c.cls,R.c.j,F3.j,?_⟩
   walk_at "st"
   refine ⟨_,_,_,_,rfl,rfl,R.hb,Aet h0 (by rw [List.length_map]; omega),?_⟩
   rw [List.map_set] at q
   exact q
  ·rw [if_neg hk] at q ⊢
   exact q
theorem Ahb:Aat ["self","k"] ["self","k"] (Aaa (Aab (top 16) 5)):=⟨rfl,rfl,rfl,by decide +kernel,rfl,by decide +kernel,by decide +kernel⟩
theorem Adk:Nm (Aaa (Aab (top 16) 5)) "self":=by walk_at "k"
theorem Aed:Nm (Aaa (Aab (top 16) 5)) "k":=by walk_at "k"
theorem Apx {f:Addr} {fd:FuncData} (F:Fun K "mend" "Switches.mend" (Aab (top 16) 5) f fd) (T:TxtS K mg a) (DD_check:∀ C∈a.racks,AaJ P w K mg base (CXE P w) 2 C "check" ["self","k"] (AhN K a)):Aco P w K mg base (CXE P w) 3 f fd ["self","k"] (AlF K a false):=by
 refine F.okX Ahb (fun vs H Q E h=>?_) (fun cdv A outer s H vs Q E hr h=>?_)
 ·obtain ⟨p,k,C,ra,rb,rc,hs,js,ts,rfl,_⟩:=h
  rfl
 ·obtain ⟨p,k,C,ra,rb,rc,hs,js,ts,rfl,R,q⟩:=h
  obtain ⟨dx,fs,hp,F3⟩:=R.ins
  have D_check:=DD_check C R.c.mem
  have cls:=R.c.cls
  have hj:=R.lj
  refine ⟨_,(@Aae _ _ _ _ _ (AaN (AcC D_check cls (pvN 0 Adk) (hr.mono (by decide)) Abu (Aac (pvN 1 Aed) Aaf)))
    (Aag (AfW Aho (Agi (Aau (pvN 0 Adk) rfl) (pvN 1 Aed) Ace)))),?_⟩
  walk_at "st"
  refine ⟨p,dx,fs,rfl,hp,F3.m _ (by decide),?_⟩
  walk_at "st"
  refine ⟨p,k,C,ra,rb,rc,hs,js,ts,rfl,R,?_⟩
  by_cases hk:inR k hs=true
  ·rw [if_pos hk] at q ⊢
   obtain ⟨h0,h1⟩:=Ako.mp hk
   walk_at "st"
   refine ⟨p,C,dx,fs,_,rfl,hp,R.c.cls,R.c.j,F3.j,?_⟩
   walk_at "st"
   refine ⟨_,_,_,_,rfl,rfl,R.hb,Aet h0 (by rw [List.length_map]; omega),?_⟩
   rw [List.map_set] at q
   exact q
  ·rw [if_neg hk] at q ⊢
   exact q
theorem Ahc:Aat ["self","k"] ["self","k"] (Aaa (Aab (top 16) 3)):=⟨rfl,rfl,rfl,by decide +kernel,rfl,by decide +kernel,by decide +kernel⟩
theorem Ab8:Nm (Aaa (Aab (top 16) 3)) "self":=by walk_at "k"
theorem Ab2:Nm (Aaa (Aab (top 16) 3)) "k":=by walk_at "k"
theorem Aek:Gm (Aaa (Aab (top 16) 3)) "NoSwitch":=by walk_at "k"
theorem Apy {f:Addr} {fd:FuncData} (F:Fun K "free" "Switches.free" (Aab (top 16) 3) f fd) (T:TxtS K mg a) (DD_check:∀ C∈a.racks,AaJ P w K mg base (CXE P w) 2 C "check" ["self","k"] (AhN K a)):Aco P w K mg base (CXE P w) 3 f fd ["self","k"] (Am1 K a):=by
 refine F.okX Ahc (fun vs H Q E h=>?_) (fun cdv A outer s H vs Q E hr h=>?_)
 ·obtain ⟨p,k,C,ra,rb,rc,hs,js,ts,rfl,_⟩:=h
  rfl
 ·obtain ⟨p,k,C,ra,rb,rc,hs,js,ts,rfl,R,q⟩:=h
  obtain ⟨dx,fs,hp,F3⟩:=R.ins
  have D_check:=DD_check C R.c.mem
  have cls:=R.c.cls
  have hz:=R.z
  refine ⟨_,(@Aae _ _ _ _ _ (AaN (AcC D_check cls (pvN 0 Ab8) (hr.mono (by decide)) Abu (Aac (pvN 1 Ab2) Aaf)))
    (Aae (AbC (AaB Aic (Abt AaT (Aau (pvN 0 Ab8) rfl) (pvN 1 Ab2) (fun _ _=>rfl)) AcQ (AaY _)) (Aag (Agm Aa0 Aek rfl T.x_NoSwitch T.g_NoSwitch (Aac (AdJ (Abv Aak (Abv (Amt (pvN 1 Ab2)) Ahx))) Aaf))) AaF)
    (Aag (AfW AcQ (Agi (Aau (pvN 0 Ab8) rfl) (pvN 1 Ab2) Ace))))),?_⟩
  walk_at "st"
  refine ⟨p,dx,fs,rfl,hp,F3.m _ (by decide),?_⟩
  walk_at "st"
  refine ⟨p,k,C,ra,rb,rc,hs,js,ts,rfl,R,?_⟩
  by_cases hk:inR k hs=true
  ·rw [if_pos hk]
   obtain ⟨h0,h1⟩:=Ako.mp hk
   walk_at "st"
   refine ⟨p,C,dx,fs,_,rfl,hp,R.c.cls,R.c.h,F3.h,?_⟩
   walk_at "st"
   obtain ⟨v,e1,e2⟩:=Aju (xs:=hs) h0 h1
   have e3:hs.getD k.toNat .non=v:=by rw [List.getD,e2]; rfl
   rw [e3] at q
   refine Or.inl ⟨_,_,_,_,rfl,rfl,.of R.ha,e1,?_⟩
   walk_at "st"
   by_cases hv:v=.non
   ·rw [if_neg (fun z=>z.2 hv)] at q
    rw [decide_eq_true hv]
    refine AgI ?_
    walk_at "st"
    have e1:(Str.empty++Str.ofString "nobody holds switch ").length=20:=by decide +kernel
    refine ⟨(by rw [e1,sizeLine_eq]; decide),?_⟩
    walk_at "st"
    refine Or.inl ⟨_,rfl,by omega,by omega,fun z hz=>?_⟩
    walk_at "st"
    refine ⟨(by rw [AaO,e1,sizeLine_eq]; omega),?_⟩
    refine ⟨(by rw [AaO,e1,sizeLine_eq]; omega),?_⟩
    exact ⟨(by show 1≤sizeLine; decide),q⟩
   ·rw [if_pos ⟨hk,hv⟩] at q
    rw [decide_eq_false hv]
    refine AgH ?_
    walk_at "st"
    refine ⟨p,C,dx,fs,_,rfl,hp,R.c.cls,R.c.h,F3.h,?_⟩
    walk_at "st"
    refine ⟨_,_,_,_,rfl,rfl,R.ha,Aet h0 h1,?_⟩
    exact q
  ·rw [if_neg hk]
   rw [if_neg (fun z=>hk z.1)] at q
   exact q
end
local macro_rules | `(tactic| walk_at "st")=>`(tactic| repeat (first
 | refine ⟨_,rfl,?_⟩
 | refine ⟨_,_,rfl,rfl,?_⟩
 | refine ⟨_,_,rfl,?_⟩
 | refine Or.inl ⟨_,_,rfl,rfl,?_⟩
 | refine Or.inl ⟨rfl,?_⟩
 | refine ⟨rfl,?_⟩
 | refine Or.inl ⟨_,_,_,_,rfl,rfl,.of (by assumption),rfl,?_⟩
 | (refine And.intro (show Aeq _ _ from ?_) ?_; (first | exact Or.inr ⟨by omega,by omega⟩ | exact Or.inl ⟨by omega,by omega⟩))
 | (refine And.intro (show Ae4 _ _ from ?_) ?_; exact ⟨by omega,by omega⟩)
 | (refine And.intro (show (0:Int) < _ from ?_) ?_; first | decide | omega)))
def AaE (ws:List Addr) (H H':Hp):Prop:=∀ b o,b ∉ ws→H b=some o→H' b=some o
def Apz (ra rb rc:Addr):List (Str×V):=[("held_by",.ref ra),("jammed",.ref rb),("taken",.ref rc)]
def Ak6 (K:PySem.W.Frag) (a:Adr):Sp:=fun vs H Q _=>∃ (p:Addr) (many:Int) (C dx:Addr),vs=[.ref p,.int many]∧H p=some (.ins C dx [])∧SwC K a C∧0≤many∧many≤1000 ∧
 ∀ H' ra rb rc,AaE [p] H H'→H' p=some (.ins C dx (Apz ra rb rc))→H ra=none→H rb=none→H rc=none→H' ra=some (.lst (List.replicate many.toNat .non))→H' rb=some (.lst ((List.replicate many.toNat false).map V.bl))→H' rc=some (.lst ((List.replicate many.toNat (0:Int)).map V.int)) →
  ra≠rb→ra≠rc→rb≠rc→Q .non H'
theorem AdC {α:Type} (x:α):∀ n:Nat,(List.replicate n [x]).flatten=List.replicate n x
 | 0=>rfl
 | n + 1=>by rw [List.replicate_succ,List.flatten_cons,AdC x n]; rfl
def frB (hs:List V) (js:List Bool) (k:Int):Bool:=decide (hs.getD k.toNat .non=.non) && !(js.getD k.toNat false)
def AfM (hs:List V) (js:List Bool) (AaV:Int):Option Int:=(AaM AaV hs.length++AaM 0 AaV).find? (frB hs js)
def ArL:Option Int→V
 | some k=>.int k
 | none=>.non
def Akp (K:PySem.W.Frag) (a:Adr):Sp:=fun vs H Q _=>∃ (p:Addr) (AaV:Int) (C ra rb rc:Addr) (hs:List V) (js:List Bool) (ts:List Int),vs=[.ref p,.int AaV]∧AlE K a H p C ra rb rc hs js ts∧0≤AaV∧AaV≤hs.length∧∀ H',Aav H H'→Q (ArL (AfM hs js AaV)) H'
section
variable {P:Program} {w:World} {K:PySem.W.Frag} {mg:Str→Option Value} {base:Heap} {a:Adr}
theorem AfN:Aat ["self","many"] ["self","many"] (Aaa (Aab (top 16) 0)):=⟨rfl,rfl,rfl,by decide +kernel,rfl,by decide +kernel,by decide +kernel⟩
theorem Abx:Nm (Aaa (Aab (top 16) 0)) "self":=by walk_at "k"
theorem Aby:Nm (Aaa (Aab (top 16) 0)) "many":=by walk_at "k"
theorem Am3 {f:Addr} {fd:FuncData} (F:Fun K "__init__" "Switches.__init__" (Aab (top 16) 0) f fd) (T:TxtS K mg a):Aco P w K mg base CX0 1 f fd ["self","many"] (Ak6 K a):=by
 refine F.ok AfN (fun vs H Q E h=>?_) (fun cdv A outer s H vs Q E hr h=>?_)
 ·obtain ⟨p,many,C,dx,rfl,_⟩:=h
  rfl
 ·obtain ⟨p,many,C,dx,rfl,hp,c,h0,h1,q⟩:=h
  refine ⟨_,(@Aae _ _ _ _ _ (AbB (pvN 0 Abx) (AaD Abw (Aa6 (Aac AcQ Aaf)) (pvN 1 Aby)) rfl)
    (Aae (AbB (pvN 0 Abx) (AaD Abw (Aa6 (Aac Aho Aaf)) (pvN 1 Aby)) rfl)
    (Aag (AbB (pvN 0 Abx) (AaD Abw (Aa6 (Aac Aal Aaf)) (pvN 1 Aby)) rfl)))),?_⟩
  walk_at "st"
  refine ⟨(by show 1≤sizeLine; decide),fun l1 nl1=>?_⟩
  walk_at "st"
  refine Or.inr (Or.inr ⟨l1,many,[.non],rfl,rfl,Aad,by omega,by omega,(by rw [List.length_singleton,sizeLine_eq]; omega),fun l2 nl2=>?_⟩)
  generalize hA1:upd H l1 (.lst [.non])=HA1 at nl2 ⊢
  have sA1:Aav H HA1:=hA1▸(Aav.refl H).upd nl1
  generalize hB1:upd HA1 l2 (.lst (List.replicate many.toNat [.non]).flatten)=HB1
  have sB1:Aav H HB1:=hB1▸sA1.upd nl2
  have e1:HB1 l2=some (.lst (List.replicate many.toNat [.non]).flatten):=hB1▸Aad
  have f1:H l2=none:=sA1.free nl2
  walk_at "st"
  refine ⟨p,C,dx,[],rfl,sB1 _ _ hp,c.cls,c.h,(by show 0 < 1000; decide),?_⟩
  generalize hC1:upd HB1 p (.ins C dx (AbN "held_by" (.ref l2) []))=HC1
  have p1:HC1 p=some (.ins C dx [("held_by",.ref l2)]):=hC1▸Aad
  have x1:AaE [p] H HC1:=fun b o hb e=>by rw [← hC1,Aah (by simpa using hb)]; exact sB1 b o e
  have np1:l2≠p:=fun z=>by rw [z,hp] at f1; cases f1
  have c1:HC1 l2=some (.lst (List.replicate many.toNat [.non]).flatten):=by rw [← hC1,Aah np1]; exact e1
  walk_at "st"
  refine ⟨(by show 1≤sizeLine; decide),fun l3 nl3=>?_⟩
  walk_at "st"
  refine Or.inr (Or.inr ⟨l3,many,[.bl false],rfl,rfl,Aad,by omega,by omega,(by rw [List.length_singleton,sizeLine_eq]; omega),fun l4 nl4=>?_⟩)
  generalize hA2:upd HC1 l3 (.lst [.bl false])=HA2 at nl4 ⊢
  have sA2:Aav HC1 HA2:=hA2▸(Aav.refl HC1).upd nl3
  generalize hB2:upd HA2 l4 (.lst (List.replicate many.toNat [.bl false]).flatten)=HB2
  have sB2:Aav HC1 HB2:=hB2▸sA2.upd nl4
  have e2:HB2 l4=some (.lst (List.replicate many.toNat [.bl false]).flatten):=hB2▸Aad
  have f2:HC1 l4=none:=sA2.free nl4
  walk_at "st"
  refine ⟨p,C,dx,[("held_by",.ref l2)],rfl,sB2 _ _ p1,c.cls,c.j,(by show 1 < 1000; decide),?_⟩
  generalize hC2:upd HB2 p (.ins C dx (AbN "jammed" (.ref l4) [("held_by",.ref l2)]))=HC2
  have p2:HC2 p=some (.ins C dx [("held_by",.ref l2),("jammed",.ref l4)]):=hC2▸Aad
  have x2:AaE [p] HC1 HC2:=fun b o hb e=>by rw [← hC2,Aah (by simpa using hb)]; exact sB2 b o e
  have np2:l4≠p:=fun z=>by rw [z,p1] at f2; cases f2
  have c2:HC2 l4=some (.lst (List.replicate many.toNat [.bl false]).flatten):=by rw [← hC2,Aah np2]; exact e2
  walk_at "st"
  refine ⟨(by show 1≤sizeLine; decide),fun l5 nl5=>?_⟩
  walk_at "st"
  refine Or.inr (Or.inr ⟨l5,many,[.int 0],rfl,rfl,Aad,by omega,by omega,(by rw [List.length_singleton,sizeLine_eq]; omega),fun l6 nl6=>?_⟩)
  generalize hA3:upd HC2 l5 (.lst [.int 0])=HA3 at nl6 ⊢
  have sA3:Aav HC2 HA3:=hA3▸(Aav.refl HC2).upd nl5
  generalize hB3:upd HA3 l6 (.lst (List.replicate many.toNat [.int 0]).flatten)=HB3
  have sB3:Aav HC2 HB3:=hB3▸sA3.upd nl6
  have e3:HB3 l6=some (.lst (List.replicate many.toNat [.int 0]).flatten):=hB3▸Aad
  have f3:HC2 l6=none:=sA3.free nl6
  walk_at "st"
  refine ⟨p,C,dx,[("held_by",.ref l2),("jammed",.ref l4)],rfl,sB3 _ _ p2,c.cls,c.t,(by show 2 < 1000; decide),?_⟩
  generalize hC3:upd HB3 p (.ins C dx (AbN "taken" (.ref l6) [("held_by",.ref l2),("jammed",.ref l4)]))=HC3
  have p3:HC3 p=some (.ins C dx (Apz l2 l4 l6)):=hC3▸Aad
  have x3:AaE [p] HC2 HC3:=fun b o hb e=>by rw [← hC3,Aah (by simpa using hb)]; exact sB3 b o e
  have np3:l6≠p:=fun z=>by rw [z,p2] at f3; cases f3
  have c3:HC3 l6=some (.lst (List.replicate many.toNat [.int 0]).flatten):=by rw [← hC3,Aah np3]; exact e3
  have one:∀ {b:Addr},b≠p→b ∉ [p]:=fun h z=>h (by simpa using z)
  have c12:=x2 _ _ (one np1) c1
  have c13:=x3 _ _ (one np1) c12
  have c23:=x3 _ _ (one np2) c2
  have g4:H l4=none:=by
   cases z:H l4 with
   | none=>rfl
   | some o=>have:=x1 _ _ (one np2) z; rw [this] at f2; cases f2
  have g6:H l6=none:=by
   cases z:H l6 with
   | none=>rfl
   | some o=>have:=x2 _ _ (one np3) (x1 _ _ (one np3) z); rw [this] at f3; cases f3
  rw [AdC] at c13 c23 c3
  refine q HC3 l2 l4 l6 (fun b o hb e=>x3 _ _ hb (x2 _ _ hb (x1 _ _ hb e))) p3 f1 g4 g6 c13 (by rw [List.map_replicate]; exact c23) (by rw [List.map_replicate]; exact c3) ?_ ?_ ?_
  ·exact fun z=>by rw [← z,c1] at f2; cases f2
  ·exact fun z=>by rw [← z,c12] at f3; cases f3
  ·exact fun z=>by rw [← z,c2] at f3; cases f3
theorem AcT:Aat ["self","start","k"] ["self","start"] (Aaa (Aab (top 16) 1)):=⟨rfl,rfl,rfl,by decide +kernel,rfl,by decide +kernel,by decide +kernel⟩
theorem Abd:Nm (Aaa (Aab (top 16) 1)) "self":=by walk_at "k"
theorem Ab3:Nm (Aaa (Aab (top 16) 1)) "start":=by walk_at "k"
theorem Aa1:Nm (Aaa (Aab (top 16) 1)) "k":=by walk_at "k"
theorem Ab9:Gm (Aaa (Aab (top 16) 1)) "list":=by walk_at "k"
theorem Ab4:Gm (Aaa (Aab (top 16) 1)) "range":=by walk_at "k"
theorem Ad4:Gm (Aaa (Aab (top 16) 1)) "len":=by walk_at "k"
theorem Aoa {f:Addr} {fd:FuncData} (F:Fun K "first_free" "Switches.first_free" (Aab (top 16) 1) f fd) (T:TxtS K mg a):Aco P w K mg base CX0 1 f fd ["self","start"] (Akp K a):=by
 refine F.ok AcT (fun vs H Q E h=>?_) (fun cdv A outer s H vs Q E hr h=>?_)
 ·obtain ⟨p,AaV,C,ra,rb,rc,hs,js,ts,rfl,_⟩:=h
  rfl
 ·obtain ⟨p,AaV,C,ra,rb,rc,hs,js,ts,rfl,R,h0,h1,q⟩:=h
  obtain ⟨dx,fs,hp,F3⟩:=R.ins
  have nd:=AcT.nd
  have hz:=R.z
  refine ⟨_,(@Aae _ _ _ _ _ (Ae3 PassesOwn.never rfl (Aeh (AaD AbG (Afa (Ac4 rfl) Ab9 T.n_list Afm (Aac (Afa Af6 Ab4 T.n_range AiN (Aac (pvN 1 Ab3) (Aac (Ac3 AaP Ad4 T.n_len Ack (Aac (Aau (pvN 0 Abd) rfl) Aaf)) Aaf))) Aaf)) (Afa (Ac4 rfl) Ab9 T.n_list Afm (Aac (Afa Af6 Ab4 T.n_range AiN (Aac (pvN 1 Ab3) Aaf)) Aaf)))) (AcB 2 nd Aa1) (Aag (AbC (PW.pt (AlR (AaB Aic (Abt AaT (Aau (pvN 0 Abd) rfl) (pvN 2 Aa1) (fun _ _=>rfl)) AcQ (AaY _)) (AjV (Aep (Ad9 (Abt AaT (Aau (pvN 0 Abd) rfl) (pvN 2 Aa1) (fun _ _=>rfl))))))) (Aag (AaL (pvN 2 Aa1))) AaF)))
    (Aag (AaL AcQ))),?_⟩
  walk_at "st"
  refine ⟨p,C,dx,fs,_,rfl,hp,R.c.cls,R.c.h,F3.h,?_⟩
  walk_at "st"
  refine Or.inr ⟨_,_,rfl,.inl (.of R.ha),?_⟩
  walk_at "st"
  have sm1:Sm AaV:=⟨by omega,by omega⟩
  have sm2:Sm (hs.length:Int):=⟨by omega,by omega⟩
  have sm0:Sm 0:=⟨by decide,by decide⟩
  refine Or.inr ⟨AaV,hs.length,rfl,sm1,sm2,fun r1 n1=>?_⟩
  refine Or.inr ⟨r1,AaV,hs.length,rfl,Aad,sm1,sm2,(by rw [sizeLine_eq]; omega),fun l1 m1=>?_⟩
  have s1:=(Aav.refl H).upd (o:=.rng AaV hs.length) n1
  have s2:=s1.upd (o:=.lst ((AaM AaV hs.length).map V.int)) m1
  walk_at "st"
  refine Or.inl ⟨AaV,rfl,sm1,fun r2 n2=>?_⟩
  have s3:=s2.upd (o:=.rng 0 AaV) n2
  have k1:=((Aav.refl _).upd (o:=.rng 0 AaV) n2) l1 _ Aad
  refine Or.inr ⟨r2,0,AaV,rfl,Aad,sm0,sm1,(by rw [sizeLine_eq]; omega),fun l2 m2=>?_⟩
  have s4:=s3.upd (o:=.lst ((AaM 0 AaV).map V.int)) m2
  have k2:=((Aav.refl _).upd (o:=.lst ((AaM 0 AaV).map V.int)) m2) l1 _ k1
  refine Or.inr (Or.inr ⟨l1,l2,_,_,rfl,rfl,k2,Aad,(by rw [List.length_map,List.length_map,Abk,Abk,sizeLine_eq]; omega),fun l3 n3=>?_⟩)
  rw [← List.map_append]
  have s5:=s4.upd (o:=.lst ((AaM AaV hs.length++AaM 0 AaV).map V.int)) n3
  generalize hU:upd _ l3 (.lst ((AaM AaV hs.length++AaM 0 AaV).map V.int))=HU at s5 ⊢
  have e3:HU l3=some (.lst ((AaM AaV hs.length++AaM 0 AaV).map V.int)):=hU▸Aad
  have q':∀ r,r=AfM hs js AaV→Q (ArL r) HU:=fun r e=>by rw [e]; exact q HU s5
  have RU:=R.same s5
  clear hU
  have mem:∀ k∈AaM AaV hs.length++AaM 0 AaV,0≤k∧k < hs.length:=fun k hk=>by
   rcases List.mem_append.mp hk with h | h <;> obtain ⟨n,hn,rfl⟩:=List.mem_map.mp h <;> have:=List.mem_range.mp hn <;> constructor <;> omega
  unfold AfM at q'
  generalize AaM AaV hs.length++AaM 0 AaV=ord at e3 q' mem ⊢
  obtain ⟨dx',fs',hp',F3'⟩:=RU.ins
  walk_at "st"
  refine ⟨⟨_,.of e3⟩,AeL (K:=K) (a:=l3) (xs:=ord.map V.int) (fun i σ H2=>∃ x,σ=[some (.ref p),some (.int AaV),x]∧H2=HU∧(ord.take i).find? (frB hs js)=none) ⟨none,rfl,rfl,rfl⟩ (fun i σ H2 _ ⟨_,_,e,_⟩=>e▸.of e3) ?_ ?_⟩
  ·rintro i y σ H2 hi ⟨x,rfl,rfl,hf⟩
   rw [List.getElem?_map] at hi
   cases hk:ord[i]? with
   | none=>rw [hk] at hi; cases hi
   | some k =>
    rw [hk] at hi; cases hi
    obtain ⟨k0,k1⟩:=mem k (List.mem_of_getElem? hk)
    obtain ⟨v,e1,e2⟩:=Aju (xs:=hs) k0 k1
    have lj:=RU.lj
    obtain ⟨u,e4,e5⟩:=Aju (xs:=js.map V.bl) k0 (by rw [List.length_map]; omega)
    obtain ⟨jb,e6,rfl⟩:∃ jb,js[k.toNat]?=some jb∧u=.bl jb:=by
     rw [List.getElem?_map] at e5
     cases z:js[k.toNat]? with
     | none=>rw [z] at e5; cases e5
     | some jb=>rw [z] at e5; cases e5; exact ⟨jb,rfl,rfl⟩
    have fr:frB hs js k=(decide (v=.non) && !jb):=by
     unfold frB
     rw [List.getD,e2,List.getD,e6]; rfl
    have tk:(ord.take (i + 1)).find? (frB hs js)=if frB hs js k=true then some k else none:=by
     rw [List.take_add_one,hk,List.find?_append,hf]
     show none.or (List.find? (frB hs js) [k])=_
     rw [List.find?_cons]
     cases frB hs js k <;> rfl
    walk_at "st"
    refine ⟨p,C,dx',fs',_,rfl,hp',R.c.cls,R.c.h,F3'.h,?_⟩
    walk_at "st"
    refine Or.inl ⟨_,_,_,_,rfl,rfl,.of RU.ha,e1,?_⟩
    walk_at "st"
    have whole:frB hs js k=true→some k=ord.find? (frB hs js):=fun h=>by
     rw [if_pos h] at tk
     conv=>rhs; rw [← List.take_append_drop (i + 1) ord]
     rw [List.find?_append,tk]; rfl
    have next:frB hs js k=false→(ord.take (i + 1)).find? (frB hs js)=none:=fun h=>by rw [tk,h]; rfl
    by_cases hv:v=.non
    ·rw [decide_eq_true hv]
     rw [decide_eq_true hv] at fr
     refine AgI ?_
     walk_at "st"
     refine ⟨p,C,dx',fs',_,rfl,hp',R.c.cls,R.c.j,F3'.j,?_⟩
     walk_at "st"
     refine Or.inl ⟨_,_,_,_,rfl,rfl,.of RU.hb,e4,?_⟩
     walk_at "st"
     cases jb with
     | false =>
      refine AgI ?_
      walk_at "st"
      exact q' (some k) (whole fr)
     | true =>
      refine AgH ?_
      exact ⟨_,rfl,rfl,next fr⟩
    ·rw [decide_eq_false hv]
     rw [decide_eq_false hv] at fr
     refine AgH ?_
     refine AgH ?_
     exact ⟨_,rfl,rfl,next fr⟩
  ·rintro σ H2 ⟨x,rfl,rfl,hf⟩
   walk_at "st"
   rw [List.length_map,List.take_length] at hf
   exact q' none hf.symm
end
local macro_rules | `(tactic| walk_at "st")=>`(tactic| repeat (first
 | refine ⟨_,rfl,?_⟩
 | refine ⟨_,_,rfl,rfl,?_⟩
 | refine ⟨_,_,rfl,?_⟩
 | refine Or.inl ⟨_,_,rfl,rfl,?_⟩
 | refine Or.inl ⟨rfl,?_⟩
 | refine ⟨rfl,?_⟩
 | refine Or.inl ⟨_,_,_,_,rfl,rfl,.of (by assumption),rfl,?_⟩
 | (refine And.intro (show Aeq _ _ from ?_) ?_; (first | exact Or.inr ⟨by omega,by omega⟩ | exact Or.inl ⟨by omega,by omega⟩))
 | (refine And.intro (show Ae4 _ _ from ?_) ?_; exact ⟨by omega,by omega⟩)
 | (refine And.intro (show (0:Int) < _ from ?_) ?_; first | decide | omega)))
def Afn (js:List Bool) (n:Nat):List Int:=((List.range n).filter fun k=>js.getD k false).map fun (k:Nat)=>(k:Int)
theorem AhO (js:List Bool) (n:Nat):Afn js (n + 1)=Afn js n++if js.getD n false=true then [(n:Int)] else []:=by
 unfold Afn
 rw [List.range_succ,List.filter_append,List.map_append]
 congr 1
 rw [List.filter_cons,List.filter_nil]
 by_cases h:js.getD n false=true
 ·rw [if_pos h,if_pos h]; rfl
 ·rw [if_neg h,if_neg h]; rfl
theorem AlH (js:List Bool) (n:Nat):(Afn js n).length≤n:=by
 unfold Afn
 rw [List.length_map]
 have:=List.length_filter_le (fun k=>js.getD k false) (List.range n)
 rwa [List.length_range] at this
def Akq (K:PySem.W.Frag) (a:Adr):Sp:=fun vs H Q _=>∃ (p C ra rb rc:Addr) (hs:List V) (js:List Bool) (ts:List Int),vs=[.ref p]∧AlE K a H p C ra rb rc hs js ts ∧
 ∀ H' r,Aav H H'→H r=none→H' r=some (.lst ((Afn js js.length).map V.int))→Q (.ref r) H'
def Afo (hs:List V) (st:Nat→Bool) (n:Nat):List V:=(List.range n).map fun k=>if hs.getD k .non=.non then (if st k=true then V.str "stuck" else V.str "free") else hs.getD k .non
theorem ApA (i:Int) (ks:List Int):inV (.int i) (ks.map V.int)=decide (i∈ks):=by
 unfold inV
 rw [List.any_map,Bool.eq_iff_iff,List.any_eq_true,decide_eq_true_eq]
 constructor
 ·rintro ⟨k,hk,e⟩
  have e':(k == i)=true:=e
  rw [← beq_iff_eq.mp e']; exact hk
 ·exact fun h=>⟨i,h,(beq_self_eq_true i:(i == i)=true)⟩
theorem Aob (ks:List Int):(ks.map V.int).all Afl=true:=by
 rw [List.all_map,List.all_eq_true]
 exact fun _ _=>rfl
theorem AhP (hs:List V) (st:Nat→Bool) (n:Nat):Afo hs st (n + 1)=Afo hs st n++[if hs.getD n .non=.non then (if st n=true then V.str "stuck" else V.str "free") else hs.getD n .non]:=by
 unfold Afo
 rw [List.range_succ,List.map_append]; rfl
def AhQ (K:PySem.W.Frag):Sp:=fun vs H Q _=>∃ (h s:Addr) (hs:List V) (ks:List Int),vs=[.ref h,.ref s]∧H h=some (.lst hs)∧H s=some (.lst (ks.map V.int))∧hs.length≤1000 ∧
 ∀ H' t,Aav H H'→H t=none→H' t=some (.tup (Afo hs (fun k=>decide ((k:Int)∈ks)) hs.length))→Q (.ref t) H'
section
variable {P:Program} {w:World} {K:PySem.W.Frag} {mg:Str→Option Value} {base:Heap} {a:Adr}
theorem AgO:Aat ["self"] ["self"] (Aaa (Aab (top 16) 8)):=⟨rfl,rfl,rfl,by decide +kernel,rfl,by decide +kernel,by decide +kernel⟩
theorem Afc:Nm (Aaa (Aab (top 16) 8)) "self":=by walk_at "k"
theorem AdM:Gm (Aaa (Aab (top 16) 8)) "enumerate":=by walk_at "k"
def Acm:Scope:={ kind:=.function,names:=[(".0",.local),("k",.local),("jammed",.local)],isGenerator:=false,isCoroutine:=false,more:=[] }
theorem Acs:Abc Acm (Aaa (Aab (top 16) 8)) ["k","jammed"] ["self"] [none,none]:=Abc.mk' rfl (by decide +kernel) (by decide +kernel) (by decide +kernel) (by decide +kernel) rfl (by decide +kernel)
theorem AcU:Nm Acm "k":=by walk_at "k"
theorem Aca:Nm Acm "jammed":=by walk_at "k"
theorem Aoc {f:Addr} {fd:FuncData} (F:Fun K "stuck" "Switches.stuck" (Aab (top 16) 8) f fd) (T:TxtS K mg a):Aco P w K mg base CX0 1 f fd ["self"] (Akq K a):=by
 refine F.ok AgO (fun vs H Q E h=>?_) (fun cdv A outer s H vs Q E hr h=>?_)
 ·obtain ⟨p,C,ra,rb,rc,hs,js,ts,rfl,_⟩:=h
  rfl
 ·obtain ⟨p,C,ra,rb,rc,hs,js,ts,rfl,R,q⟩:=h
  obtain ⟨dx,fs,hp,F3⟩:=R.ins
  have hz:=R.z
  have hj:=R.lj
  refine ⟨_,(@Aag _ _ _ (AaL (Aj3 rfl Acs (Aml AdM T.n_enumerate (Aac (Aau (pvN 0 Afc) rfl) Aaf)) (fun cl C fp pins s₂ H₂=>(AiP (X:=Aay _ _ _ cl C fp pins s₂ H₂) K rfl 2 rfl (AbD (AcB 0 Acs.nd AcU.comp) (AbD (AcB 1 Acs.nd Aca.comp) Afk)) rfl rfl)) (fun cl C fp pins s₂ H₂=>(Amj (Ad9 (pvN 1 Aca.comp)))) (fun cl C fp pins s₂ H₂=>(pvN 0 AcU.comp))))),?_⟩
  walk_at "st"
  refine ⟨p,C,dx,fs,_,rfl,hp,R.c.cls,R.c.j,F3.j,?_⟩
  refine ⟨_,_,rfl,.of R.hb,fun D hD=>?_⟩
  refine Amu (K:=K) (a:=rb) (xs:=js.map V.bl) (fun i σ H'=>∃ x y,σ=[x,y]∧Aav H H'∧H' D=some (.lst ((Afn js i).map V.int))) ⟨none,none,rfl,(Aav.refl H).upd hD,Aad⟩ (fun i σ H' _ ⟨_,_,_,sm,_⟩=>.of (sm _ _ R.hb)) ?_ ?_
  ·rintro i x t σ H' hi ⟨x0,x1,rfl,sm,hL⟩ ht
   rw [List.getElem?_map] at hi
   cases hk:js[i]? with
   | none=>rw [hk] at hi; cases hi
   | some jb =>
    rw [hk] at hi; cases hi
    have eg:js.getD i false=jb:=by rw [List.getD,hk]; rfl
    have ilt:i < js.length:=(List.getElem?_eq_some_iff.mp hk).1
    refine ⟨t,_,rfl,.of Aad,rfl,?_⟩
    walk_at "st"
    have hL2:=((Aav.refl H').upd (o:=.tup [.int i,.bl jb]) ht) D _ hL
    have sm2:=sm.upd (o:=.tup [.int i,.bl jb]) ht
    cases jb with
    | true =>
     refine AgI ?_
     walk_at "st"
     refine ⟨_,hL2,?_,_,_,rfl,sm2.updN hD,?_⟩
     ·rw [List.length_map,sizeLine_eq]; have:=AlH js i; omega
     ·rw [Aad,AhO,eg,if_pos rfl,List.map_append]; rfl
    | false =>
     refine AgH ?_
     refine ⟨_,_,rfl,sm2,?_⟩
     rw [hL2,AhO,eg,if_neg (by decide),List.append_nil]
  ·rintro σ H' ⟨x0,x1,rfl,sm,hL⟩
   rw [List.length_map] at hL
   exact q H' D sm hD hL
end
local macro_rules | `(tactic| walk_at "st")=>`(tactic| repeat (first
 | refine ⟨_,rfl,?_⟩
 | refine ⟨_,_,rfl,rfl,?_⟩
 | refine ⟨_,_,rfl,?_⟩
 | refine Or.inl ⟨_,_,rfl,rfl,?_⟩
 | refine Or.inl ⟨rfl,?_⟩
 | refine ⟨rfl,?_⟩
 | refine Or.inl ⟨_,_,_,_,rfl,rfl,.of (by assumption),rfl,?_⟩
 | (refine And.intro (show Aeq _ _ from ?_) ?_; (first | exact Or.inr ⟨by omega,by omega⟩ | exact Or.inl ⟨by omega,by omega⟩))
 | (refine And.intro (show Ae4 _ _ from ?_) ?_; exact ⟨by omega,by omega⟩)
 | (refine And.intro (show (0:Int) < _ from ?_) ?_; first | decide | omega)))
theorem AlI {js:List Bool} {n k:Nat} (h:k < n):decide ((k:Int)∈Afn js n)=js.getD k false:=by
 unfold Afn
 rw [Bool.eq_iff_iff,decide_eq_true_eq,List.mem_map]
 constructor
 ·rintro ⟨m,hm,e⟩
  have:m=k:=by omega
  subst this
  exact (List.mem_filter.mp hm).2
 ·exact fun e=>⟨k,List.mem_filter.mpr ⟨List.mem_range.mpr h,e⟩,rfl⟩
theorem AjE {n:Nat} {AaV k:Int} (h0:0≤AaV) (h1:AaV≤n) (h:k∈AaM AaV n++AaM 0 AaV):0≤k∧k < n:=by
 rcases List.mem_append.mp h with h | h <;> obtain ⟨m,hm,rfl⟩:=List.mem_map.mp h <;> have:=List.mem_range.mp hm <;> constructor <;> omega
theorem Agu {hs:List V} {js:List Bool} {AaV k:Int} (h0:0≤AaV) (h1:AaV≤hs.length) (h:AfM hs js AaV=some k):(0≤k∧k < hs.length)∧frB hs js k=true:=⟨AjE h0 h1 (List.mem_of_find?_eq_some h),List.find?_some h⟩
structure SkC (K:PySem.W.Frag) (a:Adr) (C:Addr):Prop where
 c:SwC K a C
 p:Abh K C "places"
 s:Abh K C "stands"
 w:Abh K C "went"
 m:Abh K C "mark_at"
def Aqy (ra rb rc:Addr) (places:Int) (rs rw:Addr) (mark:Int):List (Str×V):=[("held_by",.ref ra),("jammed",.ref rb),("taken",.ref rc),("places",.int places),("stands",.ref rs),("went",.ref rw),("mark_at",.int mark)]
theorem Ag2 (ra rb rc:Addr) (places:Int) (rs rw:Addr) (mark:Int):Fs (Aqy ra rb rc places rs rw mark) ra rb rc:=by
 refine ⟨rfl,rfl,rfl,fun x hx=>?_⟩
 simp only [List.mem_cons,List.not_mem_nil,or_false] at hx
 rcases hx with rfl | rfl | rfl | rfl | rfl | rfl | rfl | rfl | rfl | rfl | rfl <;> rfl
structure Sek (K:PySem.W.Frag) (a:Adr) (H:Hp) (p C ra rb rc rs rw:Addr) (hs:List V) (js:List Bool) (ts:List Int) (places mark:Int) (st wt:List Int):Prop where
 ins:∃ dx,H p=some (.ins C dx (Aqy ra rb rc places rs rw mark))
 cs:SkC K a C
 ha:H ra=some (.lst hs)
 hb:H rb=some (.lst (js.map V.bl))
 hc:H rc=some (.lst (ts.map V.int))
 hs_:H rs=some (.lst (st.map V.int))
 hw:H rw=some (.lst (wt.map V.int))
 ap:[ra,rb,rc,rs,rw].Nodup
 lj:js.length=hs.length
 lt:ts.length=hs.length
 ls:st.length=hs.length
 lw:wt.length=hs.length
 z:hs.length≤1000
theorem Sek.r {K:PySem.W.Frag} {a:Adr} {H:Hp} {p C ra rb rc rs rw:Addr} {hs:List V} {js:List Bool} {ts:List Int} {places mark:Int} {st wt:List Int} (k:Sek K a H p C ra rb rc rs rw hs js ts places mark st wt):AlE K a H p C ra rb rc hs js ts:=by
 obtain ⟨dx,e⟩:=k.ins
 have ap:=k.ap
 simp only [List.nodup_cons,List.mem_cons,List.not_mem_nil,or_false,not_or,not_false_eq_true,List.nodup_nil,and_true] at ap
 obtain ⟨⟨a1,a2,a3,a4⟩,⟨b1,b2,b3⟩,⟨c1,c2⟩,d1⟩:=ap
 exact ⟨⟨dx,_,e,Ag2 ..⟩,k.cs.c,k.ha,k.hb,k.hc,a1,a2,b1,k.lj,k.lt,k.z⟩
theorem Sek.same {K:PySem.W.Frag} {a:Adr} {H H':Hp} {p C ra rb rc rs rw:Addr} {hs:List V} {js:List Bool} {ts:List Int} {places mark:Int} {st wt:List Int} (k:Sek K a H p C ra rb rc rs rw hs js ts places mark st wt) (s:Aav H H'):Sek K a H' p C ra rb rc rs rw hs js ts places mark st wt:=by
 obtain ⟨dx,e⟩:=k.ins
 exact ⟨⟨dx,s _ _ e⟩,k.cs,s _ _ k.ha,s _ _ k.hb,s _ _ k.hc,s _ _ k.hs_,s _ _ k.hw,k.ap,k.lj,k.lt,k.ls,k.lw,k.z⟩
def Akr (K:PySem.W.Frag) (a:Adr):Sp:=fun vs H Q _=>∃ (p:Addr) (many places:Int) (C dx:Addr),vs=[.ref p,.int many,.int places]∧H p=some (.ins C dx [])∧SkC K a C∧0≤many∧many≤1000 ∧
 ∀ H' ra rb rc rs rw,AaE [p] H H'→Sek K a H' p C ra rb rc rs rw (List.replicate many.toNat .non) (List.replicate many.toNat false) (List.replicate many.toNat 0) places 0 (List.replicate many.toNat 0) (List.replicate many.toNat 0)→H ra=none→H rb=none→H rc=none→H rs=none→H rw=none→Q .non H'
def Aks (K:PySem.W.Frag) (a:Adr):Sp:=fun vs H Q _=>∃ (p C ra rb rc rs rw:Addr) (hs:List V) (js:List Bool) (ts:List Int) (places mark:Int) (st wt:List Int),vs=[.ref p]∧Sek K a H p C ra rb rc rs rw hs js ts places mark st wt∧∀ l,H l=none→Q (.ref l) (upd H l (.lst (wt.map V.int)))
def Akt (K:PySem.W.Frag) (a:Adr):Sp:=fun vs H Q _=>∃ (p C ra rb rc rs rw:Addr) (hs:List V) (js:List Bool) (ts:List Int) (places mark:Int) (st wt:List Int) (place:Int),vs=[.ref p,.int place]∧Sek K a H p C ra rb rc rs rw hs js ts places mark st wt∧0≤mark∧mark≤hs.length∧0 < places ∧
 match AfM hs js mark with
 | none=>∀ H',Aav H H'→Q .non H'
 | some k=>∀ H' t,AaE [p,ra,rc,rs,rw] H H'→H t=none→H' t=some (.tup [.int k,.int ((place - st.getD k.toNat 0) % places)]) →
   Sek K a H' p C ra rb rc rs rw (hs.set k.toNat (.int place)) js (ts.set k.toNat (ts.getD k.toNat 0 + 1)) places ((k + 1) % hs.length) (st.set k.toNat place) (wt.set k.toNat (wt.getD k.toNat 0 + (place - st.getD k.toNat 0) % places))→Q (.ref t) H'
structure TxtK (K:PySem.W.Frag) (mg:Str→Option Value) (a:Adr):Prop extends TxtS K mg a where
 g_Switches:mg "Switches"=some (.ref a.Switches)
section
variable {P:Program} {w:World} {K:PySem.W.Frag} {mg:Str→Option Value} {base:Heap} {a:Adr}
theorem Ahd:Aat ["self"] ["self"] (Aaa (Aab (top 23) 3)):=⟨rfl,rfl,rfl,by decide +kernel,rfl,by decide +kernel,by decide +kernel⟩
theorem Afp:Nm (Aaa (Aab (top 23) 3)) "self":=by walk_at "k"
theorem Afq:Gm (Aaa (Aab (top 23) 3)) "list":=by walk_at "k"
theorem Aod {f:Addr} {fd:FuncData} (F:Fun K "steps" "Seekers.steps" (Aab (top 23) 3) f fd) (T:TxtK K mg a):Aco P w K mg base CX0 1 f fd ["self"] (Aks K a):=by
 refine F.ok Ahd (fun vs H Q E h=>?_) (fun cdv A outer s H vs Q E hr h=>?_)
 ·obtain ⟨p,C,ra,rb,rc,rs,rw,hs,js,ts,places,mark,st,wt,rfl,_⟩:=h
  rfl
 ·obtain ⟨p,C,ra,rb,rc,rs,rw,hs,js,ts,places,mark,st,wt,rfl,k,q⟩:=h
  obtain ⟨dx,e⟩:=k.ins
  refine ⟨_,(@Aag _ _ _ (AaL (Afa (Ac4 rfl) Afq T.n_list Afm (Aac (Aau (pvN 0 Afp) rfl) Aaf)))),?_⟩
  walk_at "st"
  refine ⟨p,C,dx,_,_,rfl,e,k.cs.c.cls,k.cs.w,rfl,?_⟩
  walk_at "st"
  exact Or.inl ⟨_,_,rfl,.inl (.of k.hw),fun l hl=>q l hl⟩
theorem Aga:Aat ["self","many","places"] ["self","many","places"] (Aaa (Aab (top 23) 0)):=⟨rfl,rfl,rfl,by decide +kernel,rfl,by decide +kernel,by decide +kernel⟩
theorem AaQ:Nm (Aaa (Aab (top 23) 0)) "self":=by walk_at "k"
theorem AbH:Nm (Aaa (Aab (top 23) 0)) "many":=by walk_at "k"
theorem Ad5:Nm (Aaa (Aab (top 23) 0)) "places":=by walk_at "k"
theorem AdD:Gm (Aaa (Aab (top 23) 0)) "Switches":=by walk_at "k"
theorem Aoe {f:Addr} {fd:FuncData} (F:Fun K "__init__" "Seekers.__init__" (Aab (top 23) 0) f fd) (T:TxtK K mg a) {fi:Addr} {fdi:FuncData} (CF___init__:CFn K a.Switches fi "__init__") (FO___init__:Aco P w K mg base CX0 1 fi fdi ["self","many"] (Ak6 K a)) (B___init__:Agj K fdi ["self","many"] []) :
  Aco P w K mg base CX0 2 f fd ["self","many","places"] (Akr K a):=by
 refine F.ok Aga (fun vs H Q E h=>?_) (fun cdv A outer s H vs Q E hr h=>?_)
 ·obtain ⟨p,many,places,C,dx,rfl,_⟩:=h
  rfl
 ·obtain ⟨p,many,places,C,dx,rfl,hp,cs,h0,h1,q⟩:=h
  refine ⟨_,(@Aae _ _ _ _ _ (AaN (Aqr CF___init__ AdD T.g_Switches FO___init__ B___init__ (hr.mono (by decide)) AbO (Aac (pvN 0 AaQ) (Aac (pvN 1 AbH) Aaf))))
    (Aae (AbB (pvN 0 AaQ) (pvN 2 Ad5) rfl)
    (Aae (AbB (pvN 0 AaQ) (AaD Abw (Aa6 (Aac Aal Aaf)) (pvN 1 AbH)) rfl)
    (Aae (AbB (pvN 0 AaQ) (AaD Abw (Aa6 (Aac Aal Aaf)) (pvN 1 AbH)) rfl)
    (Aag (AbB (pvN 0 AaQ) Aal rfl)))))),?_⟩
  walk_at "st"
  refine ⟨p,many,C,dx,rfl,hp,cs.c,h0,by omega,fun H1 ra rb rc x0 hp1 fa fb fc ha hb hc ab ac bc=>?_⟩
  walk_at "st"
  refine ⟨p,C,dx,_,rfl,hp1,cs.c.cls,cs.p,(by show 3 < 1000; decide),?_⟩
  generalize hP:upd H1 p (.ins C dx (AbN "places" (.int places) (Apz ra rb rc)))=H2
  have p0:H2 p=some (.ins C dx ([("held_by",.ref ra),("jammed",.ref rb),("taken",.ref rc),("places",.int places)])):=hP▸Aad
  have x1':AaE [p] H1 H2:=fun b o hb e=>by rw [← hP,Aah (by simpa using hb)]; exact e
  walk_at "st"
  refine ⟨(by show 1≤sizeLine; decide),fun l1 nl1=>?_⟩
  walk_at "st"
  refine Or.inr (Or.inr ⟨l1,many,[.int 0],rfl,rfl,Aad,by omega,by omega,(by rw [List.length_singleton,sizeLine_eq]; omega),fun l2 nl2=>?_⟩)
  rw [AdC]
  generalize hA1:upd H2 l1 (.lst [.int 0])=HA1 at nl2 ⊢
  have sA1:Aav H2 HA1:=hA1▸(Aav.refl H2).upd nl1
  generalize hB1:upd HA1 l2 (.lst (List.replicate many.toNat (V.int 0)))=HB1
  have sB1:Aav H2 HB1:=hB1▸sA1.upd nl2
  have e1:HB1 l2=some (.lst (List.replicate many.toNat (V.int 0))):=hB1▸Aad
  have f1:H2 l2=none:=sA1.free nl2
  walk_at "st"
  refine ⟨p,C,dx,([("held_by",.ref ra),("jammed",.ref rb),("taken",.ref rc),("places",.int places)]),rfl,sB1 _ _ p0,cs.c.cls,cs.s,(by show 4 < 1000; decide),?_⟩
  generalize hC1:upd HB1 p (.ins C dx (AbN "stands" (.ref l2) ([("held_by",.ref ra),("jammed",.ref rb),("taken",.ref rc),("places",.int places)])))=HC1
  have p1:HC1 p=some (.ins C dx ([("held_by",.ref ra),("jammed",.ref rb),("taken",.ref rc),("places",.int places),("stands",.ref l2)])):=hC1▸Aad
  have x1:AaE [p] H2 HC1:=fun b o hb e=>by rw [← hC1,Aah (by simpa using hb)]; exact sB1 b o e
  have np1:l2≠p:=fun z=>by rw [z,p0] at f1; cases f1
  have c1:HC1 l2=some (.lst (List.replicate many.toNat (V.int 0))):=by rw [← hC1,Aah np1]; exact e1
  walk_at "st"
  refine ⟨(by show 1≤sizeLine; decide),fun l3 nl3=>?_⟩
  walk_at "st"
  refine Or.inr (Or.inr ⟨l3,many,[.int 0],rfl,rfl,Aad,by omega,by omega,(by rw [List.length_singleton,sizeLine_eq]; omega),fun l4 nl4=>?_⟩)
  rw [AdC]
  generalize hA2:upd HC1 l3 (.lst [.int 0])=HA2 at nl4 ⊢
  have sA2:Aav HC1 HA2:=hA2▸(Aav.refl HC1).upd nl3
  generalize hB2:upd HA2 l4 (.lst (List.replicate many.toNat (V.int 0)))=HB2
  have sB2:Aav HC1 HB2:=hB2▸sA2.upd nl4
  have e2:HB2 l4=some (.lst (List.replicate many.toNat (V.int 0))):=hB2▸Aad
  have f2:HC1 l4=none:=sA2.free nl4
  walk_at "st"
  refine ⟨p,C,dx,([("held_by",.ref ra),("jammed",.ref rb),("taken",.ref rc),("places",.int places),("stands",.ref l2)]),rfl,sB2 _ _ p1,cs.c.cls,cs.w,(by show 5 < 1000; decide),?_⟩
  generalize hC2:upd HB2 p (.ins C dx (AbN "went" (.ref l4) ([("held_by",.ref ra),("jammed",.ref rb),("taken",.ref rc),("places",.int places),("stands",.ref l2)])))=HC2
  have p2:HC2 p=some (.ins C dx ([("held_by",.ref ra),("jammed",.ref rb),("taken",.ref rc),("places",.int places),("stands",.ref l2),("went",.ref l4)])):=hC2▸Aad
  have x2:AaE [p] HC1 HC2:=fun b o hb e=>by rw [← hC2,Aah (by simpa using hb)]; exact sB2 b o e
  have np2:l4≠p:=fun z=>by rw [z,p1] at f2; cases f2
  have c2:HC2 l4=some (.lst (List.replicate many.toNat (V.int 0))):=by rw [← hC2,Aah np2]; exact e2
  walk_at "st"
  refine ⟨p,C,dx,_,rfl,p2,cs.c.cls,cs.m,(by show 6 < 1000; decide),?_⟩
  have one:∀ {b:Addr},b≠p→b ∉ [p]:=fun h z=>h (by simpa using z)
  have npa:ra≠p:=fun z=>by rw [z,hp] at fa; cases fa
  have npb:rb≠p:=fun z=>by rw [z,hp] at fb; cases fb
  have npc:rc≠p:=fun z=>by rw [z,hp] at fc; cases fc
  have up:AaE [p] HC2 (upd HC2 p (.ins C dx (AbN "mark_at" (.int 0) ([("held_by",.ref ra),("jammed",.ref rb),("taken",.ref rc),("places",.int places),("stands",.ref l2),("went",.ref l4)])))):=fun b o hb e=>by rw [Aah (by simpa using hb)]; exact e
  have t1:∀ {b o},b≠p→H1 b=some o→(upd HC2 p (.ins C dx (AbN "mark_at" (.int 0) ([("held_by",.ref ra),("jammed",.ref rb),("taken",.ref rc),("places",.int places),("stands",.ref l2),("went",.ref l4)])))) b=some o:=fun h e=>up _ _ (one h) (x2 _ _ (one h) (x1 _ _ (one h) (x1' _ _ (one h) e)))
  have back:∀ {b},b≠p→H2 b=none→H1 b=none:=fun {b} h e=>by
   cases z:H1 b with
   | none=>rfl
   | some o=>rw [x1' _ _ (one h) z] at e; cases e
  have back0:∀ {b},b≠p→H1 b=none→H b=none:=fun {b} h e=>by
   cases z:H b with
   | none=>rfl
   | some o=>rw [x0 _ _ (one h) z] at e; cases e
  have back1:∀ {b},b≠p→HC1 b=none→H2 b=none:=fun {b} h e=>by
   cases z:H2 b with
   | none=>rfl
   | some o=>rw [x1 _ _ (one h) z] at e; cases e
  have g2:=back np1 f1
  have g4:=back np2 (back1 np2 f2)
  have z2:∀ {b o},H1 b=some o→b≠l2:=fun e=>Aaj e g2
  have z4:∀ {b o},H1 b=some o→b≠l4:=fun e=>Aaj e g4
  refine q _ ra rb rc l2 l4 (fun b o hb e=>up _ _ hb (x2 _ _ hb (x1 _ _ hb (x1' _ _ hb (x0 _ _ hb e))))) ⟨⟨dx,Aad⟩,cs,t1 npa ha,t1 npb hb,t1 npc hc,?_,?_,?_,by rw [List.length_replicate,List.length_replicate],by rw [List.length_replicate,List.length_replicate],by rw [List.length_replicate,List.length_replicate],by rw [List.length_replicate,List.length_replicate],by rw [List.length_replicate]; omega⟩ fa fb fc (back0 np1 g2) (back0 np2 g4)
  ·rw [List.map_replicate]; exact up _ _ (one np1) (x2 _ _ (one np1) c1)
  ·rw [List.map_replicate]; exact up _ _ (one np2) c2
  ·simp only [List.nodup_cons,List.mem_cons,List.not_mem_nil,or_false,not_or,not_false_eq_true,List.nodup_nil,and_true]
   exact ⟨⟨ab,ac,z2 ha,z4 ha⟩,⟨bc,z2 hb,z4 hb⟩,⟨z2 hc,z4 hc⟩,Aaj c1 f2⟩
end
local macro_rules | `(tactic| walk_at "st")=>`(tactic| repeat (first
 | refine ⟨_,rfl,?_⟩
 | refine ⟨_,_,rfl,rfl,?_⟩
 | refine ⟨_,_,rfl,?_⟩
 | refine Or.inl ⟨_,_,rfl,rfl,?_⟩
 | refine Or.inl ⟨rfl,?_⟩
 | refine ⟨rfl,?_⟩
 | refine Or.inl ⟨_,_,_,_,rfl,rfl,.of (by assumption),rfl,?_⟩
 | (refine And.intro (show Aeq _ _ from ?_) ?_; (first | exact Or.inr ⟨by omega,by omega⟩ | exact Or.inl ⟨by omega,by omega⟩))
 | (refine And.intro (show Ae4 _ _ from ?_) ?_; exact ⟨by omega,by omega⟩)
 | (refine And.intro (show (0:Int) < _ from ?_) ?_; first | decide | omega)))
theorem Ahk {H:Hp} {a b:Addr} {o:HO} (h:H b≠none):upd H a o b≠none:=by
 by_cases e:b=a
 ·subst e; rw [Aad]; simp
 ·rw [Aah e]; exact h
section
variable {P:Program} {w:World} {K:PySem.W.Frag} {mg:Str→Option Value} {base:Heap} {a:Adr}
theorem Afr:Aat ["self","place","k","steps"] ["self","place"] (Aaa (Aab (top 23) 1)):=⟨rfl,rfl,rfl,by decide +kernel,rfl,by decide +kernel,by decide +kernel⟩
theorem Aaz:Nm (Aaa (Aab (top 23) 1)) "self":=by walk_at "k"
theorem Acb:Nm (Aaa (Aab (top 23) 1)) "place":=by walk_at "k"
theorem AaR:Nm (Aaa (Aab (top 23) 1)) "k":=by walk_at "k"
theorem Acc:Nm (Aaa (Aab (top 23) 1)) "steps":=by walk_at "k"
theorem Agb:Gm (Aaa (Aab (top 23) 1)) "len":=by walk_at "k"
theorem Aof {f:Addr} {fd:FuncData} (F:Fun K "take" "Seekers.take" (Aab (top 23) 1) f fd) (T:TxtK K mg a) (DD_first:∀ C∈a.racks,AaJ P w K mg base CX0 1 C "first_free" ["self","start"] (Akp K a)) (DD_hold:∀ C∈a.racks,AaJ P w K mg base CX0 1 C "hold" ["self","k","who"] (Am0 K a)) :
  Aco P w K mg base CX0 2 f fd ["self","place"] (Akt K a):=by
 refine F.ok Afr (fun vs H Q E h=>?_) (fun cdv A outer s H vs Q E hr h=>?_)
 ·obtain ⟨p,C,ra,rb,rc,rs,rw,hs,js,ts,places,mark,st,wt,place,rfl,_⟩:=h
  rfl
 ·obtain ⟨p,C,ra,rb,rc,rs,rw,hs,js,ts,places,mark,st,wt,place,rfl,k,h0,h1,hpl,q⟩:=h
  obtain ⟨dx,hp⟩:=k.ins
  have nd:=Afr.nd
  have D_first_free:=DD_first C k.cs.c.mem
  have D_hold:=DD_hold C k.cs.c.mem
  have cls:=k.cs.c.cls
  have hz:=k.z
  have ls:=k.ls
  have lw:=k.lw
  have lt:=k.lt
  have F3:=Ag2 ra rb rc places rs rw mark
  refine ⟨_,(@Aae _ _ _ _ _ (Abb 2 nd AaR (AcC D_first_free cls (pvN 0 Aaz) (hr.mono (by decide)) AbO (Aac (Aau (pvN 0 Aaz) rfl) Aaf)))
    (Aae (AbC (AaB Aic (pvN 2 AaR) AcQ (AaY _)) (Aag (AaL AcQ)) AaF)
    (Aae (Abb 3 nd Acc (AaD Ab1 (AaD AkS (pvN 1 Acb) (Abt AaT (Aau (pvN 0 Aaz) rfl) (pvN 2 AaR) (fun _ _=>rfl))) (Aau (pvN 0 Aaz) rfl)))
    (Aae (AfW (pvN 1 Acb) (Agi (Aau (pvN 0 Aaz) rfl) (pvN 2 AaR) Ace))
    (Aae (Aix (Aau (pvN 0 Aaz) rfl) (pvN 2 AaR) Ahh (pvN 3 Acc) AkQ Ace)
    (Aae (AaN (AcC D_hold cls (pvN 0 Aaz) (hr.mono (by decide)) AbO (Aac (pvN 2 AaR) (Aac (pvN 1 Acb) Aaf))))
    (Aae (AbB (pvN 0 Aaz) (AaD Ab1 (AaD AbG (pvN 2 AaR) Aal) (Ac3 AaP Agb T.n_len Ack (Aac (Aau (pvN 0 Aaz) rfl) Aaf))) rfl)
    (Aag (AaL (Adh (Aac (pvN 2 AaR) (Aac (pvN 3 Acc) Aaf)))))))))))),?_⟩
  walk_at "st"
  refine ⟨p,dx,_,rfl,hp,F3.m _ (by decide),?_⟩
  walk_at "st"
  refine ⟨p,C,dx,_,_,rfl,hp,cls,k.cs.m,rfl,?_⟩
  walk_at "st"
  refine ⟨p,mark,C,ra,rb,rc,hs,js,ts,rfl,k.r,h0,h1,fun H1 s1=>?_⟩
  cases hf:AfM hs js mark with
  | none =>
   rw [hf] at q
   walk_at "st"
   exact q H1 s1
  | some kk =>
   rw [hf] at q
   obtain ⟨⟨k0,k1⟩,_⟩:=Agu h0 h1 hf
   have kS:=k.same s1
   have hp1:=s1 _ _ hp
   have ap:=k.ap
   simp only [List.nodup_cons,List.mem_cons,List.not_mem_nil,or_false,not_or,not_false_eq_true,List.nodup_nil,and_true] at ap
   obtain ⟨⟨a1,a2,a3,a4⟩,⟨b1,b2,b3⟩,⟨c1,c2⟩,d1⟩:=ap
   have np:∀ {b xs},H b=some (.lst xs)→p≠b:=fun h=>AaI hp h (by intro z; cases z)
   walk_at "st"
   refine ⟨p,C,dx,_,_,rfl,hp1,cls,k.cs.s,rfl,?_⟩
   walk_at "st"
   refine Or.inl ⟨rs,_,kk,_,rfl,rfl,.of kS.hs_,AgJ k0 (by omega),?_⟩
   walk_at "st"
   refine ⟨p,C,dx,_,_,rfl,hp1,cls,k.cs.p,rfl,?_⟩
   walk_at "st"
   refine ⟨p,C,dx,_,_,rfl,hp1,cls,k.cs.s,rfl,?_⟩
   walk_at "st"
   refine ⟨rs,_,kk,_,rfl,rfl,kS.hs_,Aet k0 (by rw [List.length_map]; omega),?_⟩
   rw [show (st.map V.int).set kk.toNat (.int place)=(st.set kk.toNat place).map V.int from (List.map_set ..).symm]
   generalize hH2:upd H1 rs (.lst ((st.set kk.toNat place).map V.int))=H2
   have x2:∀ {b o},b≠rs→H1 b=some o→H2 b=some o:=fun h e=>by rw [← hH2,Aah h]; exact e
   have e2:H2 rs=some (.lst ((st.set kk.toNat place).map V.int)):=hH2▸Aad
   have hp2:=x2 (np k.hs_) hp1
   walk_at "st"
   refine ⟨p,C,dx,_,_,rfl,hp2,cls,k.cs.w,rfl,?_⟩
   walk_at "st"
   refine ⟨rw,_,kk,_,rfl,rfl,k0,.of (x2 (Ne.symm d1) kS.hw),AgJ k0 (by omega),?_⟩
   walk_at "st"
   refine ⟨rw,_,kk,_,rfl,rfl,x2 (Ne.symm d1) kS.hw,Aet k0 (by rw [List.length_map]; omega),?_⟩
   rw [show (wt.map V.int).set kk.toNat (.int (wt.getD kk.toNat 0 + (place - st.getD kk.toNat 0) % places))=(wt.set kk.toNat (wt.getD kk.toNat 0 + (place - st.getD kk.toNat 0) % places)).map V.int from (List.map_set ..).symm]
   generalize hH3:upd H2 rw (.lst ((wt.set kk.toNat (wt.getD kk.toNat 0 + (place - st.getD kk.toNat 0) % places)).map V.int))=H3
   have x3:∀ {b o},b≠rw→H2 b=some o→H3 b=some o:=fun h e=>by rw [← hH3,Aah h]; exact e
   have e3:H3 rw=some (.lst ((wt.set kk.toNat (wt.getD kk.toNat 0 + (place - st.getD kk.toNat 0) % places)).map V.int)):=hH3▸Aad
   have hp3:=x3 (np k.hw) hp2
   have y3:∀ {b o},b≠rs→b≠rw→H1 b=some o→H3 b=some o:=fun h h' e=>x3 h' (x2 h e)
   have R3:AlE K a H3 p C ra rb rc hs js ts:=⟨⟨dx,_,hp3,F3⟩,k.cs.c,y3 a3 a4 kS.ha,y3 b2 b3 kS.hb,y3 c1 c2 kS.hc,a1,a2,b1,k.lj,k.lt,k.z⟩
   walk_at "st"
   refine ⟨p,dx,_,rfl,hp3,F3.m _ (by decide),?_⟩
   walk_at "st"
   refine ⟨p,kk,.int place,C,ra,rb,rc,hs,js,ts,rfl,R3,k0,k1,?_⟩
   generalize hH4:upd (upd H3 ra (.lst (hs.set kk.toNat (.int place)))) rc (.lst ((ts.set kk.toNat (ts.getD kk.toNat 0 + 1)).map V.int))=H4
   have x4:∀ {b o},b≠ra→b≠rc→H3 b=some o→H4 b=some o:=fun h h' e=>by rw [← hH4,Aah h',Aah h]; exact e
   have e4a:H4 ra=some (.lst (hs.set kk.toNat (.int place))):=by rw [← hH4,Aah a2,Aad]
   have e4c:H4 rc=some (.lst ((ts.set kk.toNat (ts.getD kk.toNat 0 + 1)).map V.int)):=hH4▸Aad
   have hp4:=x4 (np k.ha) (np k.hc) hp3
   have e4s:=x4 (Ne.symm a3) (Ne.symm c1) (x3 d1 e2)
   have e4w:=x4 (Ne.symm a4) (Ne.symm c2) e3
   walk_at "st"
   refine ⟨p,C,dx,_,_,rfl,hp4,cls,k.cs.s,rfl,?_⟩
   walk_at "st"
   refine Or.inr ⟨_,_,rfl,.inl (.of e4s),?_⟩
   rw [List.length_map,List.length_set,ls]
   walk_at "st"
   refine ⟨p,C,dx,_,rfl,hp4,cls,k.cs.m,(by show 7 < 1000; decide),?_⟩
   walk_at "st"
   refine ⟨(by show 2≤sizeLine; decide),fun t nt=>?_⟩
   have v5:∀ {b o},b≠p→H4 b=some o→(upd (upd H4 p (.ins C dx (Aqy ra rb rc places rs rw ((kk + 1) % hs.length)))) t (.tup [.int kk,.int ((place - st.getD kk.toNat 0) % places)])) b=some o:=fun {b o} h e=>by
    have e':(upd H4 p (.ins C dx (Aqy ra rb rc places rs rw ((kk + 1) % hs.length)))) b=some o:=by rw [Aah h]; exact e
    rw [Aah (Aaj e' nt)]; exact e'
   have hpt:p≠t:=Aaj (show (upd H4 p (.ins C dx (Aqy ra rb rc places rs rw ((kk + 1) % hs.length)))) p=some _ from Aad) nt
   refine q _ t (fun b o hb e=>?_) ?_ Aad ⟨⟨dx,by rw [Aah hpt]; exact Aad⟩,k.cs,v5 (np k.ha).symm e4a,v5 (np k.hb).symm (x4 (Ne.symm a1) b1 (y3 b2 b3 kS.hb)),v5 (np k.hc).symm e4c,v5 (np k.hs_).symm e4s,v5 (np k.hw).symm e4w,k.ap,
    by rw [List.length_set]; exact k.lj,by rw [List.length_set,List.length_set]; exact k.lt,by rw [List.length_set,List.length_set]; exact k.ls,by rw [List.length_set,List.length_set]; exact k.lw,by rw [List.length_set]; exact k.z⟩
   ·simp only [List.mem_cons,List.not_mem_nil,or_false,not_or] at hb
    obtain ⟨n1,n2,n3,n4,n5⟩:=hb
    exact v5 n1 (x4 n2 n3 (y3 n4 n5 (s1 _ _ e)))
   ·cases z:H t with
    | none=>rfl
    | some o =>
     have e1:=s1 _ _ z
     exfalso
     have e4':H4 t≠none:=hH4▸Ahk (Ahk (hH3▸Ahk (hH2▸Ahk (by rw [e1]; simp))))
     rw [Aah hpt.symm] at nt
     exact e4' nt
end
local macro_rules | `(tactic| walk_at "st")=>`(tactic| repeat (first
 | refine ⟨_,rfl,?_⟩
 | refine ⟨_,_,rfl,rfl,?_⟩
 | refine ⟨_,_,rfl,?_⟩
 | refine Or.inl ⟨_,_,rfl,rfl,?_⟩
 | refine Or.inl ⟨rfl,?_⟩
 | refine ⟨rfl,?_⟩
 | refine Or.inl ⟨_,_,_,_,rfl,rfl,.of (by assumption),rfl,?_⟩
 | (refine And.intro (show Aeq _ _ from ?_) ?_; (first | exact Or.inr ⟨by omega,by omega⟩ | exact Or.inl ⟨by omega,by omega⟩))
 | (refine And.intro (show Ae4 _ _ from ?_) ?_; exact ⟨by omega,by omega⟩)
 | (refine And.intro (show (0:Int) < _ from ?_) ?_; first | decide | omega)))
structure TxtP (K:PySem.W.Frag) (mg:Str→Option Value) (a:Adr):Prop extends Txt K mg a where
 n_all:mg "all"=none
 n_list:mg "list"=none
 n_tuple:mg "tuple"=none
 n_sorted:mg "sorted"=none
 n_set:mg "set"=none
 n_min:mg "min"=none
 g_SIGNS:∃ t,mg "SIGNS"=some (Value.str "0123456789" t)
 g_LEAST_LONG:∃ t,mg "LEAST_LONG"=some (Value.int 2 t)
 g_MOST_LONG:∃ t,mg "MOST_LONG"=some (Value.int 4 t)
 g_MOST_LINES:∃ t,mg "MOST_LINES"=some (Value.int 60 t)
 g_MOST_SEEKERS:∃ t,mg "MOST_SEEKERS"=some (Value.int 60 t)
 g_MOST_GROUPS:∃ t,mg "MOST_GROUPS"=some (Value.int 40 t)
 g_MOST_SWITCHES:∃ t,mg "MOST_SWITCHES"=some (Value.int 10 t)
 g_BadPlan:mg "BadPlan"=some (.ref a.BadPlan)
 x_BadPlan:PySem.W.excIn K a.BadPlan [.type "ValueError",.type "Exception",.type "BaseException",.type "object"] "ValueError.__new__"=true
def Aqz (c:Nat):Bool:=decide (48≤c) && decide (c≤57)
theorem Ak7 {c:Nat}:Aqz c=true↔48≤c∧c≤57:=by unfold Aqz; rw [Bool.and_eq_true,decide_eq_true_eq,decide_eq_true_eq]
theorem AqA:∀ c:Nat,c < 128→inS ⟨#[c]⟩ "0123456789"=Aqz c:=by decide +kernel
theorem ApB {z:Str} (h:Asc z):z.cps.all (· < 128)=true:=by
 rw [← Array.all_toList,List.all_eq_true]
 intro c hc
 exact decide_eq_true (h c hc)
def Ak8:Sp:=fun vs H Q _=>∃ z:Str,vs=[.str z]∧Asc z∧z.length≤1000∧∀ b H',(b=true↔Dig z)→Aav H H'→Q (.bl b) H'
def AiW (a:Adr):Sp:=fun vs H Q E=>∃ long seekers:Int,vs=[.int long,.int seekers]∧(2≤long∧long≤4∧1≤seekers∧seekers≤60→Q .non H)∧(¬ (2≤long∧long≤4∧1≤seekers∧seekers≤60)→E (.ref a.BadPlan) none H)
section
variable {P:Program} {w:World} {K:PySem.W.Frag} {mg:Str→Option Value} {base:Heap} {a:Adr}
theorem AfY:Aat ["text"] ["text"] (Aaa (top 11)):=⟨rfl,rfl,rfl,by decide +kernel,rfl,by decide +kernel,by decide +kernel⟩
theorem Agc:Nm (Aaa (top 11)) "text":=by walk_at "k"
theorem Agv:Gm (Aaa (top 11)) "all":=by walk_at "k"
def Ac5:Scope:={ kind:=.function,names:=[(".0",.local),("sign",.local),("SIGNS",.globalImplicit)],isGenerator:=false,isCoroutine:=false,more:=[] }
theorem Ae7:Abc Ac5 (Aaa (top 11)) ["sign"] ["text"] [none]:=Abc.mk' rfl (by decide +kernel) (by decide +kernel) (by decide +kernel) (by decide +kernel) rfl (by decide +kernel)
theorem AcV:Nm Ac5 "sign":=by walk_at "k"
theorem AeP:Gm Ac5 "SIGNS":=by walk_at "k"
theorem ApC {f:Addr} {fd:FuncData} (F:Fun K "are_figures" "are_figures" (top 11) f fd) (T:TxtP K mg a):Aco P w K mg base CX0 1 f fd ["text"] Ak8:=by
 refine F.ok AfY (fun vs H Q E h=>?_) (fun cdv A outer s H vs Q E hr h=>?_)
 ·obtain ⟨z,rfl,_⟩:=h
  rfl
 ·obtain ⟨z,rfl,hz,hl,q⟩:=h
  have nd:=AfY.nd
  refine ⟨_,(@Aag _ _ _ (AaL (Ac3 (AmD rfl) Agv T.n_all Aqp (Aac (Aj3 rfl Ae7 (Aql (pvN 0 Agc)) (fun cl C fp pins s₂ H₂=>(AcB 0 Ae7.nd AcV.comp)) (fun cl C fp pins s₂ H₂=>Af5) (fun cl C fp pins s₂ H₂=>(Aiy (Aph K rfl) (pvN 0 AcV.comp) (Ain AeP.comp T.g_SIGNS) (by with_unfolding_all rfl)))) Aaf)))),?_⟩
  walk_at "st"
  refine ⟨ApB hz,fun D hD=>?_⟩
  have ll:z.cps.toList.length≤1000:=by rw [← Ahj]; exact hl
  refine AmS (z:=z) (fun i σ H'=>∃ x,σ=[x]∧Aav H H'∧H' D=some (.lst (((z.cps.toList.take i).map Aqz).map V.bl))) ⟨none,rfl,(Aav.refl H).upd hD,Aad⟩ ?_ ?_
  ·rintro i c σ H' hc ⟨x,rfl,sm,hL⟩
   have cl:c < 128:=hz c (List.mem_of_getElem? hc)
   walk_at "st"
   refine ⟨_,hL,?_,_,rfl,sm.updN hD,?_⟩
   ·rw [List.length_map,List.length_map,List.length_take,sizeLine_eq]; omega
   ·have e:V.bl (inS ⟨#[c]⟩ "0123456789")=V.bl (Aqz c):=by rw [AqA c cl]
    rw [Aad,List.take_add_one,hc,List.map_append,List.map_append]
    show some (HO.lst (_++[V.bl (inS ⟨#[c]⟩ "0123456789")]))=_
    rw [e]; rfl
  ·rintro σ H' ⟨x,rfl,sm,hL⟩
   rw [List.take_length] at hL
   refine ⟨D,_,rfl,.of hL,q _ H' ?_ sm⟩
   rw [List.all_map,List.all_eq_true]
   exact ⟨fun h c hc=>Ak7.mp (h c hc),fun h c hc=>Ak7.mpr (h c hc)⟩
theorem AhR:Aat ["long","seekers"] ["long","seekers"] (Aaa (top 36)):=⟨rfl,rfl,rfl,by decide +kernel,rfl,by decide +kernel,by decide +kernel⟩
theorem AfO:Nm (Aaa (top 36)) "long":=by walk_at "k"
theorem AeQ:Nm (Aaa (top 36)) "seekers":=by walk_at "k"
theorem AcW:Gm (Aaa (top 36)) "within":=by walk_at "k"
theorem AdE:Gm (Aaa (top 36)) "MOST_SEEKERS":=by walk_at "k"
theorem AcF:Gm (Aaa (top 36)) "BadPlan":=by walk_at "k"
theorem Ael:Gm (Aaa (top 36)) "MOST_LONG":=by walk_at "k"
theorem Ad6:Gm (Aaa (top 36)) "LEAST_LONG":=by walk_at "k"
theorem Am4 {f:Addr} {fd:FuncData} (F:Fun K "check_counts" "check_counts" (top 36) f fd) (T:TxtP K mg a) (D_within:AgG P w K mg base CX0 1 "within" ["number","least","most"] AfG):Aco P w K mg base (CXE P w) 2 f fd ["long","seekers"] (AiW a):=by
 refine F.okX AhR (fun vs H Q E h=>?_) (fun cdv A outer s H vs Q E hr h=>?_)
 ·obtain ⟨l,k,rfl,_⟩:=h
  rfl
 ·obtain ⟨l,k,rfl,q1,q2⟩:=h
  refine ⟨_,(@Aae _ _ _ _ _ (AbC (Aep (Ad9 (Ad2 D_within AcW (hr.mono (by decide)) AbO (Aac (pvN 0 AfO) (Aac (Aim Ad6 T.g_LEAST_LONG) (Aac (Aim Ael T.g_MOST_LONG) Aaf)))))) (Aag (Agm Aa0 AcF rfl T.x_BadPlan T.g_BadPlan (Aac Aak Aaf))) AaF)
    (Aag (AbC (Aep (Ad9 (Ad2 D_within AcW (hr.mono (by decide)) AbO (Aac (pvN 1 AeQ) (Aac Aal (Aac (Aim AdE T.g_MOST_SEEKERS) Aaf)))))) (Aag (Agm Aa0 AcF rfl T.x_BadPlan T.g_BadPlan (Aac Aak Aaf))) AaF))),?_⟩
  walk_at "st"
  refine ⟨l,2,4,rfl,?_⟩
  walk_at "st"
  by_cases h1:2≤l∧l≤4
  ·rw [decide_eq_true h1.1,decide_eq_true h1.2]
   refine AgH ?_
   walk_at "st"
   refine ⟨k,1,60,rfl,?_⟩
   walk_at "st"
   by_cases h2:1≤k∧k≤60
   ·rw [decide_eq_true h2.1,decide_eq_true h2.2]
    refine AgH ?_
    exact q1 ⟨h1.1,h1.2,h2.1,h2.2⟩
   ·have e:(decide (1≤k) && decide (k≤60))=false:=Bool.eq_false_iff.mpr fun z=>h2 (by simpa using z)
    rw [e]
    refine AgI ?_
    walk_at "st"
    exact ⟨(by show 1≤sizeLine; decide),q2 fun z=>h2 z.2.2⟩
  ·have e:(decide (2≤l) && decide (l≤4))=false:=Bool.eq_false_iff.mpr fun z=>h1 (by simpa using z)
   rw [e]
   refine AgI ?_
   walk_at "st"
   exact ⟨(by show 1≤sizeLine; decide),q2 fun z=>h1 ⟨z.1,z.2.1⟩⟩
end
local macro_rules | `(tactic| walk_at "st")=>`(tactic| repeat (first
 | refine ⟨_,rfl,?_⟩
 | refine ⟨_,_,rfl,rfl,?_⟩
 | refine ⟨_,_,rfl,?_⟩
 | refine Or.inl ⟨_,_,rfl,rfl,?_⟩
 | refine Or.inl ⟨rfl,?_⟩
 | refine ⟨rfl,?_⟩
 | refine Or.inl ⟨_,_,_,_,rfl,rfl,.of (by assumption),rfl,?_⟩
 | (refine And.intro (show Aeq _ _ from ?_) ?_; (first | exact Or.inr ⟨by omega,by omega⟩ | exact Or.inl ⟨by omega,by omega⟩))
 | (refine And.intro (show Ae4 _ _ from ?_) ?_; exact ⟨by omega,by omega⟩)
 | (refine And.intro (show (0:Int) < _ from ?_) ?_; first | decide | omega)))
def Ok (z:Str):Prop:=Asc z∧z.length≤20
def OkL (long:Int) (zs:List Str):Prop:=(1≤zs.length∧zs.length≤60)∧(∀ z∈zs,(z.length:Int)=long∧Dig z)∧zs.Nodup
def Aku (a:Adr) (K:PySem.W.Frag):Sp:=fun vs H Q E=>∃ (long:Int) (p:Addr) (zs:List Str),vs=[.int long,.ref p]∧0≤long∧long≤1000∧H p=some (.lst (zs.map V.str))∧(∀ z∈zs,Ok z)∧zs.length < 2000∧(OkL long zs→∀ H',Aav H H'→Q .non H')∧(¬ OkL long zs→∀ H',Aav H H'→E (.ref a.BadPlan) none H')
theorem Aip {z:Str} (h:Ok z):(PySem.reprText z).length≤1000:=by
 have rl:=StrLaws.reprText_len z fun c hc=>by have:=h.1 c hc; omega
 have:=h.2
 omega
theorem AjF {α:Type} {xs:List α} {i:Nat} {x:α} {R:α→Prop} (h:xs[i]?=some x) (d:∀ y∈xs.take i,R y) (hx:R x):∀ y∈xs.take (i + 1),R y:=by
 rw [List.take_add_one,h]
 intro y hy
 rcases List.mem_append.mp hy with z | z
 ·exact d y z
 ·have:y=x:=by simpa using z
  rw [this]; exact hx
section
variable {P:Program} {w:World} {K:PySem.W.Frag} {mg:Str→Option Value} {base:Heap} {a:Adr}
theorem AfZ:Aat ["long","lines","number"] ["long","lines"] (Aaa (top 37)):=⟨rfl,rfl,rfl,by decide +kernel,rfl,by decide +kernel,by decide +kernel⟩
theorem AdN:Nm (Aaa (top 37)) "long":=by walk_at "k"
theorem AbE:Nm (Aaa (top 37)) "lines":=by walk_at "k"
theorem Abm:Nm (Aaa (top 37)) "number":=by walk_at "k"
theorem Ab5:Gm (Aaa (top 37)) "len":=by walk_at "k"
theorem Agw:Gm (Aaa (top 37)) "set":=by walk_at "k"
theorem AbX:Gm (Aaa (top 37)) "BadPlan":=by walk_at "k"
theorem Ad7:Gm (Aaa (top 37)) "are_figures":=by walk_at "k"
theorem Afs:Gm (Aaa (top 37)) "within":=by walk_at "k"
theorem Aem:Gm (Aaa (top 37)) "MOST_LINES":=by walk_at "k"
theorem Aog {f:Addr} {fd:FuncData} (F:Fun K "check_lines" "check_lines" (top 37) f fd) (T:TxtP K mg a) (D_within:AgG P w K mg base CX0 1 "within" ["number","least","most"] AfG) (D_are_figures:AgG P w K mg base CX0 1 "are_figures" ["text"] Ak8) :
  Aco P w K mg base (CXE P w) 2 f fd ["long","lines"] (Aku a K):=by
 refine F.okX AfZ (fun vs H Q E h=>?_) (fun cdv A outer s H vs Q E hr h=>?_)
 ·obtain ⟨l,p,zs,rfl,_⟩:=h
  rfl
 ·obtain ⟨long,p,zs,rfl,l0,l1,hp,ok,few,q1,q2⟩:=h
  have hu:=hr.units
  have nd:=AfZ.nd
  refine ⟨_,(@Aae _ _ _ _ _ (AbC (Aep (Ad9 (Ad2 D_within Afs (hr.mono (by decide)) AbO (Aac (Ac3 AaP Ab5 T.n_len Ack (Aac (pvN 1 AbE) Aaf)) (Aac Aal (Aac (Aim Aem T.g_MOST_LINES) Aaf)))))) (Aag (Agm Aa0 AbX rfl T.x_BadPlan T.g_BadPlan (Aac Aak Aaf))) AaF)
    (Aae (Ae3 PassesOwn.leaving rfl (Aeh (pvN 1 AbE)) (AcB 2 nd Abm) (Aag (AbC (PW.pt (Ans (AaB (Ahy hu) (Ac3 AaP Ab5 T.n_len Ack (Aac (pvN 2 Abm) Aaf)) (pvN 0 AdN) (AaY _)) (AkO (Aep (Ad9 (Ad2 D_are_figures Ad7 (hr.mono (by decide)) AbO (Aac (pvN 2 Abm) Aaf))))))) (Aag (Agm Aa0 AbX rfl T.x_BadPlan T.g_BadPlan (Aac (AdJ (Abv (Agl (pvN 2 Abm)) (Abv Aak (Abv (Amt (pvN 0 AdN)) (Abv Aak Ahx))))) Aaf))) AaF)))
    (Aag (AbC (AaB (Ahy hu) (Ac3 (AhG (w:=w) rfl) Ab5 T.n_len Ack (Aac (Afa (AmQ (w:=w) rfl rfl) Agw T.n_set Aqo (Aac (pvN 1 AbE) Aaf)) Aaf)) (Ac3 AaP Ab5 T.n_len Ack (Aac (pvN 1 AbE) Aaf)) (AaY _)) (Aag (Agm Aa0 AbX rfl T.x_BadPlan T.g_BadPlan (Aac Aak Aaf))) AaF)))),?_⟩
  walk_at "st"
  refine Or.inr ⟨_,_,rfl,.inl (.of hp),?_⟩
  rw [List.length_map]
  walk_at "st"
  refine ⟨_,1,60,rfl,?_⟩
  walk_at "st"
  by_cases h1:1≤zs.length∧zs.length≤60
  ·have e1:(decide (1≤(zs.length:Int)) && decide ((zs.length:Int)≤60))=true:=by simp; omega
   rw [e1]
   refine AgH ?_
   walk_at "st"
   refine ⟨⟨_,.of hp⟩,AeL (K:=K) (a:=p) (xs:=zs.map V.str) (fun i σ H2=>∃ x,σ=[some (.int long),some (.ref p),x]∧Aav H H2∧∀ z∈zs.take i,(z.length:Int)=long∧Dig z) ⟨none,rfl,Aav.refl H,fun z hz=>absurd hz (by simp)⟩ (fun i σ H2 _ ⟨_,_,s2,_⟩=>.of (s2 _ _ hp)) ?_ ?_⟩
   ·rintro i y σ H2 hi ⟨x,rfl,s2,dn⟩
    rw [List.getElem?_map] at hi
    cases hk:zs[i]? with
    | none=>rw [hk] at hi; cases hi
    | some z =>
     rw [hk] at hi; cases hi
     have hz:=ok z (List.mem_of_getElem? hk)
     have zl:z.length≤20:=hz.2
     walk_at "st"
     refine Or.inl ⟨z,rfl,(by rw [sizeLine_eq]; omega),?_⟩
     walk_at "st"
     have e0:Str.empty.length=0:=rfl
     have e2:(Str.ofString " is no number of ").length=17:=by decide +kernel
     have e3:(Str.ofString " figures").length=8:=by decide +kernel
     have hr1:=Aip hz
     by_cases he:(z.length:Int)=long
     ·rw [decide_eq_true (congrArg V.int he)]
      refine AgH ?_
      walk_at "st"
      refine ⟨hz.1,by omega,fun b H3 hb s3=>?_⟩
      walk_at "st"
      cases b with
      | true =>
       refine AgH ?_
       exact ⟨_,rfl,s2.trans s3,AjF hk dn ⟨he,hb.mp rfl⟩⟩
      | false =>
       refine AgI ?_
       walk_at "st"
       refine ⟨(by simp only [AaO,e0,e2,e3,sizeLine_eq]; omega),?_⟩
       walk_at "st"
       refine ⟨(by simp only [AaO,e0,e2,e3,sizeLine_eq]; omega),?_⟩
       walk_at "st"
       refine ⟨(by simp only [AaO,e0,e2,e3,sizeLine_eq]; omega),?_⟩
       walk_at "st"
       refine Or.inl ⟨_,rfl,l0,l1,fun u hu'=>?_⟩
       walk_at "st"
       refine ⟨(by simp only [AaO,e0,e2,e3,sizeLine_eq]; omega),?_⟩
       walk_at "st"
       refine ⟨(by simp only [AaO,e0,e2,e3,sizeLine_eq]; omega),?_⟩
       refine ⟨(by simp only [AaO,e0,e2,e3,sizeLine_eq]; omega),?_⟩
       exact ⟨(by show 1≤sizeLine; decide),q2 (fun k=>by have:=hb.mpr (k.2.1 z (List.mem_of_getElem? hk)).2; cases this) H3 (s2.trans s3)⟩
     ·rw [decide_eq_false (fun k=>he (V.int.inj k))]
      refine AgI ?_
      walk_at "st"
      refine ⟨(by simp only [AaO,e0,e2,e3,sizeLine_eq]; omega),?_⟩
      walk_at "st"
      refine ⟨(by simp only [AaO,e0,e2,e3,sizeLine_eq]; omega),?_⟩
      walk_at "st"
      refine ⟨(by simp only [AaO,e0,e2,e3,sizeLine_eq]; omega),?_⟩
      walk_at "st"
      refine Or.inl ⟨_,rfl,l0,l1,fun u hu'=>?_⟩
      walk_at "st"
      refine ⟨(by simp only [AaO,e0,e2,e3,sizeLine_eq]; omega),?_⟩
      walk_at "st"
      refine ⟨(by simp only [AaO,e0,e2,e3,sizeLine_eq]; omega),?_⟩
      refine ⟨(by simp only [AaO,e0,e2,e3,sizeLine_eq]; omega),?_⟩
      exact ⟨(by show 1≤sizeLine; decide),q2 (fun k=>he (k.2.1 z (List.mem_of_getElem? hk)).1) H2 s2⟩
   ·rintro σ H2 ⟨x,rfl,s2,dn⟩
    rw [List.length_map,List.take_length] at dn
    walk_at "st"
    refine ⟨p,zs,rfl,.of (s2 _ _ hp),few,fun l hl=>?_⟩
    have s3:Aav H (upd H2 l (Ahi w l zs)):=s2.upd hl
    refine ⟨l,zs,rfl,Aad,fun n hn=>?_⟩
    walk_at "st"
    refine Or.inr ⟨_,_,rfl,.inl (.of (s3 _ _ hp)),?_⟩
    rw [List.length_map]
    walk_at "st"
    by_cases hd:zs.Nodup
    ·rw [decide_eq_true (congrArg (fun k:Nat=>V.int k) (hn.mpr hd))]
     refine AgH ?_
     exact q1 ⟨h1,dn,hd⟩ _ s3
    ·have ne:¬ (V.int n=V.int zs.length):=fun k=>hd (hn.mp (by have:=V.int.inj k; omega))
     rw [decide_eq_false ne]
     refine AgI ?_
     walk_at "st"
     exact ⟨(by show 1≤sizeLine; decide),q2 (fun k=>hd k.2.2) _ s3⟩
  ·have e1:(decide (1≤(zs.length:Int)) && decide ((zs.length:Int)≤60))=false:=Bool.eq_false_iff.mpr fun z=>h1 (by simp at z; omega)
   rw [e1]
   refine AgI ?_
   walk_at "st"
   exact ⟨(by show 1≤sizeLine; decide),q2 (fun z=>h1 z.1) H (Aav.refl H)⟩
end
local macro_rules | `(tactic| walk_at "st")=>`(tactic| repeat (first
 | refine ⟨_,rfl,?_⟩
 | refine ⟨_,_,rfl,rfl,?_⟩
 | refine ⟨_,_,rfl,?_⟩
 | refine Or.inl ⟨_,_,rfl,rfl,?_⟩
 | refine Or.inl ⟨rfl,?_⟩
 | refine ⟨rfl,?_⟩
 | refine Or.inl ⟨_,_,_,_,rfl,rfl,.of (by assumption),rfl,?_⟩
 | (refine And.intro (show Aeq _ _ from ?_) ?_; (first | exact Or.inr ⟨by omega,by omega⟩ | exact Or.inl ⟨by omega,by omega⟩))
 | (refine And.intro (show Ae4 _ _ from ?_) ?_; exact ⟨by omega,by omega⟩)
 | (refine And.intro (show (0:Int) < _ from ?_) ?_; first | decide | omega)))
def OkG (long:Int) (ts:List Pr):Prop:=ts.length≤40∧(∀ t∈ts,(1≤(t.2.1.length:Int)∧(t.2.1.length:Int)≤long - 2)∧Dig t.2.1∧0≤t.2.2∧t.2.2≤10)∧(ts.map (·.2.1)).Nodup
def AiX (a:Adr):Sp:=fun vs H Q E=>∃ (long:Int) (p:Addr) (ts:List Pr),vs=[.int long,.ref p]∧0≤long∧long≤1000∧H p=some (.lst (ts.map prV))∧Lay H ts∧(∀ t∈ts,Ok t.2.1)∧ts.length < 2000∧(OkG long ts→∀ H',Aav H H'→Q .non H')∧(¬ OkG long ts→∀ H',Aav H H'→E (.ref a.BadPlan) none H')
section
variable {P:Program} {w:World} {K:PySem.W.Frag} {mg:Str→Option Value} {base:Heap} {a:Adr}
theorem Aft:Aat ["long","groups","prefix","many"] ["long","groups"] (Aaa (top 38)):=⟨rfl,rfl,rfl,by decide +kernel,rfl,by decide +kernel,by decide +kernel⟩
theorem Adw:Nm (Aaa (top 38)) "long":=by walk_at "k"
theorem Abf:Nm (Aaa (top 38)) "groups":=by walk_at "k"
theorem Abg:Nm (Aaa (top 38)) "prefix":=by walk_at "k"
theorem Adx:Nm (Aaa (top 38)) "many":=by walk_at "k"
theorem AbT:Gm (Aaa (top 38)) "len":=by walk_at "k"
theorem Aa5:Gm (Aaa (top 38)) "BadPlan":=by walk_at "k"
theorem AcX:Gm (Aaa (top 38)) "within":=by walk_at "k"
theorem Adp:Gm (Aaa (top 38)) "MOST_SWITCHES":=by walk_at "k"
theorem AdO:Gm (Aaa (top 38)) "are_figures":=by walk_at "k"
theorem AdP:Gm (Aaa (top 38)) "MOST_GROUPS":=by walk_at "k"
def AcG:Scope:={ kind:=.function,names:=[(".0",.local),("prefix",.local),("many",.local)],isGenerator:=false,isCoroutine:=false,more:=[] }
theorem Ac6:Abc AcG (Aaa (top 38)) ["prefix","many"] ["long","groups","prefix","many"] [none,none]:=Abc.mk' rfl (by decide +kernel) (by decide +kernel) (by decide +kernel) (by decide +kernel) rfl (by decide +kernel)
theorem Acp:Nm AcG "prefix":=by walk_at "k"
theorem AeR:Nm AcG "many":=by walk_at "k"
theorem Am5 {f:Addr} {fd:FuncData} (F:Fun K "check_groups" "check_groups" (top 38) f fd) (T:TxtP K mg a) (D_within:AgG P w K mg base CX0 1 "within" ["number","least","most"] AfG) (D_are_figures:AgG P w K mg base CX0 1 "are_figures" ["text"] Ak8) :
  Aco P w K mg base (CXE P w) 2 f fd ["long","groups"] (AiX a):=by
 refine F.okX Aft (fun vs H Q E h=>?_) (fun cdv A outer s H vs Q E hr h=>?_)
 ·obtain ⟨l,p,zs,rfl,_⟩:=h
  rfl
 ·obtain ⟨long,p,ts,rfl,l0,l1,hp,lay,ok,few,q1,q2⟩:=h
  have hu:=hr.units
  have nd:=Aft.nd
  refine ⟨_,(@Aae _ _ _ _ _ (AbC (AaB Anv (Ac3 AaP AbT T.n_len Ack (Aac (pvN 1 Abf) Aaf)) (Aim AdP T.g_MOST_GROUPS) (AaY _)) (Aag (Agm Aa0 Aa5 rfl T.x_BadPlan T.g_BadPlan (Aac Aak Aaf))) AaF)
    (Aae (Ae3 PassesOwn.leaving rfl (Aeh (pvN 1 Abf)) (Ajb rfl (AbD (AcB 2 nd Abg) (AbD (AcB 3 nd Adx) Afk))) (Aae (AbC (PW.pt (Ans (Aep (Ad9 (Ad2 D_within AcX (hr.mono (by decide)) AbO (Aac (Ac3 AaP AbT T.n_len Ack (Aac (pvN 2 Abg) Aaf)) (Aac Aal (Aac (AaD AkS (pvN 0 Adw) Aal) Aaf)))))) (AkO (Aep (Ad9 (Ad2 D_are_figures AdO (hr.mono (by decide)) AbO (Aac (pvN 2 Abg) Aaf))))))) (Aag (Agm Aa0 Aa5 rfl T.x_BadPlan T.g_BadPlan (Aac (AdJ (Abv (Agl (pvN 2 Abg)) (Abv Aak (Abv (Amt (pvN 0 Adw)) (Abv Aak Ahx))))) Aaf))) AaF)
     (Aag (AbC (Aep (Ad9 (Ad2 D_within AcX (hr.mono (by decide)) AbO (Aac (pvN 3 Adx) (Aac Aal (Aac (Aim Adp T.g_MOST_SWITCHES) Aaf)))))) (Aag (Agm Aa0 Aa5 rfl T.x_BadPlan T.g_BadPlan (Aac Aak Aaf))) AaF))))
    (Aag (AbC (AaB (Ahy hu) (Ac3 (AhG (w:=w) rfl) AbT T.n_len Ack (Aac (An3 (w:=w) rfl rfl Ac6 (Aeh (pvN 1 Abf)) (fun cl C fp pins s₂ H₂=>(AiP (X:=Aay _ _ _ cl C fp pins s₂ H₂) K rfl 2 rfl (AbD (AcB 0 Ac6.nd Acp.comp) (AbD (AcB 1 Ac6.nd AeR.comp) Afk)) rfl rfl)) (fun cl C fp pins s₂ H₂=>Af5) (fun cl C fp pins s₂ H₂=>(pvN 0 Acp.comp))) Aaf)) (Ac3 AaP AbT T.n_len Ack (Aac (pvN 1 Abf) Aaf)) (AaY _)) (Aag (Agm Aa0 Aa5 rfl T.x_BadPlan T.g_BadPlan (Aac Aak Aaf))) AaF)))),?_⟩
  walk_at "st"
  refine Or.inr ⟨_,_,rfl,.inl (.of hp),?_⟩
  rw [List.length_map]
  walk_at "st"
  by_cases h1:(ts.length:Int) > 40
  ·rw [decide_eq_true h1]
   refine AgI ?_
   walk_at "st"
   exact ⟨(by show 1≤sizeLine; decide),q2 (fun z=>by have:=z.1; omega) H (Aav.refl H)⟩
  rw [decide_eq_false h1]
  refine AgH ?_
  walk_at "st"
  refine ⟨⟨_,.of hp⟩,AeL (K:=K) (a:=p) (xs:=ts.map prV) (fun i σ H2=>∃ x y,σ=[some (.int long),some (.ref p),x,y]∧Aav H H2∧∀ t∈ts.take i,(1≤(t.2.1.length:Int)∧(t.2.1.length:Int)≤long - 2)∧Dig t.2.1∧0≤t.2.2∧t.2.2≤10) ⟨none,none,rfl,Aav.refl H,fun z hz=>absurd hz (by simp)⟩ (fun i σ H2 _ ⟨_,_,_,s2,_⟩=>.of (s2 _ _ hp)) ?_ ?_⟩
  ·rintro i y σ H2 hi ⟨x,y',rfl,s2,dn⟩
   rw [List.getElem?_map] at hi
   cases hk:ts[i]? with
   | none=>rw [hk] at hi; cases hi
   | some t =>
    rw [hk] at hi; cases hi
    have tm:=List.mem_of_getElem? hk
    have hz:=ok t tm
    have zl:t.2.1.length≤20:=hz.2
    have e0:Str.empty.length=0:=rfl
    have e2:(Str.ofString " is no prefix where numbers have ").length=33:=by decide +kernel
    have e3:(Str.ofString " figures").length=8:=by decide +kernel
    have hr1:=Aip hz
    refine ⟨t.1,_,rfl,.of (s2 _ _ (lay t tm)),rfl,?_⟩
    walk_at "st"
    refine Or.inl ⟨_,rfl,(by rw [sizeLine_eq]; omega),?_⟩
    walk_at "st"
    refine ⟨_,1,long - 2,rfl,?_⟩
    walk_at "st"
    by_cases hw:1≤(t.2.1.length:Int)∧(t.2.1.length:Int)≤long - 2
    ·rw [decide_eq_true hw.1,decide_eq_true hw.2]
     refine AgH ?_
     walk_at "st"
     refine ⟨hz.1,by omega,fun b H3 hb s3=>?_⟩
     walk_at "st"
     cases b with
     | true =>
      refine AgH ?_
      walk_at "st"
      refine ⟨_,0,10,rfl,?_⟩
      walk_at "st"
      by_cases hm:0≤t.2.2∧t.2.2≤10
      ·rw [decide_eq_true hm.1,decide_eq_true hm.2]
       refine AgH ?_
       exact ⟨_,_,rfl,s2.trans s3,AjF hk dn ⟨hw,hb.mp rfl,hm.1,hm.2⟩⟩
      ·have e:(decide (0≤t.2.2) && decide (t.2.2≤10))=false:=Bool.eq_false_iff.mpr fun z=>hm (by simpa using z)
       rw [e]
       refine AgI ?_
       walk_at "st"
       exact ⟨(by show 1≤sizeLine; decide),q2 (fun k=>hm (k.2.1 t tm).2.2) H3 (s2.trans s3)⟩
     | false =>
      refine AgI ?_
      walk_at "st"
      refine ⟨(by simp only [AaO,e0,e2,e3,sizeLine_eq]; omega),?_⟩
      walk_at "st"
      refine ⟨(by simp only [AaO,e0,e2,e3,sizeLine_eq]; omega),?_⟩
      walk_at "st"
      refine ⟨(by simp only [AaO,e0,e2,e3,sizeLine_eq]; omega),?_⟩
      walk_at "st"
      refine Or.inl ⟨_,rfl,l0,l1,fun u hu'=>?_⟩
      walk_at "st"
      refine ⟨(by simp only [AaO,e0,e2,e3,sizeLine_eq]; omega),?_⟩
      walk_at "st"
      refine ⟨(by simp only [AaO,e0,e2,e3,sizeLine_eq]; omega),?_⟩
      refine ⟨(by simp only [AaO,e0,e2,e3,sizeLine_eq]; omega),?_⟩
      exact ⟨(by show 1≤sizeLine; decide),q2 (fun k=>by have:=hb.mpr (k.2.1 t tm).2.1; cases this) H3 (s2.trans s3)⟩
    ·have e:(decide (1≤(t.2.1.length:Int)) && decide ((t.2.1.length:Int)≤long - 2))=false:=Bool.eq_false_iff.mpr fun z=>hw (by simpa using z)
     rw [e]
     refine AgI ?_
     walk_at "st"
     refine ⟨(by simp only [AaO,e0,e2,e3,sizeLine_eq]; omega),?_⟩
     walk_at "st"
     refine ⟨(by simp only [AaO,e0,e2,e3,sizeLine_eq]; omega),?_⟩
     walk_at "st"
     refine ⟨(by simp only [AaO,e0,e2,e3,sizeLine_eq]; omega),?_⟩
     walk_at "st"
     refine Or.inl ⟨_,rfl,l0,l1,fun u hu'=>?_⟩
     walk_at "st"
     refine ⟨(by simp only [AaO,e0,e2,e3,sizeLine_eq]; omega),?_⟩
     walk_at "st"
     refine ⟨(by simp only [AaO,e0,e2,e3,sizeLine_eq]; omega),?_⟩
     refine ⟨(by simp only [AaO,e0,e2,e3,sizeLine_eq]; omega),?_⟩
     exact ⟨(by show 1≤sizeLine; decide),q2 (fun k=>hw (k.2.1 t tm).1) H2 s2⟩
  ·rintro σ H2 ⟨x,y',rfl,s2,dn⟩
   rw [List.length_map,List.take_length] at dn
   walk_at "st"
   have hp2:=s2 _ _ hp
   refine ⟨⟨_,.of hp2⟩,fun D hD=>?_⟩
   refine Aly (K:=K) (w:=w) (a:=p) (xs:=ts.map prV) (fun i σ H'=>∃ x y,σ=[x,y]∧Aav H2 H'∧H' D=some (Ahi w D ((ts.take i).map (·.2.1)))) ⟨none,none,rfl,(Aav.refl H2).upd hD,Aad⟩ (fun i σ H' _ ⟨_,_,_,sm,_⟩=>.of (sm _ _ (s2 _ _ hp))) ?_ ?_
   ·rintro i x σ H' hi ⟨x0,x1,rfl,sm,hL⟩
    rw [List.getElem?_map] at hi
    cases hk:ts[i]? with
    | none=>rw [hk] at hi; cases hi
    | some t =>
     rw [hk] at hi; cases hi
     have tm:=List.mem_of_getElem? hk
     refine ⟨t.1,_,rfl,.of (sm _ _ (s2 _ _ (lay t tm))),rfl,?_⟩
     walk_at "st"
     refine ⟨_,_,rfl,hL,?_,_,_,rfl,sm.updN hD,?_⟩
     ·rw [List.length_map,List.length_take]; omega
     ·rw [Aad,List.take_add_one,hk,List.map_append]; rfl
   ·rintro σ H' ⟨x0,x1,rfl,sm,hL⟩
    rw [List.length_map,List.take_length] at hL
    refine ⟨D,_,rfl,hL,fun n hn=>?_⟩
    rw [List.length_map] at hn
    walk_at "st"
    have s3:=s2.trans sm
    refine Or.inr ⟨_,_,rfl,.inl (.of (s3 _ _ hp)),?_⟩
    rw [List.length_map]
    walk_at "st"
    by_cases hd:(ts.map (·.2.1)).Nodup
    ·rw [decide_eq_true (congrArg (fun k:Nat=>V.int k) (hn.mpr hd))]
     refine AgH ?_
     exact q1 ⟨by omega,dn,hd⟩ _ s3
    ·have ne:¬ (V.int n=V.int ts.length):=fun k=>hd (hn.mp (by have:=V.int.inj k; omega))
     rw [decide_eq_false ne]
     refine AgI ?_
     walk_at "st"
     exact ⟨(by show 1≤sizeLine; decide),q2 (fun k=>hd k.2.2) _ s3⟩
end
local macro_rules | `(tactic| walk_at "st")=>`(tactic| repeat (first
 | refine ⟨_,rfl,?_⟩
 | refine ⟨_,_,rfl,rfl,?_⟩
 | refine ⟨_,_,rfl,?_⟩
 | refine Or.inl ⟨_,_,rfl,rfl,?_⟩
 | refine Or.inl ⟨rfl,?_⟩
 | refine ⟨rfl,?_⟩
 | refine Or.inl ⟨_,_,_,_,rfl,rfl,.of (by assumption),rfl,?_⟩
 | (refine And.intro (show Aeq _ _ from ?_) ?_; (first | exact Or.inr ⟨by omega,by omega⟩ | exact Or.inl ⟨by omega,by omega⟩))
 | (refine And.intro (show Ae4 _ _ from ?_) ?_; exact ⟨by omega,by omega⟩)
 | (refine And.intro (show (0:Int) < _ from ?_) ?_; first | decide | omega)))
structure PlC (K:PySem.W.Frag) (C:Addr):Prop where
 cls:Cls K C
 l:Abh K C "long"
 n:Abh K C "lines"
 s:Abh K C "seekers"
 g:Abh K C "groups"
def AqB (long:Int) (lt:Addr) (seekers:Int) (gt:Addr):List (Str×V):=[("long",.int long),("lines",.ref lt),("seekers",.int seekers),("groups",.ref gt)]
def Arq (long seekers:Int) (zs:List Str) (ts:List Pr):Prop:=(2≤long∧long≤4∧1≤seekers∧seekers≤60)∧OkL long zs∧OkG long ts
structure Pts (H:Hp) (l g:Addr) (zs:List Str) (ts:List Pr):Prop where
 l:H l=some (.lst (zs.map V.str))
 g:H g=some (.lst (ts.map prV))
 lay:Lay H ts
 okl:∀ z∈zs,Ok z
 okg:∀ t∈ts,Ok t.2.1
 fl:zs.length < 2000
 fg:ts.length < 2000
theorem Pts.same {H H':Hp} {l g:Addr} {zs:List Str} {ts:List Pr} (p:Pts H l g zs ts) (s:Aav H H'):Pts H' l g zs ts:=⟨s _ _ p.l,s _ _ p.g,p.lay.same s,p.okl,p.okg,p.fl,p.fg⟩
def Akv (a:Adr) (K:PySem.W.Frag):Sp:=fun vs H Q E=>∃ (p:Addr) (long:Int) (l:Addr) (seekers:Int) (g C dx:Addr) (zs:List Str) (ts:List Pr),vs=[.ref p,.int long,.ref l,.int seekers,.ref g]∧H p=some (.ins C dx [])∧PlC K C∧Pts H l g zs ts ∧
 (Arq long seekers zs ts→∀ (H':Hp) (lt gt:Addr) (zs':List Str) (ts':List Pr),AaE [p] H H'→H' p=some (.ins C dx (AqB long lt seekers gt))→H' lt=some (.tup (zs'.map V.str))→H' gt=some (.tup (ts'.map prV))→zs'.Perm zs→zs'.Pairwise leS→ts'.Perm ts→ts'.Pairwise (fun x y=>leS x.2.1 y.2.1)→Q .non H') ∧
 (¬ Arq long seekers zs ts→∀ H',Aav H H'→E (.ref a.BadPlan) none H')
section
variable {P:Program} {w:World} {K:PySem.W.Frag} {mg:Str→Option Value} {base:Heap} {a:Adr}
theorem Ae8:Aat ["self","long","lines","seekers","groups"] ["self","long","lines","seekers","groups"] (Aaa (Aab (top 35) 0)):=⟨rfl,rfl,rfl,by decide +kernel,rfl,by decide +kernel,by decide +kernel⟩
theorem Abn:Nm (Aaa (Aab (top 35) 0)) "self":=by walk_at "k"
theorem Abo:Nm (Aaa (Aab (top 35) 0)) "long":=by walk_at "k"
theorem AcY:Nm (Aaa (Aab (top 35) 0)) "lines":=by walk_at "k"
theorem Acw:Nm (Aaa (Aab (top 35) 0)) "seekers":=by walk_at "k"
theorem AcH:Nm (Aaa (Aab (top 35) 0)) "groups":=by walk_at "k"
theorem AcZ:Gm (Aaa (Aab (top 35) 0)) "tuple":=by walk_at "k"
theorem AcI:Gm (Aaa (Aab (top 35) 0)) "sorted":=by walk_at "k"
theorem Adq:Gm (Aaa (Aab (top 35) 0)) "check_groups":=by walk_at "k"
theorem AdF:Gm (Aaa (Aab (top 35) 0)) "check_lines":=by walk_at "k"
theorem Ads:Gm (Aaa (Aab (top 35) 0)) "check_counts":=by walk_at "k"
theorem Aoh {f:Addr} {fd:FuncData} (F:Fun K "__init__" "Plan.__init__" (Aab (top 35) 0) f fd) (T:TxtP K mg a) (D_check_counts:AgG P w K mg base (CXE P w) 2 "check_counts" ["long","seekers"] (AiW a)) (D_check_lines:AgG P w K mg base (CXE P w) 2 "check_lines" ["long","lines"] (Aku a K)) (D_check_groups:AgG P w K mg base (CXE P w) 2 "check_groups" ["long","groups"] (AiX a)) :
  Aco P w K mg base (CXE P w) 3 f fd ["self","long","lines","seekers","groups"] (Akv a K):=by
 refine F.okX Ae8 (fun vs H Q E h=>?_) (fun cdv A outer s H vs Q E hr h=>?_)
 ·obtain ⟨p,long,l,seekers,g,C,dx,zs,ts,rfl,_⟩:=h
  rfl
 ·obtain ⟨p,long,l,seekers,g,C,dx,zs,ts,rfl,hp,pc,pt,q1,q2⟩:=h
  have hu:=hr.units
  have nd:=Ae8.nd
  refine ⟨_,(@Aae _ _ _ _ _ (AaN (Ad2 D_check_counts Ads (hr.mono (by decide)) Abu (Aac (pvN 1 Abo) (Aac (pvN 3 Acw) Aaf))))
    (Aae (AaN (Ad2 D_check_lines AdF (hr.mono (by decide)) Abu (Aac (pvN 1 Abo) (Aac (pvN 2 AcY) Aaf))))
    (Aae (AaN (Ad2 D_check_groups Adq (hr.mono (by decide)) Abu (Aac (pvN 1 Abo) (Aac (pvN 4 AcH) Aaf))))
    (Aae (AbB (pvN 0 Abn) (pvN 1 Abo) rfl)
    (Aae (AbB (pvN 0 Abn) (Afa AdA AcZ T.n_tuple Ahg (Aac (Ac3 Ag0 AcI T.n_sorted Ahz (Aac (pvN 2 AcY) Aaf)) Aaf)) rfl)
    (Aae (AbB (pvN 0 Abn) (pvN 3 Acw) rfl)
    (Aag (AbB (pvN 0 Abn) (Afa AdA AcZ T.n_tuple Ahg (Aac (Ac3 AjA AcI T.n_sorted Ahz (Aac (pvN 4 AcH) Aaf)) Aaf)) rfl)))))))),?_⟩
  walk_at "st"
  refine ⟨fun hC=>?_,fun hC=>q2 (fun z=>hC z.1) H (Aav.refl H)⟩
  walk_at "st"
  refine ⟨long,l,zs,rfl,by omega,by omega,pt.l,pt.okl,pt.fl,fun hL H1 s1=>?_,fun hL H1 s1=>q2 (fun z=>hL z.2.1) H1 s1⟩
  have pt1:=pt.same s1
  walk_at "st"
  refine ⟨long,g,ts,rfl,by omega,by omega,pt1.g,pt1.lay,pt.okg,pt.fg,fun hG H2 s2=>?_,fun hG H2 s2=>q2 (fun z=>hG z.2.2) H2 (s1.trans s2)⟩
  have s02:=s1.trans s2
  have pt2:=pt.same s02
  have hp2:=s02 _ _ hp
  walk_at "st"
  refine ⟨p,C,dx,[],rfl,hp2,pc.cls,pc.l,(by show 0 < 1000; decide),?_⟩
  generalize hA:upd H2 p (.ins C dx (AbN "long" (.int long) []))=HA
  have xA:AaE [p] H HA:=fun b o hb e=>by rw [← hA,Aah (by simpa using hb)]; exact s02 _ _ e
  have pA:HA p=some (.ins C dx [("long",.int long)]):=hA▸Aad
  have np:∀ {b xs},H b=some (.lst xs)→b ∉ [p]:=fun h z=>by rw [List.mem_singleton.mp z,hp] at h; cases h
  have np':∀ {b xs},H b=some (.tup xs)→b ∉ [p]:=fun h z=>by rw [List.mem_singleton.mp z,hp] at h; cases h
  walk_at "st"
  have hl:=hL.1.2
  refine ⟨l,zs,rfl,.of (xA _ _ (np pt.l) pt.l),by omega,fun l1 zs' n1 pz so=>?_⟩
  have sB:=(Aav.refl HA).upd (o:=.lst (zs'.map V.str)) n1
  refine ⟨l1,zs'.map V.str,rfl,Or.inl ⟨.of Aad,fun lt n2=>?_⟩⟩
  have sC:=sB.upd (o:=.tup (zs'.map V.str)) n2
  have eC:(upd (upd HA l1 (.lst (zs'.map V.str))) lt (.tup (zs'.map V.str))) lt=some (.tup (zs'.map V.str)):=Aad
  have fC:HA lt=none:=sB.free n2
  generalize upd (upd HA l1 (.lst (zs'.map V.str))) lt (.tup (zs'.map V.str))=HC at sC eC ⊢
  walk_at "st"
  refine ⟨p,C,dx,_,rfl,sC _ _ pA,pc.cls,pc.n,(by show 1 < 1000; decide),?_⟩
  generalize hD:upd HC p (.ins C dx (AbN "lines" (.ref lt) [("long",.int long)]))=HD
  have nlt:lt≠p:=fun z=>by rw [z,pA] at fC; cases fC
  have xD:AaE [p] H HD:=fun b o hb e=>by rw [← hD,Aah (by simpa using hb)]; exact sC _ _ (xA _ _ hb e)
  have pD:HD p=some (.ins C dx [("long",.int long),("lines",.ref lt)]):=hD▸Aad
  have eD:HD lt=some (.tup (zs'.map V.str)):=by rw [← hD,Aah nlt]; exact eC
  walk_at "st"
  refine ⟨p,C,dx,_,rfl,pD,pc.cls,pc.s,(by show 2 < 1000; decide),?_⟩
  generalize hE:upd HD p (.ins C dx (AbN "seekers" (.int seekers) [("long",.int long),("lines",.ref lt)]))=HE
  have xE:AaE [p] H HE:=fun b o hb e=>by rw [← hE,Aah (by simpa using hb)]; exact xD _ _ hb e
  have pE:HE p=some (.ins C dx [("long",.int long),("lines",.ref lt),("seekers",.int seekers)]):=hE▸Aad
  have eE:HE lt=some (.tup (zs'.map V.str)):=by rw [← hE,Aah nlt]; exact eD
  walk_at "st"
  have layE:Lay HE ts:=fun t m=>xE _ _ (np' (pt.lay t m)) (pt.lay t m)
  have hg:=hG.1
  refine ⟨g,ts,rfl,.of (xE _ _ (np pt.g) pt.g),layE,hG.2.2,by omega,fun l3 ts' n3 pts so3=>?_⟩
  have sF:=(Aav.refl HE).upd (o:=.lst (ts'.map prV)) n3
  refine ⟨l3,ts'.map prV,rfl,Or.inl ⟨.of Aad,fun gt n4=>?_⟩⟩
  have sG:=sF.upd (o:=.tup (ts'.map prV)) n4
  have eG:(upd (upd HE l3 (.lst (ts'.map prV))) gt (.tup (ts'.map prV))) gt=some (.tup (ts'.map prV)):=Aad
  have fG:HE gt=none:=sF.free n4
  generalize upd (upd HE l3 (.lst (ts'.map prV))) gt (.tup (ts'.map prV))=HG at sG eG ⊢
  walk_at "st"
  refine ⟨p,C,dx,_,rfl,sG _ _ pE,pc.cls,pc.g,(by show 3 < 1000; decide),?_⟩
  have ngt:gt≠p:=fun z=>by rw [z,pE] at fG; cases fG
  refine q1 ⟨hC,hL,hG⟩ _ lt gt zs' ts' (fun b o hb e=>by rw [Aah (by simpa using hb)]; exact sG _ _ (xE _ _ hb e)) Aad ?_ ?_ pz so pts so3
  ·rw [Aah nlt]; exact sG _ _ eE
  ·rw [Aah ngt]; exact eG
end
local macro_rules | `(tactic| walk_at "st")=>`(tactic| repeat (first
 | refine ⟨_,rfl,?_⟩
 | refine ⟨_,_,rfl,rfl,?_⟩
 | refine ⟨_,_,rfl,?_⟩
 | refine Or.inl ⟨_,_,rfl,rfl,?_⟩
 | refine Or.inl ⟨rfl,?_⟩
 | refine ⟨rfl,?_⟩
 | refine Or.inl ⟨_,_,_,_,rfl,rfl,.of (by assumption),rfl,?_⟩
 | (refine And.intro (show Aeq _ _ from ?_) ?_; (first | exact Or.inr ⟨by omega,by omega⟩ | exact Or.inl ⟨by omega,by omega⟩))
 | (refine And.intro (show Ae4 _ _ from ?_) ?_; exact ⟨by omega,by omega⟩)
 | (refine And.intro (show (0:Int) < _ from ?_) ?_; first | decide | omega)))
structure LnC (K:PySem.W.Frag) (C:Addr):Prop where
 cls:Cls K C
 nu:Abh K C "number"
 pl:Abh K C "place"
 he:Abh K C "held"
 st:Abh K C "state"
 di:Abh K C "dialled_so_far"
 pu:Abh K C "pulses"
 fa:Abh K C "far_end"
 wh:Abh K C "why"
def Arr (num:Str) (i:Int) (hl:Addr):List (Str×V):=[("number",.str num),("place",.int i),("held",.ref hl)]
def Ac7 (num:Str) (i:Int) (hl:Addr) (st fig:Str) (pul:Int) (far why:V):List (Str×V):=[("number",.str num),("place",.int i),("held",.ref hl),("state",.str st),("dialled_so_far",.str fig),("pulses",.int pul),("far_end",far),("why",why)]
def Aiq (a:Adr):Sp:=fun vs H Q _=>∃ (p dx:Addr) (num:Str) (i:Int) (hl:Addr) (st':Str) (fs:List (Str×V)),vs=[.ref p,.str st']∧H p=some (.ins a.Line dx fs)∧(fs=Arr num i hl∨∃ st fig pul far why,fs=Ac7 num i hl st fig pul far why)∧Q .non (upd H p (.ins a.Line dx (Ac7 num i hl st' "" 0 .non .non)))
def Akw (a:Adr):Sp:=fun vs H Q _=>∃ (p dx:Addr) (num:Str) (i:Int),vs=[.ref p,.str num,.int i]∧H p=some (.ins a.Line dx [])∧∀ l,H l=none→Q .non (upd (upd H l (.lst [])) p (.ins a.Line dx (Ac7 num i l "rests" "" 0 .non .non)))
section
variable {P:Program} {w:World} {K:PySem.W.Frag} {mg:Str→Option Value} {base:Heap} {a:Adr}
theorem AjG:Aat ["self","state"] ["self","state"] (Aaa (Aab (top 21) 1)):=⟨rfl,rfl,rfl,by decide +kernel,rfl,by decide +kernel,by decide +kernel⟩
theorem AbI:Nm (Aaa (Aab (top 21) 1)) "self":=by walk_at "k"
theorem Agx:Nm (Aaa (Aab (top 21) 1)) "state":=by walk_at "k"
theorem ApD {f:Addr} {fd:FuncData} (F:Fun K "turn" "Line.turn" (Aab (top 21) 1) f fd) (lc:LnC K a.Line):Aco P w K mg base CX0 1 f fd ["self","state"] (Aiq a):=by
 refine F.ok AjG (fun vs H Q E h=>?_) (fun cdv A outer s H vs Q E hr h=>?_)
 ·obtain ⟨p,dx,num,i,hl,st',fs,rfl,_⟩:=h
  rfl
 ·obtain ⟨p,dx,num,i,hl,st',fs,rfl,hp,hf,q⟩:=h
  refine ⟨_,(@Aae _ _ _ _ _ (AbB (pvN 0 AbI) (pvN 1 Agx) rfl)
    (Aae (AbB (pvN 0 AbI) Aak rfl)
    (Aae (AbB (pvN 0 AbI) Aal rfl)
    (Aae (AbB (pvN 0 AbI) AcQ rfl)
    (Aag (AbB (pvN 0 AbI) AcQ rfl)))))),?_⟩
  have fin:∀ {X},upd H p (.ins a.Line dx X) p=some (.ins a.Line dx X):=Aad
  rcases hf with rfl | ⟨st,fig,pul,far,why,rfl⟩
  all_goals
   walk_at "st"
   refine ⟨p,a.Line,dx,_,rfl,hp,lc.cls,lc.st,(Nat.le_of_ble_eq_true rfl),?_⟩
   walk_at "st"
   refine ⟨p,a.Line,dx,_,rfl,Aad,lc.cls,lc.di,(Nat.le_of_ble_eq_true rfl),?_⟩
   rw [Ahn]
   walk_at "st"
   refine ⟨p,a.Line,dx,_,rfl,Aad,lc.cls,lc.pu,(Nat.le_of_ble_eq_true rfl),?_⟩
   rw [Ahn]
   walk_at "st"
   refine ⟨p,a.Line,dx,_,rfl,Aad,lc.cls,lc.fa,(Nat.le_of_ble_eq_true rfl),?_⟩
   rw [Ahn]
   walk_at "st"
   refine ⟨p,a.Line,dx,_,rfl,Aad,lc.cls,lc.wh,(Nat.le_of_ble_eq_true rfl),?_⟩
   rw [Ahn]
   exact q
theorem Ahe:Aat ["self","number","place"] ["self","number","place"] (Aaa (Aab (top 21) 0)):=⟨rfl,rfl,rfl,by decide +kernel,rfl,by decide +kernel,by decide +kernel⟩
theorem Abp:Nm (Aaa (Aab (top 21) 0)) "self":=by walk_at "k"
theorem AeS:Nm (Aaa (Aab (top 21) 0)) "number":=by walk_at "k"
theorem Afd:Nm (Aaa (Aab (top 21) 0)) "place":=by walk_at "k"
theorem Aoi {f:Addr} {fd:FuncData} (F:Fun K "__init__" "Line.__init__" (Aab (top 21) 0) f fd) (lc:LnC K a.Line) (D_turn:AaJ P w K mg base CX0 1 a.Line "turn" ["self","state"] (Aiq a)):Aco P w K mg base CX0 2 f fd ["self","number","place"] (Akw a):=by
 refine F.ok Ahe (fun vs H Q E h=>?_) (fun cdv A outer s H vs Q E hr h=>?_)
 ·obtain ⟨p,dx,num,i,rfl,_⟩:=h
  rfl
 ·obtain ⟨p,dx,num,i,rfl,hp,q⟩:=h
  have cls_turn:=lc.cls
  refine ⟨_,(@Aae _ _ _ _ _ (AbB (pvN 0 Abp) (pvN 1 AeS) rfl)
    (Aae (AbB (pvN 0 Abp) (pvN 2 Afd) rfl)
    (Aae (AbB (pvN 0 Abp) (Aa6 Aaf) rfl)
    (Aag (AaN (AcC D_turn cls_turn (pvN 0 Abp) (hr.mono (by decide)) AbO (Aac Aak Aaf))))))),?_⟩
  walk_at "st"
  refine ⟨p,a.Line,dx,_,rfl,hp,lc.cls,lc.nu,(Nat.le_of_ble_eq_true rfl),?_⟩
  walk_at "st"
  refine ⟨p,a.Line,dx,_,rfl,Aad,lc.cls,lc.pl,(Nat.le_of_ble_eq_true rfl),?_⟩
  rw [Ahn]
  walk_at "st"
  refine ⟨(by show 0≤sizeLine; decide),fun l nl=>?_⟩
  have pl:p≠l:=fun z=>by rw [← z,Aad] at nl; cases nl
  walk_at "st"
  refine ⟨p,a.Line,dx,_,rfl,(by rw [Aah pl]; exact Aad),lc.cls,lc.he,(Nat.le_of_ble_eq_true rfl),?_⟩
  walk_at "st"
  refine ⟨p,dx,_,rfl,Aad,rfl,?_⟩
  walk_at "st"
  refine ⟨p,dx,num,i,l,"rests",_,rfl,Aad,.inl rfl,?_⟩
  have nl':H l=none:=by rw [Aah pl.symm] at nl; exact nl
  have e:upd (upd (upd (upd H p (.ins a.Line dx (AbN "place" (.int i) (AbN "number" (.str num) [])))) l (.lst [])) p (.ins a.Line dx (AbN "held" (.ref l) (AbN "place" (.int i) (AbN "number" (.str num) []))))) p (.ins a.Line dx (Ac7 num i l "rests" "" 0 .non .non))=upd (upd H l (.lst [])) p (.ins a.Line dx (Ac7 num i l "rests" "" 0 .non .non)):=by
   funext b
   by_cases h:b=p
   ·rw [h,Aad,Aad]
   ·rw [Aah h,Aah h,Aah h]
    by_cases h2:b=l
    ·rw [h2,Aad,Aad]
    ·rw [Aah h2,Aah h2,Aah h]
  rw [e]
  exact q l nl'
end
local macro_rules | `(tactic| walk_at "st")=>`(tactic| repeat (first
 | refine ⟨_,rfl,?_⟩
 | refine ⟨_,_,rfl,rfl,?_⟩
 | refine ⟨_,_,rfl,?_⟩
 | refine Or.inl ⟨_,_,rfl,rfl,?_⟩
 | refine Or.inl ⟨rfl,?_⟩
 | refine ⟨rfl,?_⟩
 | refine Or.inl ⟨_,_,_,_,rfl,rfl,.of (by assumption),rfl,?_⟩
 | (refine And.intro (show Aeq _ _ from ?_) ?_; (first | exact Or.inr ⟨by omega,by omega⟩ | exact Or.inl ⟨by omega,by omega⟩))
 | (refine And.intro (show Ae4 _ _ from ?_) ?_; exact ⟨by omega,by omega⟩)
 | (refine And.intro (show (0:Int) < _ from ?_) ?_; first | decide | omega)))
structure LnA where
 (p dx h:Addr) (ts:List Pr)
structure LnS where
 (num st fig:Str) (pul:Int) (far why:V) (held:List (Str×Int))
structure Aan where
 (h dx ld sd qa da sk ra rb rc rs rw:Addr) (las:List LnA) (gks:List (Key×V))
structure Aap where
 (long:Int) (lns:List LnS) (hs:List V) (js:List Bool) (ts:List Int) (places mark:Int) (st wt:List Int) (q:List Str) (dn:List V)
structure Ag3 (a:Adr) (H:Hp) (i:Nat) (la:LnA) (ln:LnS):Prop where
 ins:H la.p=some (.ins a.Line la.dx (Ac7 ln.num i la.h ln.st ln.fig ln.pul ln.far ln.why))
 held:H la.h=some (.lst (la.ts.map prV))
 lay:Lay H la.ts
 few:la.ts.length≤10
 eh:la.ts.map (·.2)=ln.held
structure Ars (K:PySem.W.Frag) (C:Addr):Prop where
 cls:Cls K C
 lo:Abh K C "long"
 li:Abh K C "lines"
 sw:Abh K C "switches"
 qu:Abh K C "queue"
 dn:Abh K C "done"
def AhS (long:Int) (ld sd qa da:Addr):List (Str×V):=[("long",.int long),("lines",.ref ld),("switches",.ref sd),("queue",.ref qa),("done",.ref da)]
def Aan.lists (A:Aan):List Addr:=[A.qa,A.da,A.ra,A.rb,A.rc,A.rs,A.rw]
structure Aaw (K:PySem.W.Frag) (a:Adr) (H:Hp) (A:Aan) (S:Aap):Prop where
 hall:H A.h=some (.ins a.Hall A.dx (AhS S.long A.ld A.sd A.qa A.da))
 ld:H A.ld=some (.dK ((S.lns.zip A.las).map fun x=>(.inr x.1.num,.ref x.2.p)))
 sd:H A.sd=some (.dK (A.gks++[(.inr "",.ref A.sk)]))
 gk:Ag9 A.gks (.inr "")=none
 q:H A.qa=some (.lst (S.q.map V.str))
 dn:H A.da=some (.lst S.dn)
 sek:Sek K a H A.sk a.Seekers A.ra A.rb A.rc A.rs A.rw S.hs S.js S.ts S.places S.mark S.st S.wt
 len:A.las.length=S.lns.length
 ln:∀ (i:Nat) (la:LnA) (ln:LnS),A.las[i]?=some la→S.lns[i]?=some ln→Ag3 a H i la ln
 num:(S.lns.map (·.num)).Nodup
 np:(A.las.map (·.p)).Nodup
 nl:(A.lists++A.las.map (·.h)).Nodup
 ni:A.h ∉ A.las.map (·.p)∧A.sk ∉ A.las.map (·.p)∧A.h≠A.sk
theorem Akx {α:Type}:∀ {l:List α},l.Nodup→∀ {i j:Nat} {x y:α},l[i]?=some x→l[j]?=some y→i≠j→x≠y
 | [],_,i,j,x,y,hx,_,_=>by simp at hx
 | z :: l,h,0,0,x,y,_,_,ne=>absurd rfl ne
 | z :: l,h,0,j + 1,x,y,hx,hy,_=>fun e=>by
  have hx:z=x:=by simpa using hx
  have hy:l[j]?=some y:=by simpa using hy
  exact (List.nodup_cons.mp h).1 (by rw [hx,e]; exact List.mem_of_getElem? hy)
 | z :: l,h,i + 1,0,x,y,hx,hy,_=>fun e=>by
  have hy:z=y:=by simpa using hy
  have hx:l[i]?=some x:=by simpa using hx
  exact (List.nodup_cons.mp h).1 (by rw [hy,← e]; exact List.mem_of_getElem? hx)
 | z :: l,h,i + 1,j + 1,x,y,hx,hy,ne=>Akx (List.nodup_cons.mp h).2 (by simpa using hx) (by simpa using hy) (by omega)
theorem AhT {α:Type} {l:List α} {i j:Nat} {x y:α} (h:(l.set i x)[j]?=some y):(i=j∧x=y∧i < l.length)∨(i≠j∧l[j]?=some y):=by
 rw [List.getElem?_set] at h
 by_cases e:i=j
 ·subst e
  rw [if_pos rfl] at h
  by_cases l':i < l.length
  ·rw [if_pos l'] at h; cases h; exact .inl ⟨rfl,rfl,l'⟩
  ·rw [if_neg l'] at h; cases h
 ·rw [if_neg e] at h; exact .inr ⟨e,h⟩
theorem Aax {α β:Type} {f:α→β}:∀ {l:List α} {i:Nat} {x y:α},l[i]?=some x→f y=f x→(l.set i y).map f=l.map f
 | [],_,_,_,h,_=>by simp at h
 | z :: l,0,x,y,h,e=>by
  have:z=x:=by simpa using h
  show f y :: l.map f=f z :: l.map f
  rw [e,this]
 | z :: l,i + 1,x,y,h,e=>by
  show f z :: (l.set i y).map f=f z :: l.map f
  rw [Aax (by simpa using h) e]
theorem AiY {α β γ:Type} {f:α×β→γ}:∀ {l:List α} {m:List β} {i:Nat} {x x':α} {y y':β},l[i]?=some x→m[i]?=some y→f (x',y')=f (x,y)→((l.set i x').zip (m.set i y')).map f=(l.zip m).map f
 | [],_,_,_,_,_,_,h,_,_=>by simp at h
 | _,[],_,_,_,_,_,_,h,_=>by simp at h
 | a :: l,b :: m,0,x,x',y,y',h,h',e=>by
  have e1:a=x:=by simpa using h
  have e2:b=y:=by simpa using h'
  show f (x',y') :: _=f (a,b) :: _
  rw [e,e1,e2]
 | a :: l,b :: m,i + 1,x,x',y,y',h,h',e=>by
  show f (a,b) :: ((l.set i x').zip (m.set i y')).map f=f (a,b) :: (l.zip m).map f
  rw [AiY (by simpa using h) (by simpa using h') e]
theorem AoJ {α:Type}:∀ {l:List α} {i:Nat} {x:α},l[i]?=some x→l.set i x=l
 | [],_,_,h=>by simp at h
 | z :: l,0,x,h=>by
  have:z=x:=by simpa using h
  rw [this]; rfl
 | z :: l,i + 1,x,h=>by
  show z :: l.set i x=z :: l
  rw [AoJ (by simpa using h)]
section
variable {K:PySem.W.Frag} {a:Adr} {H H':Hp} {A:Aan} {S:Aap}
theorem Ag3.same {i:Nat} {la:LnA} {ln:LnS} (h:Ag3 a H i la ln) (s:Aav H H'):Ag3 a H' i la ln:=⟨s _ _ h.ins,s _ _ h.held,h.lay.same s,h.few,h.eh⟩
theorem Aaw.same (t:Aaw K a H A S) (s:Aav H H'):Aaw K a H' A S :=
 ⟨s _ _ t.hall,s _ _ t.ld,s _ _ t.sd,t.gk,s _ _ t.q,s _ _ t.dn,t.sek.same s,t.len,fun i la ln h1 h2=>(t.ln i la ln h1 h2).same s,t.num,t.np,t.nl,t.ni⟩
theorem Aaw.apart (t:Aaw K a H A S) {i:Nat} {la:LnA} (h:A.las[i]?=some la):la.h ∉ A.lists∧∀ (j:Nat) (lb:LnA),A.las[j]?=some lb→i≠j→lb.h≠la.h∧lb.p≠la.p:=by
 have hh:(A.las.map (·.h))[i]?=some la.h:=by rw [List.getElem?_map,h]; rfl
 have hp:(A.las.map (·.p))[i]?=some la.p:=by rw [List.getElem?_map,h]; rfl
 have n:=List.nodup_append.mp t.nl
 refine ⟨fun m=>n.2.2 _ m _ (List.mem_of_getElem? hh) rfl,fun j lb hj ne=>⟨?_,?_⟩⟩
 ·exact Akx n.2.1 (by rw [List.getElem?_map,hj]; rfl) hh (Ne.symm ne)
 ·exact Akx t.np (by rw [List.getElem?_map,hj]; rfl) hp (Ne.symm ne)
theorem Aaw.heldNot (t:Aaw K a H A S) {b:Addr} (hb:b∈A.lists) {j:Nat} {lb:LnA} (h:A.las[j]?=some lb):lb.h≠b:=fun e=>(t.apart h).1 (e▸hb)
theorem Aaw.setLine (t:Aaw K a H A S) {i:Nat} {la:LnA} {ln ln':LnS} (h1:A.las[i]?=some la) (h2:S.lns[i]?=some ln) (hn:ln'.num=ln.num) (hh:ln'.held=ln.held) :
  Aaw K a (upd H la.p (.ins a.Line la.dx (Ac7 ln'.num i la.h ln'.st ln'.fig ln'.pul ln'.far ln'.why))) A { S with lns:=S.lns.set i ln' }:=by
 have L:=t.ln i la ln h1 h2
 have mp:la.p∈A.las.map (·.p):=List.mem_of_getElem? (i:=i) (by rw [List.getElem?_map,h1]; rfl)
 have o:∀ {b u},b≠la.p→H b=some u→(upd H la.p (.ins a.Line la.dx (Ac7 ln'.num i la.h ln'.st ln'.fig ln'.pul ln'.far ln'.why))) b=some u:=fun n e=>by rw [Aah n]; exact e
 have oL:∀ {b xs},H b=some (.lst xs)→(upd H la.p (.ins a.Line la.dx (Ac7 ln'.num i la.h ln'.st ln'.fig ln'.pul ln'.far ln'.why))) b=some (.lst xs):=fun e=>o (AaI e L.ins (by intro z; cases z)) e
 have oT:∀ {b xs},H b=some (.tup xs)→(upd H la.p (.ins a.Line la.dx (Ac7 ln'.num i la.h ln'.st ln'.fig ln'.pul ln'.far ln'.why))) b=some (.tup xs):=fun e=>o (AaI e L.ins (by intro z; cases z)) e
 have oD:∀ {b xs},H b=some (.dK xs)→(upd H la.p (.ins a.Line la.dx (Ac7 ln'.num i la.h ln'.st ln'.fig ln'.pul ln'.far ln'.why))) b=some (.dK xs):=fun e=>o (AaI e L.ins (by intro z; cases z)) e
 obtain ⟨sdx,se⟩:=t.sek.ins
 have sk:=t.sek
 refine ⟨o (fun z=>t.ni.1 (z▸mp)) t.hall,?_,oD t.sd,t.gk,oL t.q,oL t.dn,⟨⟨sdx,o (fun z=>t.ni.2.1 (z▸mp)) se⟩,sk.cs,oL sk.ha,oL sk.hb,oL sk.hc,oL sk.hs_,oL sk.hw,sk.ap,sk.lj,sk.lt,sk.ls,sk.lw,sk.z⟩,by rw [List.length_set]; exact t.len,?_,?_,t.np,t.nl,t.ni⟩
 ·have:=AiY (f:=fun x:LnS×LnA=>((Sum.inr x.1.num:Key),V.ref x.2.p)) h2 h1 (x':=ln') (y':=la) (by show (_,_)=(_,_); rw [hn])
  rw [AoJ h1] at this
  rw [this]; exact oD t.ld
 ·intro j lb lm hj hm
  rcases AhT hm with ⟨rfl,rfl,_⟩ | ⟨ne,hm⟩
  ·rw [h1] at hj; cases hj
   exact ⟨Aad,oL L.held,fun x m=>oT (L.lay x m),L.few,by rw [hh]; exact L.eh⟩
  ·have M:=t.ln j lb lm hj hm
   exact ⟨o ((t.apart h1).2 j lb hj ne).2 M.ins,oL M.held,fun x m=>oT (M.lay x m),M.few,M.eh⟩
 ·rw [Aax h2 hn]; exact t.num
theorem Aaw.setQ (t:Aaw K a H A S) {q':List Str}:Aaw K a (upd H A.qa (.lst (q'.map V.str))) A { S with q:=q' }:=by
 have o:∀ {b u},b≠A.qa→H b=some u→(upd H A.qa (.lst (q'.map V.str))) b=some u:=fun n e=>by rw [Aah n]; exact e
 have oI:∀ {b C d fs},H b=some (.ins C d fs)→(upd H A.qa (.lst (q'.map V.str))) b=some (.ins C d fs):=fun e=>o (AaI e t.q (by intro z; cases z)) e
 have oT:∀ {b xs},H b=some (.tup xs)→(upd H A.qa (.lst (q'.map V.str))) b=some (.tup xs):=fun e=>o (AaI e t.q (by intro z; cases z)) e
 have oD:∀ {b xs},H b=some (.dK xs)→(upd H A.qa (.lst (q'.map V.str))) b=some (.dK xs):=fun e=>o (AaI e t.q (by intro z; cases z)) e
 have n7:=(List.nodup_append.mp t.nl).1
 simp only [Aan.lists,List.nodup_cons,List.mem_cons,List.not_mem_nil,or_false,not_or,not_false_eq_true,List.nodup_nil,and_true] at n7
 obtain ⟨⟨m1,m2,m3,m4,m5,m6⟩,_⟩:=n7
 obtain ⟨sdx,se⟩:=t.sek.ins
 have sk:=t.sek
 refine ⟨oI t.hall,oD t.ld,oD t.sd,t.gk,Aad,o (Ne.symm m1) t.dn,⟨⟨sdx,oI se⟩,sk.cs,o (Ne.symm m2) sk.ha,o (Ne.symm m3) sk.hb,o (Ne.symm m4) sk.hc,o (Ne.symm m5) sk.hs_,o (Ne.symm m6) sk.hw,sk.ap,sk.lj,sk.lt,sk.ls,sk.lw,sk.z⟩,t.len,fun j lb lm hj hm=>?_,t.num,t.np,t.nl,t.ni⟩
 have M:=t.ln j lb lm hj hm
 exact ⟨oI M.ins,o (t.heldNot (by simp [Aan.lists]) hj) M.held,fun x m=>oT (M.lay x m),M.few,M.eh⟩
theorem Aaw.setD (t:Aaw K a H A S) {xs':List V}:Aaw K a (upd H A.da (.lst xs')) A { S with dn:=xs' }:=by
 have o:∀ {b u},b≠A.da→H b=some u→(upd H A.da (.lst xs')) b=some u:=fun n e=>by rw [Aah n]; exact e
 have oI:∀ {b C d fs},H b=some (.ins C d fs)→(upd H A.da (.lst xs')) b=some (.ins C d fs):=fun e=>o (AaI e t.dn (by intro z; cases z)) e
 have oT:∀ {b xs},H b=some (.tup xs)→(upd H A.da (.lst xs')) b=some (.tup xs):=fun e=>o (AaI e t.dn (by intro z; cases z)) e
 have oD:∀ {b xs},H b=some (.dK xs)→(upd H A.da (.lst xs')) b=some (.dK xs):=fun e=>o (AaI e t.dn (by intro z; cases z)) e
 have n7:=(List.nodup_append.mp t.nl).1
 simp only [Aan.lists,List.nodup_cons,List.mem_cons,List.not_mem_nil,or_false,not_or,not_false_eq_true,List.nodup_nil,and_true] at n7
 obtain ⟨⟨m1,_⟩,⟨m2,m3,m4,m5,m6⟩,_⟩:=n7
 obtain ⟨sdx,se⟩:=t.sek.ins
 have sk:=t.sek
 refine ⟨oI t.hall,oD t.ld,oD t.sd,t.gk,o m1 t.q,Aad,⟨⟨sdx,oI se⟩,sk.cs,o (Ne.symm m2) sk.ha,o (Ne.symm m3) sk.hb,o (Ne.symm m4) sk.hc,o (Ne.symm m5) sk.hs_,o (Ne.symm m6) sk.hw,sk.ap,sk.lj,sk.lt,sk.ls,sk.lw,sk.z⟩,t.len,fun j lb lm hj hm=>?_,t.num,t.np,t.nl,t.ni⟩
 have M:=t.ln j lb lm hj hm
 exact ⟨oI M.ins,o (t.heldNot (by simp [Aan.lists]) hj) M.held,fun x m=>oT (M.lay x m),M.few,M.eh⟩
theorem Aaw.setSek (t:Aaw K a H A S) {hs:List V} {js:List Bool} {ts:List Int} {mark:Int} {st wt:List Int} (s:AaE [A.sk,A.ra,A.rb,A.rc,A.rs,A.rw] H H') (k:Sek K a H' A.sk a.Seekers A.ra A.rb A.rc A.rs A.rw hs js ts S.places mark st wt) :
  Aaw K a H' A { S with hs:=hs,js:=js,ts:=ts,mark:=mark,st:=st,wt:=wt }:=by
 obtain ⟨sdx,se⟩:=t.sek.ins
 have sk:=t.sek
 have o:∀ {b u},b ∉ [A.sk,A.ra,A.rb,A.rc,A.rs,A.rw]→H b=some u→H' b=some u:=fun n e=>s _ _ n e
 have nlst:∀ {b u},H b=some u→(∀ xs,u≠.lst xs)→b≠A.sk→H' b=some u:=fun e n ne=>o (by
  simp only [List.mem_cons,List.not_mem_nil,or_false,not_or]
  exact ⟨ne,AaI e sk.ha (n _),AaI e sk.hb (n _),AaI e sk.hc (n _),AaI e sk.hs_ (n _),AaI e sk.hw (n _)⟩) e
 have oI:∀ {b C d fs},H b=some (.ins C d fs)→b≠A.sk→H' b=some (.ins C d fs):=fun e n=>nlst e (fun xs z=>by cases z) n
 have oT:∀ {b xs},H b=some (.tup xs)→H' b=some (.tup xs):=fun e=>nlst e (fun xs z=>by cases z) (AaI e se (by intro z; cases z))
 have oD:∀ {b xs},H b=some (.dK xs)→H' b=some (.dK xs):=fun e=>nlst e (fun xs z=>by cases z) (AaI e se (by intro z; cases z))
 have oL:∀ {b xs},H b=some (.lst xs)→b ∉ [A.ra,A.rb,A.rc,A.rs,A.rw]→H' b=some (.lst xs):=fun e n=>o (by
  rw [List.mem_cons,not_or]
  exact ⟨AaI e se (by intro z; cases z),n⟩) e
 have n7:=(List.nodup_append.mp t.nl).1
 simp only [Aan.lists,List.nodup_cons,List.mem_cons,List.not_mem_nil,or_false,not_or,not_false_eq_true,List.nodup_nil,and_true] at n7
 obtain ⟨⟨p1,p2,p3,p4,p5,p6⟩,⟨d2,d3,d4,d5,d6⟩,_⟩:=n7
 refine ⟨oI t.hall t.ni.2.2,oD t.ld,oD t.sd,t.gk,oL t.q (by simp [p2,p3,p4,p5,p6]),oL t.dn (by simp [d2,d3,d4,d5,d6]),k,t.len,fun j lb lm hj hm=>?_,t.num,t.np,t.nl,t.ni⟩
 have M:=t.ln j lb lm hj hm
 have hp:lb.p∈A.las.map (·.p):=List.mem_of_getElem? (i:=j) (by rw [List.getElem?_map,hj]; rfl)
 refine ⟨oI M.ins (fun z=>t.ni.2.1 (z▸hp)),oL M.held ?_,fun x m=>oT (M.lay x m),M.few,M.eh⟩
 have:=(t.apart hj).1
 simp only [Aan.lists,List.mem_cons,List.not_mem_nil,or_false,not_or] at this ⊢
 exact this.2.2
end
local macro_rules | `(tactic| walk_at "st")=>`(tactic| repeat (first
 | refine ⟨_,rfl,?_⟩
 | refine ⟨_,_,rfl,rfl,?_⟩
 | refine ⟨_,_,rfl,?_⟩
 | refine Or.inl ⟨_,_,rfl,rfl,?_⟩
 | refine Or.inl ⟨rfl,?_⟩
 | refine ⟨rfl,?_⟩
 | refine Or.inl ⟨_,_,_,_,rfl,rfl,.of (by assumption),rfl,?_⟩
 | (refine And.intro (show Aeq _ _ from ?_) ?_; (first | exact Or.inr ⟨by omega,by omega⟩ | exact Or.inl ⟨by omega,by omega⟩))
 | (refine And.intro (show Ae4 _ _ from ?_) ?_; exact ⟨by omega,by omega⟩)
 | (refine And.intro (show (0:Int) < _ from ?_) ?_; first | decide | omega)))
theorem AjH {α:Type}:∀ {l:List α} {i:Nat} {x:α},l.Nodup→x ∉ l→(l.set i x).Nodup
 | [],_,_,_,_=>by simp
 | z :: l,0,x,h,n=>List.nodup_cons.mpr ⟨fun m=>n (List.mem_cons_of_mem _ m),(List.nodup_cons.mp h).2⟩
 | z :: l,i + 1,x,h,n=>by
  show (z :: l.set i x).Nodup
  have h':=List.nodup_cons.mp h
  refine List.nodup_cons.mpr ⟨fun m=>?_,AjH h'.2 fun m=>n (List.mem_cons_of_mem _ m)⟩
  rcases List.mem_or_eq_of_mem_set m with m | m
  ·exact h'.1 m
  ·exact n (by rw [← m]; exact List.mem_cons_self)
section
variable {K:PySem.W.Frag} {a:Adr} {H H':Hp} {A:Aan} {S:Aap}
theorem Aaw.newHeld (t:Aaw K a H A S) {i:Nat} {la:LnA} {ln:LnS} (h1:A.las[i]?=some la) (h2:S.lns[i]?=some ln) {l:Addr} (nl:H l=none) :
  Aaw K a (upd (upd H l (.lst [])) la.p (.ins a.Line la.dx (Ac7 ln.num i l ln.st ln.fig ln.pul ln.far ln.why))) { A with las:=A.las.set i { la with h:=l,ts:=[] } } { S with lns:=S.lns.set i { ln with held:=[] } }:=by
 have L:=t.ln i la ln h1 h2
 have mp:la.p∈A.las.map (·.p):=List.mem_of_getElem? (i:=i) (by rw [List.getElem?_map,h1]; rfl)
 have o:∀ {b u},b≠la.p→H b=some u→(upd (upd H l (.lst [])) la.p (.ins a.Line la.dx (Ac7 ln.num i l ln.st ln.fig ln.pul ln.far ln.why))) b=some u:=fun n e=>by rw [Aah n,Aah (Aaj e nl)]; exact e
 have oL:∀ {b xs},H b=some (.lst xs)→(upd (upd H l (.lst [])) la.p (.ins a.Line la.dx (Ac7 ln.num i l ln.st ln.fig ln.pul ln.far ln.why))) b=some (.lst xs):=fun e=>o (AaI e L.ins (by intro z; cases z)) e
 have oT:∀ {b xs},H b=some (.tup xs)→(upd (upd H l (.lst [])) la.p (.ins a.Line la.dx (Ac7 ln.num i l ln.st ln.fig ln.pul ln.far ln.why))) b=some (.tup xs):=fun e=>o (AaI e L.ins (by intro z; cases z)) e
 have oD:∀ {b xs},H b=some (.dK xs)→(upd (upd H l (.lst [])) la.p (.ins a.Line la.dx (Ac7 ln.num i l ln.st ln.fig ln.pul ln.far ln.why))) b=some (.dK xs):=fun e=>o (AaI e L.ins (by intro z; cases z)) e
 have pl:l≠la.p:=(Aaj L.ins nl).symm
 obtain ⟨sdx,se⟩:=t.sek.ins
 have sk:=t.sek
 have em:(A.las.set i { la with h:=l,ts:=[] }).map (·.p)=A.las.map (·.p):=Aax h1 rfl
 have n:=List.nodup_append.mp t.nl
 refine ⟨o (fun z=>t.ni.1 (z▸mp)) t.hall,?_,oD t.sd,t.gk,oL t.q,oL t.dn,⟨⟨sdx,o (fun z=>t.ni.2.1 (z▸mp)) se⟩,sk.cs,oL sk.ha,oL sk.hb,oL sk.hc,oL sk.hs_,oL sk.hw,sk.ap,sk.lj,sk.lt,sk.ls,sk.lw,sk.z⟩,by show (A.las.set i _).length=(S.lns.set i _).length; rw [List.length_set,List.length_set]; exact t.len,?_,by show ((S.lns.set i _).map _).Nodup; rw [Aax (f:=fun x:LnS=>x.num) (y:={ ln with held:=[] }) h2 rfl]; exact t.num,by show ((A.las.set i _).map _).Nodup; rw [em]; exact t.np,?_,?_⟩
 ·have:=AiY (f:=fun x:LnS×LnA=>((Sum.inr x.1.num:Key),V.ref x.2.p)) h2 h1 (x':={ ln with held:=[] }) (y':={ la with h:=l,ts:=[] }) rfl
  show _=some (HO.dK (((S.lns.set i _).zip (A.las.set i _)).map _))
  rw [this]; exact oD t.ld
 ·intro j lb lm hj hm
  rcases AhT hj with ⟨rfl,rfl,_⟩ | ⟨ne,hj⟩
  ·rcases AhT hm with ⟨_,rfl,_⟩ | ⟨ne,_⟩
   ·exact ⟨Aad,by show (upd _ _ _) l=_; rw [Aah pl,Aad]; rfl,fun x m=>absurd m (by simp),by simp,rfl⟩
   ·exact absurd rfl ne
  ·have hm:S.lns[j]?=some lm:=by
    rcases AhT hm with ⟨e,_⟩ | ⟨_,hm⟩
    ·exact absurd e ne
    ·exact hm
   have M:=t.ln j lb lm hj hm
   exact ⟨o ((t.apart h1).2 j lb hj ne).2 M.ins,oL M.held,fun x m=>oT (M.lay x m),M.few,M.eh⟩
 ·have fresh:∀ b∈A.lists++A.las.map (·.h),l≠b:=fun b hb e=>by
   subst e
   rcases List.mem_append.mp hb with m | m
   ·simp only [Aan.lists,List.mem_cons,List.not_mem_nil,or_false] at m
    rcases m with z | z | z | z | z | z | z
    ·rw [z,t.q] at nl; cases nl
    ·rw [z,t.dn] at nl; cases nl
    ·rw [z,sk.ha] at nl; cases nl
    ·rw [z,sk.hb] at nl; cases nl
    ·rw [z,sk.hc] at nl; cases nl
    ·rw [z,sk.hs_] at nl; cases nl
    ·rw [z,sk.hw] at nl; cases nl
   ·obtain ⟨lb,mb,eb⟩:=List.mem_map.mp m
    obtain ⟨j,hj,ej⟩:=List.getElem_of_mem mb
    have hj':A.las[j]?=some lb:=by rw [List.getElem?_eq_getElem hj,ej]
    have M:=t.ln j lb (S.lns[j]'(by rw [← t.len]; exact hj)) hj' (List.getElem?_eq_getElem _)
    rw [← eb,M.held] at nl; cases nl
  show (A.lists++(A.las.set i _).map _).Nodup
  rw [List.map_set]
  refine List.nodup_append.mpr ⟨n.1,?_,fun x hx y hy e=>?_⟩
  ·exact AjH n.2.1 fun m=>fresh l (List.mem_append_right _ m) rfl
  ·rcases List.mem_or_eq_of_mem_set hy with m | m
   ·exact n.2.2 x hx y m e
   ·exact fresh x (List.mem_append_left _ hx) (by rw [e,m])
 ·show A.h ∉ (A.las.set i _).map _∧A.sk ∉ (A.las.set i _).map _∧_
  rw [em]; exact t.ni
theorem Aaw.pushHeld (t:Aaw K a H A S) {i:Nat} {la:LnA} {ln:LnS} (h1:A.las[i]?=some la) (h2:S.lns[i]?=some ln) {x:Pr} (hx:H x.1=some (.tup [.str x.2.1,.int x.2.2])) (few:la.ts.length≤9) :
  Aaw K a (upd H la.h (.lst ((la.ts++[x]).map prV))) { A with las:=A.las.set i { la with ts:=la.ts++[x] } } { S with lns:=S.lns.set i { ln with held:=ln.held++[x.2] } }:=by
 have L:=t.ln i la ln h1 h2
 have o:∀ {b u},b≠la.h→H b=some u→(upd H la.h (.lst ((la.ts++[x]).map prV))) b=some u:=fun n e=>by rw [Aah n]; exact e
 have oI:∀ {b C d fs},H b=some (.ins C d fs)→(upd H la.h (.lst ((la.ts++[x]).map prV))) b=some (.ins C d fs):=fun e=>o (AaI e L.held (by intro z; cases z)) e
 have oT:∀ {b xs},H b=some (.tup xs)→(upd H la.h (.lst ((la.ts++[x]).map prV))) b=some (.tup xs):=fun e=>o (AaI e L.held (by intro z; cases z)) e
 have oD:∀ {b xs},H b=some (.dK xs)→(upd H la.h (.lst ((la.ts++[x]).map prV))) b=some (.dK xs):=fun e=>o (AaI e L.held (by intro z; cases z)) e
 have na:=(t.apart h1).1
 simp only [Aan.lists,List.mem_cons,List.not_mem_nil,or_false,not_or] at na
 obtain ⟨m1,m2,m3,m4,m5,m6,m7⟩:=na
 obtain ⟨sdx,se⟩:=t.sek.ins
 have sk:=t.sek
 have em:(A.las.set i { la with ts:=la.ts++[x] }).map (·.p)=A.las.map (·.p):=Aax h1 rfl
 have eh:(A.las.set i { la with ts:=la.ts++[x] }).map (·.h)=A.las.map (·.h):=Aax h1 rfl
 refine ⟨oI t.hall,?_,oD t.sd,t.gk,o (Ne.symm m1) t.q,o (Ne.symm m2) t.dn,⟨⟨sdx,oI se⟩,sk.cs,o (Ne.symm m3) sk.ha,o (Ne.symm m4) sk.hb,o (Ne.symm m5) sk.hc,o (Ne.symm m6) sk.hs_,o (Ne.symm m7) sk.hw,sk.ap,sk.lj,sk.lt,sk.ls,sk.lw,sk.z⟩,by show (A.las.set i _).length=(S.lns.set i _).length; rw [List.length_set,List.length_set]; exact t.len,?_,by show ((S.lns.set i _).map _).Nodup; rw [Aax (f:=fun x:LnS=>x.num) (y:={ ln with held:=ln.held++[x.2] }) h2 rfl]; exact t.num,by show ((A.las.set i _).map _).Nodup; rw [em]; exact t.np,by show (A.lists++(A.las.set i _).map _).Nodup; rw [eh]; exact t.nl,by show A.h ∉ (A.las.set i _).map _∧A.sk ∉ (A.las.set i _).map _∧_; rw [em]; exact t.ni⟩
 ·have:=AiY (f:=fun x:LnS×LnA=>((Sum.inr x.1.num:Key),V.ref x.2.p)) h2 h1 (x':={ ln with held:=ln.held++[x.2] }) (y':={ la with ts:=la.ts++[x] }) rfl
  show _=some (HO.dK (((S.lns.set i _).zip (A.las.set i _)).map _))
  rw [this]; exact oD t.ld
 ·intro j lb lm hj hm
  rcases AhT hj with ⟨rfl,rfl,_⟩ | ⟨ne,hj⟩
  ·rcases AhT hm with ⟨_,rfl,_⟩ | ⟨ne,_⟩
   ·refine ⟨oI L.ins,Aad,fun y m=>?_,by show (la.ts++[x]).length≤10; rw [List.length_append,List.length_singleton]; omega,by show (la.ts++[x]).map _=ln.held++[x.2]; rw [List.map_append,L.eh]; rfl⟩
    rcases List.mem_append.mp m with m | m
    ·exact oT (L.lay y m)
    ·rw [List.mem_singleton.mp m]; exact oT hx
   ·exact absurd rfl ne
  ·have hm:S.lns[j]?=some lm:=by
    rcases AhT hm with ⟨e,_⟩ | ⟨_,hm⟩
    ·exact absurd e ne
    ·exact hm
   have M:=t.ln j lb lm hj hm
   exact ⟨oI M.ins,o ((t.apart h1).2 j lb hj ne).1 M.held,fun x m=>oT (M.lay x m),M.few,M.eh⟩
end
local macro_rules | `(tactic| walk_at "st")=>`(tactic| repeat (first
 | refine ⟨_,rfl,?_⟩
 | refine ⟨_,_,rfl,rfl,?_⟩
 | refine ⟨_,_,rfl,?_⟩
 | refine Or.inl ⟨_,_,rfl,rfl,?_⟩
 | refine Or.inl ⟨rfl,?_⟩
 | refine ⟨rfl,?_⟩
 | refine Or.inl ⟨_,_,_,_,rfl,rfl,.of (by assumption),rfl,?_⟩
 | (refine And.intro (show Aeq _ _ from ?_) ?_; (first | exact Or.inr ⟨by omega,by omega⟩ | exact Or.inl ⟨by omega,by omega⟩))
 | (refine And.intro (show Ae4 _ _ from ?_) ?_; exact ⟨by omega,by omega⟩)
 | (refine And.intro (show (0:Int) < _ from ?_) ?_; first | decide | omega)))
structure TxtH (P:Program) (w:World) (K:PySem.W.Frag) (mg:Str→Option Value) (a:Adr):Prop extends TxtK K mg a,TxtP K mg a where
 g_AT_SEEKERS:∃ t,mg "AT_SEEKERS"=some (Value.str "" t)
 g_WAYS:mg "WAYS"=some (.ref a.WAYS)
 ways:∃ t1 t2 t3 t4,Apq P w K a.WAYS [(.inr "lift",.ref t1),(.inr "pulse",.ref t2),(.inr "gap",.ref t3),(.inr "hang",.ref t4)]∧(∀ H,SqT K H t1 [.str "rests",.str "rung"])∧∀ H,SqT K H t4 [.str "waits",.str "dials",.str "rings",.str "talks",.str "told"]
 g_NoLine:mg "NoLine"=some (.ref a.NoLine)
 x_NoLine:PySem.W.excIn K a.NoLine [.type "ValueError",.type "Exception",.type "BaseException",.type "object"] "ValueError.__new__"=true
 g_NotSo:mg "NotSo"=some (.ref a.NotSo)
 x_NotSo:PySem.W.excIn K a.NotSo [.type "ValueError",.type "Exception",.type "BaseException",.type "object"] "ValueError.__new__"=true
 hc:Ars K a.Hall
 lc:LnC K a.Line
 sc:SkC K a a.Seekers
def Aan.ws (A:Aan):List Addr:=A.sk :: (A.lists++(A.las.map (·.p)++A.las.map (·.h)))
structure Mv (A A':Aan) (H H':Hp):Prop where
 fr:AaE A.ws H H'
 sub:∀ b∈A'.ws,b∈A.ws∨H b=none
 ex:∀ b,H' b=none→H b=none
theorem Mv.trans {A A' A'':Aan} {H H' H'':Hp} (x:Mv A A' H H') (y:Mv A' A'' H' H''):Mv A A'' H H'':=by
 have back:∀ b∈A'.ws,∀ o,H b=some o→b∈A.ws:=fun b m o e=>(x.sub b m).elim id fun z=>by rw [z] at e; cases e
 refine ⟨fun b o hb e=>y.fr b o (fun m=>hb (back b m o e)) (x.fr b o hb e),fun b m=>?_,fun b e=>x.ex b (y.ex b e)⟩
 rcases y.sub b m with m | z
 ·exact x.sub b m
 ·by_cases h:b∈A.ws
  ·exact .inl h
  ·right
   cases e:H b with
   | none=>rfl
   | some o=>rw [x.fr b o h e] at z; cases z
theorem Mv.same {A:Aan} {H H':Hp} (s:Aav H H'):Mv A A H H':=⟨fun b o _ e=>s b o e,fun b m=>.inl m,fun b e=>by
 cases h:H b with
 | none=>rfl
 | some o=>rw [s b o h] at e; cases e⟩
theorem Mv.at {A:Aan} {H:Hp} {b:Addr} {o:HO} (m:b∈A.ws):Mv A A H (upd H b o):=⟨fun c u hc e=>(Aah (fun z:c=b=>hc (by rw [z]; exact m))).trans e,fun c m=>.inl m,fun c e=>by
 by_cases z:c=b
 ·rw [z,Aad] at e; cases e
 ·rw [Aah z] at e; exact e⟩
theorem AqC {α:Type} {f:α→Addr} {l:List α} {i:Nat} {x:α} (h:l[i]?=some x):f x∈l.map f:=List.mem_map.mpr ⟨x,List.mem_of_getElem? h,rfl⟩
theorem Aan.p_ws {A:Aan} {i:Nat} {la:LnA} (h:A.las[i]?=some la):la.p∈A.ws:=List.mem_cons_of_mem _ (List.mem_append_right _ (List.mem_append_left _ (AqC (f:=(·.p)) h)))
theorem Aan.h_ws {A:Aan} {i:Nat} {la:LnA} (h:A.las[i]?=some la):la.h∈A.ws:=List.mem_cons_of_mem _ (List.mem_append_right _ (List.mem_append_right _ (AqC (f:=(·.h)) h)))
theorem Aan.q_ws {A:Aan}:A.qa∈A.ws:=List.mem_cons_of_mem _ (List.mem_append_left _ (by simp [Aan.lists]))
theorem Aan.d_ws {A:Aan}:A.da∈A.ws:=List.mem_cons_of_mem _ (List.mem_append_left _ (by simp [Aan.lists]))
theorem Ak9:∀ {lns:List LnS} {las:List LnA} {i:Nat} {ln:LnS} {la:LnA},(lns.map (·.num)).Nodup→lns[i]?=some ln→las[i]?=some la→Ag9 ((lns.zip las).map fun x=>((Sum.inr x.1.num:Key),V.ref x.2.p)) (.inr ln.num)=some (.ref la.p)
 | [],_,_,_,_,_,h,_=>by simp at h
 | _,[],_,_,_,_,_,h=>by simp at h
 | a :: lns,b :: las,0,ln,la,nd,h,h'=>by
  have e1:a=ln:=by simpa using h
  have e2:b=la:=by simpa using h'
  subst e1 e2
  exact Aeb rfl
 | a :: lns,b :: las,i + 1,ln,la,nd,h,h'=>by
  have nd':=List.nodup_cons.mp nd
  have h1:lns[i]?=some ln:=by simpa using h
  have h2:las[i]?=some la:=by simpa using h'
  refine (AdB fun e=>?_).trans (Ak9 nd'.2 h1 h2)
  have e':a.num=ln.num:=Sum.inr.inj e
  exact nd'.1 (by show a.num∈_; rw [e']; exact List.mem_map.mpr ⟨ln,List.mem_of_getElem? h1,rfl⟩)
theorem Aaw.line {K:PySem.W.Frag} {a:Adr} {H:Hp} {A:Aan} {S:Aap} (t:Aaw K a H A S) {i:Nat} {ln:LnS} {la:LnA} (h2:S.lns[i]?=some ln) (h1:A.las[i]?=some la):Ag9 ((S.lns.zip A.las).map fun x=>((Sum.inr x.1.num:Key),V.ref x.2.p)) (.inr ln.num)=some (.ref la.p):=Ak9 t.num h2 h1
theorem Aaw.skv {K:PySem.W.Frag} {a:Adr} {H:Hp} {A:Aan} {S:Aap} (t:Aaw K a H A S):Ag9 (A.gks++[((Sum.inr (Str.ofString ""):Key),V.ref A.sk)]) (.inr (Str.ofString ""))=some (.ref A.sk):=by
 rw [Ajx _ _ _ _ t.gk,if_pos rfl]
def Aaq (ln:LnS) (st:Str):LnS:={ ln with st:=st,fig:="",pul:=0,far:=.non,why:=.non }
def AiZ (K:PySem.W.Frag) (a:Adr):Sp:=fun vs H Q _=>∃ (A:Aan) (S:Aap) (i:Nat) (la:LnA) (ln:LnS),vs=[.ref A.h,.str ln.num]∧Aaw K a H A S∧A.las[i]?=some la∧S.lns[i]?=some ln∧Q (.ref la.p) H
def AjI (K:PySem.W.Frag) (a:Adr):Sp:=fun vs H Q _=>∃ (A:Aan) (S:Aap),vs=[.ref A.h,.str ""]∧Aaw K a H A S∧Q (.ref A.sk) H
def Am6 (K:PySem.W.Frag) (a:Adr):Sp:=fun vs H Q _=>∃ (A:Aan) (S:Aap) (i:Nat) (la:LnA) (ln:LnS),vs=[.ref A.h,.ref la.p]∧Aaw K a H A S∧A.las[i]?=some la∧S.lns[i]?=some ln∧S.q.length < 1000 ∧
 ∀ H' t,Aaw K a H' A { S with lns:=S.lns.set i (Aaq ln "waits"),q:=S.q++[ln.num] }→Mv A A H H'→H t=none→H' t=some (.tup [.str "waits",.str ln.num])→Q (.ref t) H'
section
variable {P:Program} {w:World} {K:PySem.W.Frag} {mg:Str→Option Value} {base:Heap} {a:Adr}
theorem AhU:Aat ["self","number"] ["self","number"] (Aaa (Aab (top 27) 16)):=⟨rfl,rfl,rfl,by decide +kernel,rfl,by decide +kernel,by decide +kernel⟩
theorem Ady:Nm (Aaa (Aab (top 27) 16)) "self":=by walk_at "k"
theorem AbY:Nm (Aaa (Aab (top 27) 16)) "number":=by walk_at "k"
theorem Afe:Gm (Aaa (Aab (top 27) 16)) "NoLine":=by walk_at "k"
theorem Am7 {f:Addr} {fd:FuncData} (F:Fun K "line_of" "Hall.line_of" (Aab (top 27) 16) f fd) (T:TxtH P w K mg a):Aco P w K mg base (CXE P w) 1 f fd ["self","number"] (AiZ K a):=by
 refine F.okX AhU (fun vs H Q E h=>?_) (fun cdv A outer s H vs Q E hr h=>?_)
 ·obtain ⟨A,S,i,la,ln,rfl,_⟩:=h
  rfl
 ·obtain ⟨A',S,i,la,ln,rfl,t,h1,h2,q⟩:=h
  have hv:=t.line h2 h1
  refine ⟨_,(@Aae _ _ _ _ _ (AbC (AaB (AjC (P:=P) (w:=w) (K:=K)) (pvN 1 AbY) (Aau (pvN 0 Ady) rfl) (by with_unfolding_all rfl)) (Aag (Agm Aa0 Afe rfl T.x_NoLine T.g_NoLine (Aac (AdJ (Abv Aak (Abv (Agl (pvN 1 AbY)) Ahx))) Aaf))) AaF)
    (Aag (AaL (Agr (P:=P) (w:=w) (K:=K) (Aau (pvN 0 Ady) rfl) (pvN 1 AbY) (fun _ _=>rfl))))),?_⟩
  walk_at "st"
  refine ⟨A'.h,a.Hall,A'.dx,_,_,rfl,t.hall,T.hc.cls,T.hc.li,rfl,?_⟩
  refine ⟨A'.ld,_,.inr ln.num,rfl,rfl,.of t.ld,?_⟩
  rw [hv]
  walk_at "st"
  refine ⟨A'.h,a.Hall,A'.dx,_,_,rfl,t.hall,T.hc.cls,T.hc.li,rfl,?_⟩
  walk_at "st"
  exact ⟨A'.ld,_,.inr ln.num,_,rfl,rfl,.of t.ld,hv,q⟩
theorem Agd:Aat ["self","where"] ["self","where"] (Aaa (Aab (top 27) 17)):=⟨rfl,rfl,rfl,by decide +kernel,rfl,by decide +kernel,by decide +kernel⟩
theorem Acx:Nm (Aaa (Aab (top 27) 17)) "self":=by walk_at "k"
theorem Abz:Nm (Aaa (Aab (top 27) 17)) "where":=by walk_at "k"
theorem AdG:Gm (Aaa (Aab (top 27) 17)) "NoSwitch":=by walk_at "k"
theorem ApE {f:Addr} {fd:FuncData} (F:Fun K "switches_of" "Hall.switches_of" (Aab (top 27) 17) f fd) (T:TxtH P w K mg a):Aco P w K mg base (CXE P w) 1 f fd ["self","where"] (AjI K a):=by
 refine F.okX Agd (fun vs H Q E h=>?_) (fun cdv A outer s H vs Q E hr h=>?_)
 ·obtain ⟨A,S,rfl,_⟩:=h
  rfl
 ·obtain ⟨A',S,rfl,t,q⟩:=h
  have hv:=t.skv
  refine ⟨_,(@Aae _ _ _ _ _ (AbC (AaB (AjC (P:=P) (w:=w) (K:=K)) (pvN 1 Abz) (Aau (pvN 0 Acx) rfl) (by with_unfolding_all rfl)) (Aag (Agm Aa0 AdG rfl T.x_NoSwitch T.g_NoSwitch (Aac (AdJ (Abv Aak (Abv (Agl (pvN 1 Abz)) Ahx))) Aaf))) AaF)
    (Aag (AaL (Agr (P:=P) (w:=w) (K:=K) (Aau (pvN 0 Acx) rfl) (pvN 1 Abz) (fun _ _=>rfl))))),?_⟩
  walk_at "st"
  refine ⟨A'.h,a.Hall,A'.dx,_,_,rfl,t.hall,T.hc.cls,T.hc.sw,rfl,?_⟩
  refine ⟨A'.sd,_,.inr "",rfl,rfl,.of t.sd,?_⟩
  rw [hv]
  walk_at "st"
  refine ⟨A'.h,a.Hall,A'.dx,_,_,rfl,t.hall,T.hc.cls,T.hc.sw,rfl,?_⟩
  walk_at "st"
  exact ⟨A'.sd,_,.inr "",_,rfl,rfl,.of t.sd,hv,q⟩
theorem AjJ:Aat ["self","line"] ["self","line"] (Aaa (Aab (top 27) 13)):=⟨rfl,rfl,rfl,by decide +kernel,rfl,by decide +kernel,by decide +kernel⟩
theorem AgP:Nm (Aaa (Aab (top 27) 13)) "self":=by walk_at "k"
theorem Ac8:Nm (Aaa (Aab (top 27) 13)) "line":=by walk_at "k"
theorem ApF {f:Addr} {fd:FuncData} (F:Fun K "wait" "Hall.wait" (Aab (top 27) 13) f fd) (T:TxtH P w K mg a) (D_turn:AaJ P w K mg base CX0 1 a.Line "turn" ["self","state"] (Aiq a)):Aco P w K mg base CX0 2 f fd ["self","line"] (Am6 K a):=by
 refine F.ok AjJ (fun vs H Q E h=>?_) (fun cdv A outer s H vs Q E hr h=>?_)
 ·obtain ⟨A,S,i,la,ln,rfl,_⟩:=h
  rfl
 ·obtain ⟨A',S,i,la,ln,rfl,t,h1,h2,qz,q⟩:=h
  have cls_turn:=T.lc.cls
  have L:=t.ln i la ln h1 h2
  refine ⟨_,(@Aae _ _ _ _ _ (AaN (AcC D_turn cls_turn (pvN 1 Ac8) (hr.mono (by decide)) AbO (Aac Aak Aaf)))
    (Aae (AaN (Aer PySem.F.plainAttrs_list PySem.F.slot_list_append PySem.F.type_list_append AbF (Aau (pvN 0 AgP) rfl) (Aac (Aau (pvN 1 Ac8) rfl) Aaf)))
    (Aag (AaL (Adh (Aac Aak (Aac (Aau (pvN 1 Ac8) rfl) Aaf))))))),?_⟩
  walk_at "st"
  refine ⟨la.p,la.dx,_,rfl,L.ins,rfl,?_⟩
  walk_at "st"
  refine ⟨la.p,la.dx,ln.num,i,la.h,"waits",_,rfl,L.ins,.inr ⟨_,_,_,_,_,rfl⟩,?_⟩
  have t1:=t.setLine h1 h2 (ln':=Aaq ln "waits") rfl rfl
  have m1:Mv A' A' H (upd H la.p (.ins a.Line la.dx (Ac7 ln.num i la.h "waits" "" 0 .non .non))):=Mv.at (Aan.p_ws h1)
  have n1:∀ {b},(upd H la.p (.ins a.Line la.dx (Ac7 ln.num i la.h "waits" "" 0 .non .non))) b=none→H b=none:=fun {b} e=>by
   by_cases z:b=la.p
   ·rw [z,Aad] at e; cases e
   ·rw [Aah z] at e; exact e
  change Aaw K a (upd H la.p (.ins a.Line la.dx (Ac7 ln.num i la.h "waits" "" 0 .non .non))) A' _ at t1
  generalize upd H la.p (.ins a.Line la.dx (Ac7 ln.num i la.h "waits" "" 0 .non .non))=H1 at t1 m1 n1 ⊢
  have L1:=t1.ln i la (Aaq ln "waits") h1 (by show (S.lns.set i _)[i]?=_; rw [List.getElem?_set,if_pos rfl,if_pos (List.getElem?_eq_some_iff.mp h2).1])
  walk_at "st"
  refine ⟨A'.h,a.Hall,A'.dx,_,_,rfl,t1.hall,T.hc.cls,T.hc.qu,rfl,?_⟩
  refine ⟨.inl ⟨rfl,_,.of t1.q⟩,?_⟩
  walk_at "st"
  refine ⟨la.p,a.Line,la.dx,_,_,rfl,L1.ins,T.lc.cls,T.lc.nu,rfl,?_⟩
  walk_at "st"
  refine ⟨A'.qa,_,_,rfl,rfl,t1.q,(by rw [List.length_map,sizeLine_eq]; show S.q.length < _; omega),?_⟩
  rw [show S.q.map V.str++[V.str (Aaq ln "waits").num]=(S.q++[ln.num]).map V.str by rw [List.map_append]; rfl]
  have t2:=t1.setQ (q':=S.q++[ln.num])
  have m2:Mv A' A' H1 (upd H1 A'.qa (.lst ((S.q++[ln.num]).map V.str))):=Mv.at Aan.q_ws
  have n2:∀ {b},(upd H1 A'.qa (.lst ((S.q++[ln.num]).map V.str))) b=none→H1 b=none:=fun {b} e=>by
   by_cases z:b=A'.qa
   ·rw [z,Aad] at e; cases e
   ·rw [Aah z] at e; exact e
  generalize upd H1 A'.qa (.lst ((S.q++[ln.num]).map V.str))=H2 at t2 m2 n2 ⊢
  have L2:=t2.ln i la (Aaq ln "waits") h1 (by show (S.lns.set i _)[i]?=_; rw [List.getElem?_set,if_pos rfl,if_pos (List.getElem?_eq_some_iff.mp h2).1])
  walk_at "st"
  refine ⟨la.p,a.Line,la.dx,_,_,rfl,L2.ins,T.lc.cls,T.lc.nu,rfl,?_⟩
  walk_at "st"
  refine ⟨(by show 2≤sizeLine; decide),fun tt ntt=>?_⟩
  have s3:=(Aav.refl H2).upd (o:=.tup [.str "waits",.str ln.num]) ntt
  exact q _ tt (t2.same s3) (m1.trans (m2.trans (Mv.same s3))) (n1 (n2 ntt)) Aad
end
local macro_rules | `(tactic| walk_at "st")=>`(tactic| repeat (first
 | refine ⟨_,rfl,?_⟩
 | refine ⟨_,_,rfl,rfl,?_⟩
 | refine ⟨_,_,rfl,?_⟩
 | refine Or.inl ⟨_,_,rfl,rfl,?_⟩
 | refine Or.inl ⟨rfl,?_⟩
 | refine ⟨rfl,?_⟩
 | refine Or.inl ⟨_,_,_,_,rfl,rfl,.of (by assumption),rfl,?_⟩
 | (refine And.intro (show Aeq _ _ from ?_) ?_; (first | exact Or.inr ⟨by omega,by omega⟩ | exact Or.inl ⟨by omega,by omega⟩))
 | (refine And.intro (show Ae4 _ _ from ?_) ?_; exact ⟨by omega,by omega⟩)
 | (refine And.intro (show (0:Int) < _ from ?_) ?_; first | decide | omega)))
def Age (hs:List V):List (Str×Int)→List V
 | []=>hs
 | t :: ts=>Age (hs.set t.2.toNat .non) ts
def Aky (hs:List V):List (Str×Int)→Prop
 | []=>True
 | t :: ts=>t.1=""∧inR t.2 hs=true∧hs.getD t.2.toNat .non≠.non∧Aky (hs.set t.2.toNat .non) ts
theorem Air (x:Str×Int):∀ (ts:List (Str×Int)) (hs:List V),Age hs (ts++[x])=(Age hs ts).set x.2.toNat .non
 | [],_=>rfl
 | t :: ts,hs=>Air x ts _
theorem AjK:∀ (ts:List (Str×Int)) (hs:List V),(Age hs ts).length=hs.length
 | [],_=>rfl
 | t :: ts,hs=>by show (Age _ ts).length=_; rw [AjK ts,List.length_set]
theorem Aky.at:∀ {ts:List (Str×Int)} {hs:List V},Aky hs ts→∀ {j:Nat} {x:Str×Int},ts[j]?=some x→x.1=""∧inR x.2 (Age hs (ts.take j))=true∧(Age hs (ts.take j)).getD x.2.toNat .non≠.non
 | [],_,_,j,x,h=>by simp at h
 | t :: ts,hs,r,0,x,h=>by
  have e:t=x:=by simpa using h
  subst e
  exact ⟨r.1,r.2.1,r.2.2.1⟩
 | t :: ts,hs,r,j + 1,x,h=>Aky.at (hs:=hs.set t.2.toNat .non) r.2.2.2 (by simpa using h)
section
variable {K:PySem.W.Frag} {a:Adr} {H:Hp} {p C ra rb rc rs rw:Addr} {hs:List V} {js:List Bool} {ts:List Int} {places mark:Int} {st wt:List Int}
theorem Sek.setA (k:Sek K a H p C ra rb rc rs rw hs js ts places mark st wt) {hs':List V} (hl:hs'.length=hs.length):Sek K a (upd H ra (.lst hs')) p C ra rb rc rs rw hs' js ts places mark st wt:=by
 obtain ⟨dx,e⟩:=k.ins
 have ap:=k.ap
 simp only [List.nodup_cons,List.mem_cons,List.not_mem_nil,or_false,not_or,not_false_eq_true,List.nodup_nil,and_true] at ap
 obtain ⟨⟨a1,a2,a3,a4⟩,_⟩:=ap
 have o:∀ {b o},b≠ra→H b=some o→(upd H ra (.lst hs')) b=some o:=fun hb e=>by rw [Aah hb]; exact e
 exact ⟨⟨dx,o (AaI e k.ha (by intro z; cases z)) e⟩,k.cs,Aad,o (Ne.symm a1) k.hb,o (Ne.symm a2) k.hc,o (Ne.symm a3) k.hs_,o (Ne.symm a4) k.hw,k.ap,by rw [hl]; exact k.lj,by rw [hl]; exact k.lt,by rw [hl]; exact k.ls,by rw [hl]; exact k.lw,by rw [hl]; exact k.z⟩
theorem Sek.setB (k:Sek K a H p C ra rb rc rs rw hs js ts places mark st wt) {js':List Bool} (hl:js'.length=js.length):Sek K a (upd H rb (.lst (js'.map V.bl))) p C ra rb rc rs rw hs js' ts places mark st wt:=by
 obtain ⟨dx,e⟩:=k.ins
 have ap:=k.ap
 simp only [List.nodup_cons,List.mem_cons,List.not_mem_nil,or_false,not_or,not_false_eq_true,List.nodup_nil,and_true] at ap
 obtain ⟨⟨a1,_⟩,⟨b2,b3,b4⟩,_⟩:=ap
 have o:∀ {b o},b≠rb→H b=some o→(upd H rb (.lst (js'.map V.bl))) b=some o:=fun hb e=>by rw [Aah hb]; exact e
 exact ⟨⟨dx,o (AaI e k.hb (by intro z; cases z)) e⟩,k.cs,o a1 k.ha,Aad,o (Ne.symm b2) k.hc,o (Ne.symm b3) k.hs_,o (Ne.symm b4) k.hw,k.ap,by rw [hl]; exact k.lj,k.lt,k.ls,k.lw,k.z⟩
end
section
variable {K:PySem.W.Frag} {a:Adr} {H:Hp} {A:Aan} {S:Aap}
theorem Aaw.setHs (t:Aaw K a H A S) {hs':List V} (hl:hs'.length=S.hs.length):Aaw K a (upd H A.ra (.lst hs')) A { S with hs:=hs' } :=
 t.setSek (fun b o hb e=>by rw [Aah (fun z=>hb (by simp [z]))]; exact e) (t.sek.setA hl)
theorem Aaw.setJs (t:Aaw K a H A S) {js':List Bool} (hl:js'.length=S.js.length):Aaw K a (upd H A.rb (.lst (js'.map V.bl))) A { S with js:=js' } :=
 t.setSek (fun b o hb e=>by rw [Aah (fun z=>hb (by simp [z]))]; exact e) (t.sek.setB hl)
theorem Aan.ra_ws:A.ra∈A.ws:=List.mem_cons_of_mem _ (List.mem_append_left _ (by simp [Aan.lists]))
theorem Aan.rb_ws:A.rb∈A.ws:=List.mem_cons_of_mem _ (List.mem_append_left _ (by simp [Aan.lists]))
theorem Aai {b c:Addr} {o:HO} (h:(upd H b o) c=none):H c=none:=by
 by_cases z:c=b
 ·rw [z,Aad] at h; cases h
 ·rw [Aah z] at h; exact h
def Aan.newH (A:Aan) (i:Nat) (la:LnA) (l:Addr):Aan:={ A with las:=A.las.set i { la with h:=l,ts:=[] } }
theorem Mv.newH {i:Nat} {la:LnA} {l:Addr} {o:HO} (h1:A.las[i]?=some la) (nl:H l=none):Mv A (A.newH i la l) H (upd (upd H l (.lst [])) la.p o):=by
 refine ⟨fun b u hb e=>?_,fun b m=>?_,fun b e=>Aai (Aai e)⟩
 ·rw [Aah (fun z=>hb (by rw [z]; exact Aan.p_ws h1)),Aah (Aaj e nl)]; exact e
 ·have em:(A.las.set i { la with h:=l,ts:=[] }).map (·.p)=A.las.map (·.p):=Aax h1 rfl
  rcases List.mem_cons.mp m with m | m
  ·exact .inl (by rw [m]; exact List.mem_cons_self)
  ·rcases List.mem_append.mp m with m | m
   ·exact .inl (List.mem_cons_of_mem _ (List.mem_append_left _ m))
   ·rcases List.mem_append.mp m with m | m
    ·have m:b∈(A.las.set i { la with h:=l,ts:=[] }).map (·.p):=m
     rw [em] at m
     exact .inl (List.mem_cons_of_mem _ (List.mem_append_right _ (List.mem_append_left _ m)))
    ·have m:b∈(A.las.set i { la with h:=l,ts:=[] }).map (·.h):=m
     rw [List.map_set] at m
     rcases List.mem_or_eq_of_mem_set m with m | m
     ·exact .inl (List.mem_cons_of_mem _ (List.mem_append_right _ (List.mem_append_right _ m)))
     ·exact .inr (by rw [m]; exact nl)
end
def AhV (K:PySem.W.Frag) (a:Adr):Sp:=fun vs H Q _=>∃ (A:Aan) (S:Aap) (i:Nat) (la:LnA) (ln:LnS),vs=[.ref A.h,.ref la.p]∧Aaw K a H A S∧A.las[i]?=some la∧S.lns[i]?=some ln∧Aky S.hs ln.held ∧
 ∀ H' l,Aaw K a H' (A.newH i la l) { S with lns:=S.lns.set i { ln with held:=[] },hs:=Age S.hs ln.held }→Mv A (A.newH i la l) H H'→(∀ b,H' b=none→H b=none)→Q .non H'
section
variable {P:Program} {w:World} {K:PySem.W.Frag} {mg:Str→Option Value} {base:Heap} {a:Adr}
theorem Afu:Aat ["self","line","where","k"] ["self","line"] (Aaa (Aab (top 27) 14)):=⟨rfl,rfl,rfl,by decide +kernel,rfl,by decide +kernel,by decide +kernel⟩
theorem AfP:Nm (Aaa (Aab (top 27) 14)) "self":=by walk_at "k"
theorem Adz:Nm (Aaa (Aab (top 27) 14)) "line":=by walk_at "k"
theorem Adl:Nm (Aaa (Aab (top 27) 14)) "where":=by walk_at "k"
theorem Aex:Nm (Aaa (Aab (top 27) 14)) "k":=by walk_at "k"
theorem AlJ {f:Addr} {fd:FuncData} (F:Fun K "release" "Hall.release" (Aab (top 27) 14) f fd) (T:TxtH P w K mg a) (D_free:AaJ P w K mg base (CXE P w) 3 a.Seekers "free" ["self","k"] (Am1 K a)):Aco P w K mg base (CXE P w) 4 f fd ["self","line"] (AhV K a):=by
 refine F.okX Afu (fun vs H Q E h=>?_) (fun cdv A outer s H vs Q E hr h=>?_)
 ·obtain ⟨A,S,i,la,ln,rfl,_⟩:=h
  rfl
 ·obtain ⟨A',S,i,la,ln,rfl,t,h1,h2,ro,q⟩:=h
  have cls_free:=T.sc.c.cls
  have nd:=Afu.nd
  have L:=t.ln i la ln h1 h2
  refine ⟨_,(@Aae _ _ _ _ _ (Ae3 PassesOwn.leaving rfl (Aeh (Aau (pvN 1 Adz) rfl)) (Ajb rfl (AbD (AcB 2 nd Adl) (AbD (AcB 3 nd Aex) Afk))) (Aag (AaN (AcC D_free cls_free (Agr (P:=P) (w:=w) (K:=K) (Aau (pvN 0 AfP) rfl) (pvN 2 Adl) (fun _ _=>rfl)) (hr.mono (by decide)) Abu (Aac (pvN 3 Aex) Aaf)))))
    (Aag (AbB (pvN 1 Adz) (Aa6 Aaf) rfl))),?_⟩
  walk_at "st"
  refine ⟨la.p,a.Line,la.dx,_,_,rfl,L.ins,T.lc.cls,T.lc.he,rfl,?_⟩
  refine ⟨la.h,rfl,⟨_,.of L.held⟩,AeL (K:=K) (a:=la.h) (xs:=la.ts.map prV) (fun j σ H2=>∃ x y,σ=[some (.ref A'.h),some (.ref la.p),x,y]∧Aaw K a H2 A' { S with hs:=Age S.hs (ln.held.take j) }∧Mv A' A' H H2∧∀ b,H2 b=none→H b=none) ⟨none,none,rfl,t,Mv.same (Aav.refl H),fun b e=>e⟩ (fun j σ H2 _ ⟨_,_,_,t2,_⟩=>.of (t2.ln i la ln h1 h2).held) ?_ ?_⟩
  ·rintro j x σ H2 hj ⟨x0,y0,rfl,t2,m2,n2⟩
   rw [List.getElem?_map] at hj
   cases hk:la.ts[j]? with
   | none=>rw [hk] at hj; cases hj
   | some tp =>
    rw [hk] at hj; cases hj
    have hk':ln.held[j]?=some tp.2:=by rw [← L.eh,List.getElem?_map,hk]; rfl
    obtain ⟨w1,w2,w3⟩:=ro.at hk'
    have L2:=t2.ln i la ln h1 h2
    have lt:=L2.lay tp (List.mem_of_getElem? hk)
    obtain ⟨sdx,se⟩:=t2.sek.ins
    have F3:=Ag2 A'.ra A'.rb A'.rc S.places A'.rs A'.rw S.mark
    walk_at "st"
    refine ⟨tp.1,_,rfl,.of lt,rfl,?_⟩
    walk_at "st"
    refine ⟨A'.h,a.Hall,A'.dx,_,_,rfl,t2.hall,T.hc.cls,T.hc.sw,rfl,?_⟩
    walk_at "st"
    refine ⟨A'.sd,_,.inr "",_,rfl,(by rw [w1]; rfl),.of t2.sd,t2.skv,?_⟩
    walk_at "st"
    refine ⟨A'.sk,sdx,_,rfl,se,F3.m _ (by decide),?_⟩
    walk_at "st"
    refine ⟨A'.sk,tp.2.2,a.Seekers,A'.ra,A'.rb,A'.rc,_,_,_,rfl,t2.sek.r,?_⟩
    rw [if_pos ⟨w2,w3⟩]
    walk_at "st"
    refine ⟨?_,m2.trans (Mv.at Aan.ra_ws),fun b e=>n2 b (Aai e)⟩
    have et:ln.held.take (j + 1)=ln.held.take j++[tp.2]:=by rw [List.take_add_one,hk']; rfl
    rw [et,Air]
    exact t2.setHs (by rw [List.length_set])
  ·rintro σ H2 ⟨x0,y0,rfl,t2,m2,n2⟩
   have el:(la.ts.map prV).length=ln.held.length:=by rw [← L.eh,List.length_map,List.length_map]
   rw [el,List.take_length] at t2
   have L2:=t2.ln i la ln h1 h2
   walk_at "st"
   refine ⟨(by show 0≤sizeLine; decide),fun l nl=>?_⟩
   walk_at "st"
   refine ⟨la.p,a.Line,la.dx,_,rfl,(by rw [Aah (Aaj L2.ins nl)]; exact L2.ins),T.lc.cls,T.lc.he,(Nat.le_of_ble_eq_true rfl),?_⟩
   exact q _ l (t2.newHeld h1 h2 nl) (m2.trans (Mv.newH h1 nl)) fun b e=>n2 b (Aai (Aai e))
end
local macro_rules | `(tactic| walk_at "st")=>`(tactic| repeat (first
 | refine ⟨_,rfl,?_⟩
 | refine ⟨_,_,rfl,rfl,?_⟩
 | refine ⟨_,_,rfl,?_⟩
 | refine Or.inl ⟨_,_,rfl,rfl,?_⟩
 | refine Or.inl ⟨rfl,?_⟩
 | refine ⟨rfl,?_⟩
 | refine Or.inl ⟨_,_,_,_,rfl,rfl,.of (by assumption),rfl,?_⟩
 | (refine And.intro (show Aeq _ _ from ?_) ?_; (first | exact Or.inr ⟨by omega,by omega⟩ | exact Or.inl ⟨by omega,by omega⟩))
 | (refine And.intro (show Ae4 _ _ from ?_) ?_; exact ⟨by omega,by omega⟩)
 | (refine And.intro (show (0:Int) < _ from ?_) ?_; first | decide | omega)))
def Agf:Sp:=fun _ _ _ _=>False
def Am8 (K:PySem.W.Frag) (a:Adr):Sp:=fun vs H Q _=>∃ (A:Aan) (S:Aap) (i:Nat) (la:LnA) (ln:LnS),vs=[.ref A.h,.ref la.p]∧Aaw K a H A S∧A.las[i]?=some la∧S.lns[i]?=some ln∧Aky S.hs ln.held∧ln.far=.non∧(ln.st="waits"→ln.num∈S.q) ∧
 ∀ H' l r t,Aaw K a H' (A.newH i la l) { S with lns:=S.lns.set i { Aaq ln "rests" with held:=[] },hs:=Age S.hs ln.held,q:=if ln.st="waits" then S.q.erase ln.num else S.q }→Mv A (A.newH i la l) H H'→H r=none→r ∉ (A.newH i la l).ws→H' r=some (.lst [.ref t])→H' t=some (.tup [.str "rests",.str ln.num])→Q (.ref r) H'
def Am9 (K:PySem.W.Frag) (a:Adr):Sp:=fun vs H Q _=>∃ (A:Aan) (S:Aap) (i:Nat) (la:LnA) (ln:LnS),vs=[.ref A.h,.ref la.p]∧Aaw K a H A S∧A.las[i]?=some la∧S.lns[i]?=some ln∧S.q.length < 1000∧ln.st="rests" ∧
 ∀ H' r t,Aaw K a H' A { S with lns:=S.lns.set i (Aaq ln "waits"),q:=S.q++[ln.num] }→Mv A A H H'→H r=none→H' r=some (.lst [.ref t])→H' t=some (.tup [.str "waits",.str ln.num])→Q (.ref r) H'
theorem Mv.keep {A A':Aan} {H H':Hp} (m:Mv A A' H H') {b:Addr} {o:HO} (hb:b ∉ A.ws) (e:H b=some o):H' b=some o:=m.fr b o hb e
section
variable {K:PySem.W.Frag} {a:Adr} {H:Hp} {A:Aan} {S:Aap}
theorem Aaw.fresh (t:Aaw K a H A S) {b:Addr} (nb:H b=none):b ∉ A.ws:=fun m=>by
 have sk:=t.sek
 obtain ⟨sdx,se⟩:=t.sek.ins
 rcases List.mem_cons.mp m with z | m
 ·rw [z,se] at nb; cases nb
 ·rcases List.mem_append.mp m with m | m
  ·simp only [Aan.lists,List.mem_cons,List.not_mem_nil,or_false] at m
   rcases m with z | z | z | z | z | z | z
   ·rw [z,t.q] at nb; cases nb
   ·rw [z,t.dn] at nb; cases nb
   ·rw [z,sk.ha] at nb; cases nb
   ·rw [z,sk.hb] at nb; cases nb
   ·rw [z,sk.hc] at nb; cases nb
   ·rw [z,sk.hs_] at nb; cases nb
   ·rw [z,sk.hw] at nb; cases nb
  ·have go:∀ {lb:LnA},lb∈A.las→∃ ln j,Ag3 a H j lb ln:=fun {lb} mb=>by
    obtain ⟨j,hj,ej⟩:=List.getElem_of_mem mb
    exact ⟨S.lns[j]'(by rw [← t.len]; exact hj),j,t.ln j lb _ (by rw [List.getElem?_eq_getElem hj,ej]) (List.getElem?_eq_getElem _)⟩
   rcases List.mem_append.mp m with m | m
   ·obtain ⟨lb,mb,eb⟩:=List.mem_map.mp m
    obtain ⟨ln,j,M⟩:=go mb
    rw [← eb,M.ins] at nb; cases nb
   ·obtain ⟨lb,mb,eb⟩:=List.mem_map.mp m
    obtain ⟨ln,j,M⟩:=go mb
    rw [← eb,M.held] at nb; cases nb
end
section
variable {P:Program} {w:World} {K:PySem.W.Frag} {mg:Str→Option Value} {base:Heap} {a:Adr}
theorem Ag4:Aat ["self","line","caller"] ["self","line"] (Aaa (Aab (top 27) 4)):=⟨rfl,rfl,rfl,by decide +kernel,rfl,by decide +kernel,by decide +kernel⟩
theorem Aey:Nm (Aaa (Aab (top 27) 4)) "self":=by walk_at "k"
theorem AbJ:Nm (Aaa (Aab (top 27) 4)) "line":=by walk_at "k"
theorem Act:Nm (Aaa (Aab (top 27) 4)) "caller":=by walk_at "k"
theorem ok_lift {f:Addr} {fd:FuncData} (F:Fun K "lift" "Hall.lift" (Aab (top 27) 4) f fd) (T:TxtH P w K mg a) (D_wait:AaJ P w K mg base CX0 2 a.Hall "wait" ["self","line"] (Am6 K a)):Aco P w K mg base CX0 3 f fd ["self","line"] (Am9 K a):=by
 refine F.ok Ag4 (fun vs H Q E h=>?_) (fun cdv A outer s H vs Q E hr h=>?_)
 ·obtain ⟨A,S,i,la,ln,rfl,_⟩:=h
  rfl
 ·obtain ⟨A',S,i,la,ln,rfl,t,h1,h2,qz,hst,q⟩:=h
  have cls_wait:=T.hc.cls
  have hu:=hr.units
  have nd:=Ag4.nd
  have L:=t.ln i la ln h1 h2
  refine ⟨_,(@Aae _ _ _ _ _ (AbC (AaB (Aea hu) (Aau (pvN 1 AbJ) rfl) Aak (AaY _)) (Aag (AaL (Aa6 (Aac (AcC D_wait cls_wait (pvN 0 Aey) (hr.mono (by decide)) AbO (Aac (pvN 1 AbJ) Aaf)) Aaf)))) AaF)
    (Aae (Abb 2 nd Act (Agr (P:=P) (w:=w) (K:=K) (Aau (pvN 0 Aey) rfl) (Aau (pvN 1 AbJ) rfl) (fun _ _=>rfl)))
    (Aae (AbB (pvN 2 Act) Aak rfl)
    (Aae (AbB (pvN 1 AbJ) Aak rfl)
    (Aag (AaL (Aa6 (Aac (Adh (Aac Aak (Aac (Aau (pvN 2 Act) rfl) (Aac (Aau (pvN 1 AbJ) rfl) Aaf)))) Aaf)))))))),?_⟩
  walk_at "st"
  refine ⟨la.p,a.Line,la.dx,_,_,rfl,L.ins,T.lc.cls,T.lc.st,rfl,?_⟩
  walk_at "st"
  rw [decide_eq_true (congrArg V.str hst)]
  refine AgI ?_
  walk_at "st"
  refine ⟨A'.h,A'.dx,_,rfl,t.hall,rfl,?_⟩
  walk_at "st"
  refine ⟨A',S,i,la,ln,rfl,t,h1,h2,qz,fun H1 t1 T1 m1 n1 e1=>?_⟩
  walk_at "st"
  refine ⟨(by show 1≤sizeLine; decide),fun r nr=>?_⟩
  have s2:=(Aav.refl H1).upd (o:=.lst [.ref t1]) nr
  have nrH:H r=none:=by
   cases e:H r with
   | none=>rfl
   | some o=>rw [m1.keep (T1.fresh nr) e] at nr; cases nr
  exact q _ r t1 (T1.same s2) (m1.trans (Mv.same s2)) nrH Aad (s2 _ _ e1)
theorem Ag5:Aat ["self","line","told"] ["self","line"] (Aaa (Aab (top 27) 11)):=⟨rfl,rfl,rfl,by decide +kernel,rfl,by decide +kernel,by decide +kernel⟩
theorem Acg:Nm (Aaa (Aab (top 27) 11)) "self":=by walk_at "k"
theorem AaX:Nm (Aaa (Aab (top 27) 11)) "line":=by walk_at "k"
theorem Ac9:Nm (Aaa (Aab (top 27) 11)) "told":=by walk_at "k"
theorem ok_hang {f:Addr} {fd:FuncData} (F:Fun K "hang" "Hall.hang" (Aab (top 27) 11) f fd) (T:TxtH P w K mg a) (D_turn:AaJ P w K mg base CX0 1 a.Line "turn" ["self","state"] (Aiq a)) (D_release:AaJ P w K mg base (CXE P w) 4 a.Hall "release" ["self","line"] (AhV K a)) (D_left_alone:AaJ P w K mg base (CXE P w) 4 a.Hall "left_alone" ["self","other"] Agf):Aco P w K mg base (CXE P w) 5 f fd ["self","line"] (Am8 K a):=by
 refine F.okX Ag5 (fun vs H Q E h=>?_) (fun cdv A outer s H vs Q E hr h=>?_)
 ·obtain ⟨A,S,i,la,ln,rfl,_⟩:=h
  rfl
 ·obtain ⟨A',S,i,la,ln,rfl,t,h1,h2,ro,hfar,hw,q⟩:=h
  have cls_release:=T.hc.cls
  have cls_left_alone:=T.hc.cls
  have cls_turn:=T.lc.cls
  have hu:=hr.units
  have nd:=Ag5.nd
  have L:=t.ln i la ln h1 h2
  refine ⟨_,(@Aae _ _ _ _ _ (Abb 2 nd Ac9 (Aa6 (Aac (Adh (Aac Aak (Aac (Aau (pvN 1 AaX) rfl) Aaf))) Aaf)))
    (Aae (AbC (AaB (Aea hu) (Aau (pvN 1 AaX) rfl) Aak (AaY _)) (Aag (AaN (Aer PySem.F.plainAttrs_list PySem.F.slot_list_remove PySem.F.type_list_remove Ajv (Aau (pvN 0 Acg) rfl) (Aac (Aau (pvN 1 AaX) rfl) Aaf)))) AaF)
    (Aae (AbC (AaB Al0 (Aau (pvN 1 AaX) rfl) AcQ (AaY _)) (Aag (AaN (Aer PySem.F.plainAttrs_list PySem.F.slot_list_append PySem.F.type_list_append AbF (pvN 2 Ac9) (Aac (AcC D_left_alone cls_left_alone (pvN 0 Acg) (hr.mono (by decide)) Abu (Aac (Agr (P:=P) (w:=w) (K:=K) (Aau (pvN 0 Acg) rfl) (Aau (pvN 1 AaX) rfl) (fun _ _=>rfl)) Aaf)) Aaf)))) AaF)
    (Aae (AaN (AcC D_release cls_release (pvN 0 Acg) (hr.mono (by decide)) Abu (Aac (pvN 1 AaX) Aaf)))
    (Aae (AaN (AcC D_turn cls_turn (pvN 1 AaX) (hr.mono (by decide)) AbO (Aac Aak Aaf)))
    (Aag (AaL (pvN 2 Ac9)))))))),?_⟩
  walk_at "st"
  refine ⟨la.p,a.Line,la.dx,_,_,rfl,L.ins,T.lc.cls,T.lc.nu,rfl,?_⟩
  walk_at "st"
  refine ⟨(by show 2≤sizeLine; decide),fun tt ntt=>?_⟩
  walk_at "st"
  refine ⟨(by show 1≤sizeLine; decide),fun r nr=>?_⟩
  have ntr:tt≠r:=fun z=>by rw [← z,Aad] at nr; cases nr
  have nrH:H r=none:=Aai nr
  have s1:Aav H (upd (upd H tt (.tup [.str "rests",.str ln.num])) r (.lst [.ref tt])):=((Aav.refl H).upd ntt).upd nr
  have et:(upd (upd H tt (.tup [.str "rests",.str ln.num])) r (.lst [.ref tt])) tt=some (.tup [.str "rests",.str ln.num]):=by rw [Aah ntr,Aad]
  have er:(upd (upd H tt (.tup [.str "rests",.str ln.num])) r (.lst [.ref tt])) r=some (.lst [.ref tt]):=Aad
  generalize upd (upd H tt (.tup [.str "rests",.str ln.num])) r (.lst [.ref tt])=H1 at s1 et er ⊢
  have t1:=t.same s1
  have ft:=t.fresh ntt
  have fr:=t.fresh nrH
  have L1:=t1.ln i la ln h1 h2
  walk_at "st"
  refine ⟨la.p,a.Line,la.dx,_,_,rfl,L1.ins,T.lc.cls,T.lc.st,rfl,?_⟩
  walk_at "st"
  have rest:∀ (H2:Hp) (q':List Str),Aaw K a H2 A' { S with q:=q' }→Mv A' A' H H2→H2 tt=some (.tup [.str "rests",.str ln.num])→H2 r=some (.lst [.ref tt])→q'=(if ln.st="waits" then S.q.erase ln.num else S.q)→∀ (H3:Hp) (l:Addr),Aaw K a H3 (A'.newH i la l) { S with q:=q',lns:=S.lns.set i { ln with held:=[] },hs:=Age S.hs ln.held }→Mv A' (A'.newH i la l) H2 H3→Q (.ref r) (upd H3 la.p (.ins a.Line la.dx (Ac7 ln.num i l "rests" "" 0 .non .non))):=fun H2 q' t2 m2 e2 r2 eq H3 l t3 m3=>by
   have hi:i < A'.las.length:=(List.getElem?_eq_some_iff.mp h1).1
   have h1':(A'.newH i la l).las[i]?=some { la with h:=l,ts:=[] }:=by show (A'.las.set i _)[i]?=_; rw [List.getElem?_set,if_pos rfl,if_pos hi]
   have h2':(S.lns.set i { ln with held:=[] })[i]?=some { ln with held:=[] }:=by rw [List.getElem?_set,if_pos rfl,if_pos (List.getElem?_eq_some_iff.mp h2).1]
   have t4:=t3.setLine h1' h2' (ln':={ Aaq ln "rests" with held:=[] }) rfl rfl
   rw [List.set_set] at t4
   have mp:la.p∈(A'.newH i la l).ws:=Aan.p_ws (la:={ la with h:=l,ts:=[] }) h1'
   have m4:Mv (A'.newH i la l) (A'.newH i la l) H3 (upd H3 la.p (.ins a.Line la.dx (Ac7 ln.num i l "rests" "" 0 .non .non))):=Mv.at mp
   have nA:∀ {b},b ∉ A'.ws→H2 b≠none→b ∉ (A'.newH i la l).ws:=fun {b} n ne m=>(m3.sub b m).elim n ne
   have n1:tt ∉ (A'.newH i la l).ws:=nA ft (by rw [e2]; simp)
   have n2:r ∉ (A'.newH i la l).ws:=nA fr (by rw [r2]; simp)
   subst eq
   exact q _ l r tt t4 (m2.trans (m3.trans m4)) nrH n2 (m4.keep n2 (m3.keep fr r2)) (m4.keep n1 (m3.keep ft e2))
  by_cases hst:ln.st="waits"
  ·rw [decide_eq_true (congrArg V.str hst)]
   refine AgI ?_
   walk_at "st"
   refine ⟨A'.h,a.Hall,A'.dx,_,_,rfl,t1.hall,T.hc.cls,T.hc.qu,rfl,?_⟩
   refine ⟨.inl ⟨rfl,_,.of t1.q⟩,?_⟩
   walk_at "st"
   refine ⟨la.p,a.Line,la.dx,_,_,rfl,L1.ins,T.lc.cls,T.lc.nu,rfl,?_⟩
   walk_at "st"
   refine Or.inr ⟨A'.qa,S.q,ln.num,rfl,rfl,t1.q,hw hst,?_⟩
   have t2:=t1.setQ (q':=S.q.erase ln.num)
   have m2:Mv A' A' H1 (upd H1 A'.qa (.lst ((S.q.erase ln.num).map V.str))):=Mv.at Aan.q_ws
   generalize upd H1 A'.qa (.lst ((S.q.erase ln.num).map V.str))=H2 at t2 m2 ⊢
   have L2:=t2.ln i la ln h1 h2
   walk_at "st"
   refine ⟨la.p,a.Line,la.dx,_,_,rfl,L2.ins,T.lc.cls,T.lc.fa,rfl,?_⟩
   walk_at "st"
   rw [decide_eq_true hfar]
   walk_at "st"
   refine ⟨A'.h,A'.dx,_,rfl,t2.hall,rfl,?_⟩
   walk_at "st"
   refine ⟨A',_,i,la,ln,rfl,t2,h1,h2,ro,fun H3 l t3 m3 n3=>?_⟩
   have hi:i < A'.las.length:=(List.getElem?_eq_some_iff.mp h1).1
   have h1':(A'.newH i la l).las[i]?=some { la with h:=l,ts:=[] }:=by show (A'.las.set i _)[i]?=_; rw [List.getElem?_set,if_pos rfl,if_pos hi]
   have L3:=t3.ln i _ { ln with held:=[] } h1' (by show (S.lns.set i _)[i]?=_; rw [List.getElem?_set,if_pos rfl,if_pos (List.getElem?_eq_some_iff.mp h2).1])
   walk_at "st"
   refine ⟨la.p,la.dx,_,rfl,L3.ins,rfl,?_⟩
   walk_at "st"
   refine ⟨la.p,la.dx,ln.num,i,l,"rests",_,rfl,L3.ins,.inr ⟨_,_,_,_,_,rfl⟩,?_⟩
   walk_at "st"
   exact rest H2 _ t2 ((Mv.same s1).trans m2) (m2.keep ft et) (m2.keep fr er) (by rw [if_pos hst]) H3 l t3 m3
  ·rw [decide_eq_false (fun e=>hst (V.str.inj e))]
   refine AgH ?_
   walk_at "st"
   refine ⟨la.p,a.Line,la.dx,_,_,rfl,L1.ins,T.lc.cls,T.lc.fa,rfl,?_⟩
   walk_at "st"
   rw [decide_eq_true hfar]
   walk_at "st"
   refine ⟨A'.h,A'.dx,_,rfl,t1.hall,rfl,?_⟩
   walk_at "st"
   refine ⟨A',S,i,la,ln,rfl,t1,h1,h2,ro,fun H3 l t3 m3 n3=>?_⟩
   have hi:i < A'.las.length:=(List.getElem?_eq_some_iff.mp h1).1
   have h1':(A'.newH i la l).las[i]?=some { la with h:=l,ts:=[] }:=by show (A'.las.set i _)[i]?=_; rw [List.getElem?_set,if_pos rfl,if_pos hi]
   have L3:=t3.ln i _ { ln with held:=[] } h1' (by show (S.lns.set i _)[i]?=_; rw [List.getElem?_set,if_pos rfl,if_pos (List.getElem?_eq_some_iff.mp h2).1])
   walk_at "st"
   refine ⟨la.p,la.dx,_,rfl,L3.ins,rfl,?_⟩
   walk_at "st"
   refine ⟨la.p,la.dx,ln.num,i,l,"rests",_,rfl,L3.ins,.inr ⟨_,_,_,_,_,rfl⟩,?_⟩
   walk_at "st"
   exact rest H1 S.q t1 (Mv.same s1) et er (by rw [if_neg hst]) H3 l t3 m3
end
local macro_rules | `(tactic| walk_at "st")=>`(tactic| repeat (first
 | refine ⟨_,rfl,?_⟩
 | refine ⟨_,_,rfl,rfl,?_⟩
 | refine ⟨_,_,rfl,?_⟩
 | refine Or.inl ⟨_,_,rfl,rfl,?_⟩
 | refine Or.inl ⟨rfl,?_⟩
 | refine ⟨rfl,?_⟩
 | refine Or.inl ⟨_,_,_,_,rfl,rfl,.of (by assumption),rfl,?_⟩
 | (refine And.intro (show Aeq _ _ from ?_) ?_; (first | exact Or.inr ⟨by omega,by omega⟩ | exact Or.inl ⟨by omega,by omega⟩))
 | (refine And.intro (show Ae4 _ _ from ?_) ?_; exact ⟨by omega,by omega⟩)
 | (refine And.intro (show (0:Int) < _ from ?_) ?_; first | decide | omega)))
def Aez (lns:List LnS) (z:Str):Nat:=(lns.map (·.num)).idxOf z
theorem Ana {lns:List LnS} {z:Str} (h:z∈lns.map (·.num)):∃ ln,lns[Aez lns z]?=some ln∧ln.num=z:=by
 have e:=Amn h
 rw [List.getElem?_map] at e
 obtain ⟨ln,e1,e2⟩:=Option.map_eq_some_iff.mp e
 exact ⟨ln,e1,e2⟩
def AeA (S:Aap):Option ((Str×Int×Int)×Aap):=match S.q with
 | []=>none
 | z :: r=>match AfM S.hs S.js S.mark with
  | none=>none
  | some k=>match S.lns[Aez S.lns z]? with
   | none=>none
   | some ln=>some ((z,k,((Aez S.lns z:Int) - S.st.getD k.toNat 0) % S.places),{ S with q:=r,lns:=S.lns.set (Aez S.lns z) { Aaq ln "dials" with held:=ln.held++[((Str.ofString ""),k)] },hs:=S.hs.set k.toNat (.int (Aez S.lns z)),ts:=S.ts.set k.toNat (S.ts.getD k.toNat 0 + 1),mark:=(k + 1) % S.hs.length,st:=S.st.set k.toNat (Aez S.lns z),wt:=S.wt.set k.toNat (S.wt.getD k.toNat 0 + ((Aez S.lns z:Int) - S.st.getD k.toNat 0) % S.places) })
def tonesF:Nat→Aap→List (Str×Int×Int)×Aap
 | 0,S=>([],S)
 | n + 1,S=>match AeA S with
  | none=>([],S)
  | some (t,S')=>(t :: (tonesF n S').1,(tonesF n S').2)
def AbK (S:Aap):List (Str×Int×Int)×Aap:=tonesF S.q.length S
structure QOk (S:Aap):Prop where
 nd:S.q.Nodup
 ln:∀ z∈S.q,∃ ln∈S.lns,ln.num=z∧ln.held=[]
 num:(S.lns.map (·.num)).Nodup
 m0:0≤S.mark
 m1:S.mark≤S.hs.length
 pl:0 < S.places
 few:S.q.length≤100
theorem QOk.idx {S:Aap} (h:QOk S) {z:Str} (m:z∈S.q):∃ ln,S.lns[Aez S.lns z]?=some ln∧ln.num=z∧ln.held=[]:=by
 obtain ⟨lm,m1,m2,m3⟩:=h.ln z m
 obtain ⟨ln,e1,e2⟩:=Ana (lns:=S.lns) (List.mem_map.mpr ⟨lm,m1,m2⟩)
 refine ⟨ln,e1,e2,?_⟩
 obtain ⟨j,hj,ej⟩:=List.getElem_of_mem m1
 have hj':S.lns[j]?=some lm:=by rw [List.getElem?_eq_getElem hj,ej]
 by_cases d:Aez S.lns z=j
 ·rw [d,hj'] at e1; cases e1; exact m3
 ·exact absurd (by rw [e2,m2]) (Akx h.num (i:=Aez S.lns z) (j:=j) (x:=ln.num) (y:=lm.num) (by rw [List.getElem?_map,e1]; rfl) (by rw [List.getElem?_map,hj']; rfl) d)
def Tns (H:Hp):List Addr→List (Str×Int×Int)→Prop
 | [],[]=>True
 | x :: xs,t :: ts=>H x=some (.tup [.str "tone",.str t.1,.int t.2.1,.int t.2.2])∧Tns H xs ts
 | _,_=>False
theorem Tns.imp {H H':Hp} (f:∀ b ys,H b=some (.tup ys)→H' b=some (.tup ys)):∀ {xs:List Addr} {ts:List (Str×Int×Int)},Tns H xs ts→Tns H' xs ts
 | [],[],_=>trivial
 | [],_ :: _,h=>h
 | _ :: _,[],h=>h
 | x :: xs,t :: ts,h=>⟨f _ _ h.1,Tns.imp f h.2⟩
theorem Tns.snoc {H:Hp} {x:Addr} {t:Str×Int×Int} (hx:H x=some (.tup [.str "tone",.str t.1,.int t.2.1,.int t.2.2])):∀ {xs:List Addr} {ts:List (Str×Int×Int)},Tns H xs ts→Tns H (xs++[x]) (ts++[t])
 | [],[],_=>⟨hx,trivial⟩
 | [],_ :: _,h=>h.elim
 | _ :: _,[],h=>h.elim
 | y :: xs,u :: ts,h=>⟨h.1,Tns.snoc hx h.2⟩
theorem Tns.len {H:Hp}:∀ {xs:List Addr} {ts:List (Str×Int×Int)},Tns H xs ts→xs.length=ts.length
 | [],[],_=>rfl
 | [],_ :: _,h=>h.elim
 | _ :: _,[],h=>h.elim
 | _ :: xs,_ :: ts,h=>by rw [List.length_cons,List.length_cons,Tns.len h.2]
section
variable {K:PySem.W.Frag} {a:Adr} {H H':Hp} {A A':Aan} {S:Aap}
theorem Aaw.tup (t:Aaw K a H A S) {b:Addr} {ys:List V} (e:H b=some (.tup ys)):b ∉ A.ws:=fun m=>by
 have sk:=t.sek
 obtain ⟨sdx,se⟩:=t.sek.ins
 rcases List.mem_cons.mp m with z | m
 ·rw [z,se] at e; cases e
 ·rcases List.mem_append.mp m with m | m
  ·simp only [Aan.lists,List.mem_cons,List.not_mem_nil,or_false] at m
   rcases m with z | z | z | z | z | z | z
   ·rw [z,t.q] at e; cases e
   ·rw [z,t.dn] at e; cases e
   ·rw [z,sk.ha] at e; cases e
   ·rw [z,sk.hb] at e; cases e
   ·rw [z,sk.hc] at e; cases e
   ·rw [z,sk.hs_] at e; cases e
   ·rw [z,sk.hw] at e; cases e
  ·have go:∀ {lb:LnA},lb∈A.las→∃ ln j,Ag3 a H j lb ln:=fun {lb} mb=>by
    obtain ⟨j,hj,ej⟩:=List.getElem_of_mem mb
    exact ⟨S.lns[j]'(by rw [← t.len]; exact hj),j,t.ln j lb _ (by rw [List.getElem?_eq_getElem hj,ej]) (List.getElem?_eq_getElem _)⟩
   rcases List.mem_append.mp m with m | m
   ·obtain ⟨lb,mb,eb⟩:=List.mem_map.mp m
    obtain ⟨ln,j,M⟩:=go mb
    rw [← eb,M.ins] at e; cases e
   ·obtain ⟨lb,mb,eb⟩:=List.mem_map.mp m
    obtain ⟨ln,j,M⟩:=go mb
    rw [← eb,M.held] at e; cases e
theorem Mv.tup (m:Mv A A' H H') (t:Aaw K a H A S) {b:Addr} {ys:List V} (e:H b=some (.tup ys)):H' b=some (.tup ys):=m.keep (t.tup e) e
def Aan.pushH (A:Aan) (i:Nat) (la:LnA) (x:Pr):Aan:={ A with las:=A.las.set i { la with ts:=la.ts++[x] } }
theorem Aan.push_ws {i:Nat} {la:LnA} {x:Pr} (h1:A.las[i]?=some la):(A.pushH i la x).ws=A.ws:=by
 have em:(A.las.set i { la with ts:=la.ts++[x] }).map (·.p)=A.las.map (·.p):=Aax h1 rfl
 have eh:(A.las.set i { la with ts:=la.ts++[x] }).map (·.h)=A.las.map (·.h):=Aax h1 rfl
 show A.sk :: (A.lists++((A.las.set i _).map _++(A.las.set i _).map _))=_
 rw [em,eh]; rfl
theorem Mv.push {i:Nat} {la:LnA} {x:Pr} {o:HO} (h1:A.las[i]?=some la):Mv A (A.pushH i la x) H (upd H la.h o) :=
 ⟨(Mv.at (Aan.h_ws h1)).fr,fun b m=>.inl (by rw [Aan.push_ws h1] at m; exact m),fun b e=>Aai e⟩
theorem Aan.sk_sub {b:Addr} (h:b∈[A.sk,A.ra,A.rc,A.rs,A.rw]):b∈A.ws:=by
 simp only [List.mem_cons,List.not_mem_nil,or_false] at h
 rcases h with z | z | z | z | z
 ·rw [z]; exact List.mem_cons_self
 all_goals exact List.mem_cons_of_mem _ (List.mem_append_left _ (by simp [Aan.lists,z]))
end
theorem QOk.next {S S':Aap} {t:Str×Int×Int} (h:QOk S) (e:AeA S=some (t,S')) (hk:∀ k,AfM S.hs S.js S.mark=some k→0≤k∧k < S.hs.length):QOk S'∧S'.q.length + 1=S.q.length:=by
 unfold AeA at e
 cases eq:S.q with
 | nil=>rw [eq] at e; cases e
 | cons z r =>
  rw [eq] at e
  dsimp only at e
  cases ef:AfM S.hs S.js S.mark with
  | none=>rw [ef] at e; cases e
  | some k =>
   rw [ef] at e
   dsimp only at e
   obtain ⟨ln,e1,e2,e3⟩:=h.idx (z:=z) (by rw [eq]; simp)
   rw [e1] at e
   cases e
   have nd:=h.nd
   rw [eq] at nd
   have nd':=List.nodup_cons.mp nd
   have fw:=h.few
   rw [eq,List.length_cons] at fw
   obtain ⟨k0,k1⟩:=hk k ef
   refine ⟨⟨nd'.2,fun y my=>?_,?_,Int.emod_nonneg _ (by omega),?_,h.pl,by show r.length≤100; omega⟩,by simp⟩
   ·obtain ⟨lm,m1,m2,m3⟩:=h.ln y (by rw [eq]; exact List.mem_cons_of_mem _ my)
    obtain ⟨j,hj,ej⟩:=List.getElem_of_mem m1
    have hj':S.lns[j]?=some lm:=by rw [List.getElem?_eq_getElem hj,ej]
    refine ⟨lm,?_,m2,m3⟩
    refine List.mem_of_getElem? (i:=j) ?_
    show (S.lns.set _ _)[j]?=_
    rw [List.getElem?_set,if_neg (fun d=>?_)]
    ·exact hj'
    ·rw [d,hj'] at e1
     cases e1
     exact nd'.1 (by rw [← e2,m2]; exact my)
   ·show ((S.lns.set _ _).map _).Nodup
    rw [Aax (f:=fun x:LnS=>x.num) (y:={ Aaq ln "dials" with held:=ln.held++[((Str.ofString ""),k)] }) e1 rfl]
    exact h.num
   ·show (k + 1) % (S.hs.length:Int)≤((S.hs.set k.toNat _).length:Nat)
    rw [List.length_set]
    exact Int.le_of_lt (Int.emod_lt_of_pos _ (by omega))
local macro_rules | `(tactic| walk_at "st")=>`(tactic| repeat (first
 | refine ⟨_,rfl,?_⟩
 | refine ⟨_,_,rfl,rfl,?_⟩
 | refine ⟨_,_,rfl,?_⟩
 | refine Or.inl ⟨_,_,rfl,rfl,?_⟩
 | refine Or.inl ⟨rfl,?_⟩
 | refine ⟨rfl,?_⟩
 | refine Or.inl ⟨_,_,_,_,rfl,rfl,.of (by assumption),rfl,?_⟩
 | (refine And.intro (show Aeq _ _ from ?_) ?_; (first | exact Or.inr ⟨by omega,by omega⟩ | exact Or.inl ⟨by omega,by omega⟩))
 | (refine And.intro (show Ae4 _ _ from ?_) ?_; exact ⟨by omega,by omega⟩)
 | (refine And.intro (show (0:Int) < _ from ?_) ?_; first | decide | omega)))
def Akz (K:PySem.W.Frag) (a:Adr):Sp:=fun vs H Q _=>∃ (A:Aan) (S:Aap),vs=[.ref A.h]∧Aaw K a H A S∧QOk S ∧
 ∀ H' A' r xs,A'.h=A.h→Aaw K a H' A' (AbK S).2→Mv A A' H H'→H r=none→H' r=some (.lst (xs.map V.ref))→Tns H' xs (AbK S).1→Q (.ref r) H'
section
variable {K:PySem.W.Frag} {a:Adr} {H H':Hp} {A A':Aan} {S:Aap}
theorem Aaw.out (t:Aaw K a H A S) {r:Addr} {xs:List V} {o:HO} (e:H r=some (.lst xs)) (n:r ∉ A.ws):Aaw K a (upd H r o) A S:=by
 have o':∀ {b u},b≠r→H b=some u→(upd H r o) b=some u:=fun n e=>by rw [Aah n]; exact e
 have oI:∀ {b C d fs},H b=some (.ins C d fs)→(upd H r o) b=some (.ins C d fs):=fun h=>o' (AaI h e (by intro z; cases z)) h
 have oT:∀ {b ys},H b=some (.tup ys)→(upd H r o) b=some (.tup ys):=fun h=>o' (AaI h e (by intro z; cases z)) h
 have oD:∀ {b ys},H b=some (.dK ys)→(upd H r o) b=some (.dK ys):=fun h=>o' (AaI h e (by intro z; cases z)) h
 have oL:∀ {b u},b∈A.ws→H b=some u→(upd H r o) b=some u:=fun m h=>o' (fun z=>n (z▸m)) h
 have ml:∀ {b},b∈A.lists→b∈A.ws:=fun m=>List.mem_cons_of_mem _ (List.mem_append_left _ m)
 obtain ⟨sdx,se⟩:=t.sek.ins
 have sk:=t.sek
 refine ⟨oI t.hall,oD t.ld,oD t.sd,t.gk,oL (ml (by simp [Aan.lists])) t.q,oL (ml (by simp [Aan.lists])) t.dn,⟨⟨sdx,oI se⟩,sk.cs,oL (ml (by simp [Aan.lists])) sk.ha,oL (ml (by simp [Aan.lists])) sk.hb,oL (ml (by simp [Aan.lists])) sk.hc,oL (ml (by simp [Aan.lists])) sk.hs_,oL (ml (by simp [Aan.lists])) sk.hw,sk.ap,sk.lj,sk.lt,sk.ls,sk.lw,sk.z⟩,t.len,fun j lb lm hj hm=>?_,t.num,t.np,t.nl,t.ni⟩
 have M:=t.ln j lb lm hj hm
 exact ⟨oI M.ins,oL (Aan.h_ws hj) M.held,fun x m=>oT (M.lay x m),M.few,M.eh⟩
theorem Mv.new (m:Mv A A' H H') {r:Addr} {o:HO} (n:H r=none):Mv A A' H (upd H' r o):=⟨fun b u hb e=>by rw [Aah (Aaj e n)]; exact m.fr b u hb e,m.sub,fun b e=>m.ex b (Aai e)⟩
end
section
variable {P:Program} {w:World} {K:PySem.W.Frag} {mg:Str→Option Value} {base:Heap} {a:Adr}
theorem Agy:Aat ["self","told","line","taken","k","steps"] ["self"] (Aaa (Aab (top 27) 15)):=⟨rfl,rfl,rfl,by decide +kernel,rfl,by decide +kernel,by decide +kernel⟩
theorem Abq:Nm (Aaa (Aab (top 27) 15)) "self":=by walk_at "k"
theorem Ab6:Nm (Aaa (Aab (top 27) 15)) "told":=by walk_at "k"
theorem Abr:Nm (Aaa (Aab (top 27) 15)) "line":=by walk_at "k"
theorem Acu:Nm (Aaa (Aab (top 27) 15)) "taken":=by walk_at "k"
theorem AdQ:Nm (Aaa (Aab (top 27) 15)) "k":=by walk_at "k"
theorem AdR:Nm (Aaa (Aab (top 27) 15)) "steps":=by walk_at "k"
theorem Acy:Gm (Aaa (Aab (top 27) 15)) "AT_SEEKERS":=by walk_at "k"
theorem Aoj {f:Addr} {fd:FuncData} (F:Fun K "tones" "Hall.tones" (Aab (top 27) 15) f fd) (T:TxtH P w K mg a) (D_turn:AaJ P w K mg base CX0 1 a.Line "turn" ["self","state"] (Aiq a)) (D_take:AaJ P w K mg base CX0 2 a.Seekers "take" ["self","place"] (Akt K a)):Aco P w K mg base CX0 3 f fd ["self"] (Akz K a):=by
 refine F.ok Agy (fun vs H Q E h=>?_) (fun cdv A outer s H vs Q E hr h=>?_)
 ·obtain ⟨A,S,rfl,_⟩:=h
  rfl
 ·obtain ⟨A0,S0,rfl,t0,ok0,q⟩:=h
  have cls_turn:=T.lc.cls
  have cls_take:=T.sc.c.cls
  have hu:=hr.units
  have nd:=Agy.nd
  refine ⟨_,(@Aae _ _ _ _ _ (Abb 1 nd Ab6 (Aa6 Aaf))
    (Aae (AkR PassesOwn.never (Anx (Aau (pvN 0 Abq) rfl) (by intro _; rfl)) (Aae (Abb 2 nd Abr (Agr (P:=P) (w:=w) (K:=K) (Aau (pvN 0 Abq) rfl) (Abt AaT (Aau (pvN 0 Abq) rfl) Aal (fun _ _=>rfl)) (fun _ _=>rfl)))
     (Aae (Abb 3 nd Acu (AcC D_take cls_take (Agr (P:=P) (w:=w) (K:=K) (Aau (pvN 0 Abq) rfl) (Ain Acy T.g_AT_SEEKERS) (fun _ _=>rfl)) (hr.mono (by decide)) AbO (Aac (Aau (pvN 2 Abr) rfl) Aaf)))
     (Aae (AbC (AaB Aic (pvN 3 Acu) AcQ (AaY _)) (Aag (AaL (pvN 1 Ab6))) AaF)
     (Aae (AfW (pvN 3 Acu) (Ajb rfl (AbD (AcB 4 nd AdQ) (AbD (AcB 5 nd AdR) Afk))))
     (Aae (AaN (Aer PySem.F.plainAttrs_list PySem.F.slot_list_pop PySem.F.type_list_pop AiC (Aau (pvN 0 Abq) rfl) (Aac Aal Aaf)))
     (Aae (AaN (AcC D_turn cls_turn (pvN 2 Abr) (hr.mono (by decide)) AbO (Aac Aak Aaf)))
     (Aae (AaN (Aer PySem.F.plainAttrs_list PySem.F.slot_list_append PySem.F.type_list_append AbF (Aau (pvN 2 Abr) rfl) (Aac (Adh (Aac (Ain Acy T.g_AT_SEEKERS) (Aac (pvN 4 AdQ) Aaf))) Aaf)))
     (Aag (AaN (Aer PySem.F.plainAttrs_list PySem.F.slot_list_append PySem.F.type_list_append AbF (pvN 1 Ab6) (Aac (Adh (Aac Aak (Aac (Aau (pvN 2 Abr) rfl) (Aac (pvN 4 AdQ) (Aac (pvN 5 AdR) Aaf))))) Aaf))))))))))))
    (Aag (AaL (pvN 1 Ab6))))),?_⟩
  have st0:AaV ["self","told","line","taken","k","steps"] [V.ref A0.h]=[some (.ref A0.h),none,none,none,none,none]:=rfl
  simp only [st0,List.set_cons_succ,List.set_cons_zero]
  walk_at "st"
  refine ⟨(by show 0≤sizeLine; decide),fun r nr=>?_⟩
  have s1:=(Aav.refl H).upd (o:=.lst []) nr
  have h1:(upd H r (.lst [])) r=some (.lst (([]:List Addr).map V.ref)):=Aad
  generalize upd H r (.lst [])=H1 at s1 h1 ⊢
  walk_at "st"
  refine ⟨fun m σ H2=>∃ x2 x3 x4 x5 A2 S2 xs tl,σ=[some (.ref A0.h),some (.ref r),x2,x3,x4,x5]∧A2.h=A0.h∧Aaw K a H2 A2 S2∧QOk S2∧Mv A0 A2 H H2∧H2 r=some (.lst (xs.map V.ref))∧r ∉ A2.ws∧Tns H2 xs tl∧m=S2.q.length∧xs.length + m≤100∧AbK S0=(tl++(tonesF m S2).1,(tonesF m S2).2),⟨S0.q.length,none,none,none,none,A0,S0,[],[],rfl,rfl,t0.same s1,ok0,Mv.same s1,h1,t0.fresh nr,trivial,rfl,by have:=ok0.few; simpa using this,by unfold AbK; rfl⟩,?_⟩
  rintro m σ H2 ⟨x2,x3,x4,x5,A2,S2,xs,tl,rfl,eA,t2,ok2,m2,hr2,nr2,tn2,rfl,len2,eq2⟩
  walk_at "st"
  refine ⟨A2.h,a.Hall,A2.dx,_,_,(by rw [eA]),t2.hall,T.hc.cls,T.hc.qu,rfl,?_⟩
  refine ⟨_,.inl ⟨_,.of t2.q,rfl⟩,?_⟩
  cases eq:S2.q with
  | nil =>
   have e0:AbK S0=(tl,S2):=by rw [eq2,eq]; show (tl++[],S2)=_; rw [List.append_nil]
   refine AgH ?_
   walk_at "st"
   exact q H2 A2 r xs eA (by rw [e0]; exact t2) m2 nr hr2 (by rw [e0]; exact tn2)
  | cons z rr =>
   refine AgI ?_
   rw [eq] at eq2 len2
   obtain ⟨ln,i1,i2,i3⟩:=ok2.idx (z:=z) (by rw [eq]; simp)
   generalize hi:Aez S2.lns z=i at i1
   have ilt:i < A2.las.length:=by rw [t2.len]; exact (List.getElem?_eq_some_iff.mp i1).1
   have l1:A2.las[i]?=some A2.las[i]:=List.getElem?_eq_getElem ilt
   generalize A2.las[i]=la at l1
   have hv:=t2.line i1 l1
   rw [i2] at hv
   have L:=t2.ln i la ln l1 i1
   obtain ⟨sdx,se⟩:=t2.sek.ins
   have F3:=Ag2 A2.ra A2.rb A2.rc S2.places A2.rs A2.rw S2.mark
   have qa0:atI (S2.q.map V.str) 0=some (.str z):=Ac2 (j:=0) (by rw [eq]; rfl)
   refine ⟨fun σ' H'=>∃ m',m' < rr.length + 1∧∃ x2 x3 x4 x5 A2 S2 xs tl,σ'=[some (.ref A0.h),some (.ref r),x2,x3,x4,x5]∧A2.h=A0.h∧Aaw K a H' A2 S2∧QOk S2∧Mv A0 A2 H H'∧H' r=some (.lst (xs.map V.ref))∧r ∉ A2.ws∧Tns H' xs tl∧m'=S2.q.length∧xs.length + m'≤100∧AbK S0=(tl++(tonesF m' S2).1,(tonesF m' S2).2),fun σ' H' h=>h,?_⟩
   walk_at "st"
   refine ⟨A2.h,a.Hall,A2.dx,_,_,(by rw [eA]),t2.hall,T.hc.cls,T.hc.li,rfl,?_⟩
   walk_at "st"
   refine ⟨A2.h,a.Hall,A2.dx,_,_,(by rw [eA]),t2.hall,T.hc.cls,T.hc.qu,rfl,?_⟩
   walk_at "st"
   refine Or.inl ⟨A2.qa,_,_,_,rfl,rfl,.of t2.q,qa0,?_⟩
   refine ⟨A2.ld,_,.inr z,_,rfl,rfl,.of t2.ld,hv,?_⟩
   walk_at "st"
   refine ⟨A2.h,a.Hall,A2.dx,_,_,(by rw [eA]),t2.hall,T.hc.cls,T.hc.sw,rfl,?_⟩
   walk_at "st"
   refine ⟨A2.sd,_,.inr "",_,rfl,rfl,.of t2.sd,t2.skv,?_⟩
   walk_at "st"
   refine ⟨A2.sk,sdx,_,rfl,se,rfl,?_⟩
   walk_at "st"
   refine ⟨la.p,a.Line,la.dx,_,_,rfl,L.ins,T.lc.cls,T.lc.pl,rfl,?_⟩
   walk_at "st"
   refine ⟨A2.sk,a.Seekers,A2.ra,A2.rb,A2.rc,A2.rs,A2.rw,S2.hs,S2.js,S2.ts,S2.places,S2.mark,S2.st,S2.wt,i,rfl,t2.sek,ok2.m0,ok2.m1,ok2.pl,?_⟩
   cases ef:AfM S2.hs S2.js S2.mark with
   | none =>
    intro H3 s3
    have et:AeA S2=none:=by unfold AeA; rw [eq]; dsimp only; rw [ef]
    have e0:AbK S0=(tl,S2):=by
     rw [eq2]
     show (tl++(tonesF (rr.length + 1) S2).1,(tonesF (rr.length + 1) S2).2)=_
     unfold tonesF; rw [et]; dsimp only; rw [List.append_nil]
    walk_at "st"
    exact q H3 A2 r xs eA (by rw [e0]; exact t2.same s3) (m2.trans (Mv.same s3)) nr (s3 _ _ hr2) (by rw [e0]; exact tn2.imp fun b ys e=>s3 _ _ e)
   | some k =>
    intro H3 tk sx ntk htk sek3
    obtain ⟨⟨k0,k1⟩,_⟩:=Agu ok2.m0 ok2.m1 ef
    have et:AeA S2=some ((z,k,((i:Int) - S2.st.getD k.toNat 0) % S2.places),{ S2 with q:=rr,lns:=S2.lns.set i { Aaq ln "dials" with held:=ln.held++[((Str.ofString ""),k)] },hs:=S2.hs.set k.toNat (.int i),ts:=S2.ts.set k.toNat (S2.ts.getD k.toNat 0 + 1),mark:=(k + 1) % S2.hs.length,st:=S2.st.set k.toNat i,wt:=S2.wt.set k.toNat (S2.wt.getD k.toNat 0 + ((i:Int) - S2.st.getD k.toNat 0) % S2.places) }):=by
     unfold AeA; rw [eq]; dsimp only; rw [ef]; dsimp only; rw [hi,i1]
    obtain ⟨ok3,_⟩:=ok2.next et fun k' e'=>by rw [ef] at e'; cases e'; exact ⟨k0,k1⟩
    generalize ((i:Int) - S2.st.getD k.toNat 0) % S2.places=step at htk sek3 et ok3
    have t3:=t2.setSek (fun b o hb e=>sx b o (fun m=>hb (by
     simp only [List.mem_cons,List.not_mem_nil,or_false] at m ⊢
     rcases m with m | m | m | m | m
     ·exact .inl m
     ·exact .inr (.inl m)
     ·exact .inr (.inr (.inr (.inl m)))
     ·exact .inr (.inr (.inr (.inr (.inl m))))
     ·exact .inr (.inr (.inr (.inr (.inr m)))))) e) sek3
    have m3:Mv A2 A2 H2 H3:=⟨fun b o hb e=>sx b o (fun m=>hb (Aan.sk_sub m)) e,fun b m=>.inl m,fun b e=>by
     cases h:H2 b with
     | none=>rfl
     | some o=>rw [sx b o (fun m=>t3.fresh e (Aan.sk_sub m)) h] at e; cases e⟩
    have hr3:=m3.keep nr2 hr2
    have tn3:=tn2.imp fun b ys e=>m3.tup t2 e
    walk_at "st"
    refine ⟨tk,_,rfl,.of htk,rfl,?_⟩
    walk_at "st"
    refine ⟨A2.h,a.Hall,A2.dx,_,_,(by rw [eA]),t3.hall,T.hc.cls,T.hc.qu,rfl,?_⟩
    refine ⟨.inl ⟨rfl,_,.of t3.q⟩,?_⟩
    walk_at "st"
    refine ⟨A2.qa,_,0,0,.str z,rfl,rfl,t3.q,(by decide),(by decide),(by rw [show S2.q=z :: rr from eq,List.map_cons,List.length_cons]; unfold seqIndex?; simp),(by rw [show S2.q=z :: rr from eq]; rfl),?_⟩
    have el:(S2.q.map V.str).eraseIdx 0=rr.map V.str:=by rw [eq]; rfl
    have t4:=t3.setQ (q':=rr)
    have m4:Mv A2 A2 H3 (upd H3 A2.qa (.lst (rr.map V.str))):=Mv.at Aan.q_ws
    rw [show (List.map V.str S2.q).eraseIdx 0=rr.map V.str from el]
    generalize upd H3 A2.qa (.lst (rr.map V.str))=H4 at t4 m4 ⊢
    have L4:=t4.ln i la ln l1 i1
    walk_at "st"
    refine ⟨la.p,la.dx,_,rfl,L4.ins,rfl,?_⟩
    walk_at "st"
    refine ⟨la.p,la.dx,ln.num,i,la.h,"dials",_,rfl,L4.ins,.inr ⟨_,_,_,_,_,rfl⟩,?_⟩
    have t5:=t4.setLine l1 i1 (ln':=Aaq ln "dials") rfl rfl
    change Aaw K a (upd H4 la.p (.ins a.Line la.dx (Ac7 ln.num i la.h "dials" "" 0 .non .non))) A2 _ at t5
    have m5:Mv A2 A2 H4 (upd H4 la.p (.ins a.Line la.dx (Ac7 ln.num i la.h "dials" "" 0 .non .non))):=Mv.at (Aan.p_ws l1)
    generalize upd H4 la.p (.ins a.Line la.dx (Ac7 ln.num i la.h "dials" "" 0 .non .non))=H5 at t5 m5 ⊢
    have i5:(S2.lns.set i (Aaq ln "dials"))[i]?=some (Aaq ln "dials"):=by rw [List.getElem?_set,if_pos rfl,if_pos (List.getElem?_eq_some_iff.mp i1).1]
    have L5:=t5.ln i la (Aaq ln "dials") l1 i5
    walk_at "st"
    refine ⟨la.p,a.Line,la.dx,_,_,rfl,L5.ins,T.lc.cls,T.lc.he,rfl,?_⟩
    refine ⟨.inl ⟨rfl,_,.of L5.held⟩,?_⟩
    walk_at "st"
    refine ⟨(by show 2≤sizeLine; decide),fun u nu=>?_⟩
    have s6:=(Aav.refl H5).upd (o:=.tup [.str "",.int k]) nu
    have e6:(upd H5 u (.tup [.str "",.int k])) u=some (.tup [.str "",.int k]):=Aad
    generalize upd H5 u (.tup [.str "",.int k])=H6 at s6 e6 ⊢
    have t6:=t5.same s6
    have L6:=t6.ln i la (Aaq ln "dials") l1 i5
    have lz:la.ts=[]:=by
     have:=L6.eh
     rw [show (Aaq ln "dials").held=[] from i3] at this
     exact List.map_eq_nil_iff.mp this
    walk_at "st"
    refine ⟨la.h,_,_,rfl,rfl,L6.held,(by rw [lz,sizeLine_eq]; decide),?_⟩
    have t7:=t6.pushHeld l1 i5 (x:=(u,("",k))) e6 (by rw [lz]; decide)
    have m7:Mv A2 (A2.pushH i la (u,("",k))) H6 (upd H6 la.h (.lst ((la.ts++[(u,((Str.ofString ""),k))]).map prV))):=Mv.push l1
    have e7:la.ts.map prV++[V.ref u]=(la.ts++[(u,((Str.ofString ""),k))]).map prV:=by rw [List.map_append]; rfl
    rw [e7]
    generalize upd H6 la.h (.lst ((la.ts++[(u,((Str.ofString ""),k))]).map prV))=H7 at t7 m7 ⊢
    have mm:Mv A2 (A2.pushH i la (u,("",k))) H2 H7:=m3.trans (m4.trans (m5.trans ((Mv.same s6).trans m7)))
    have hr7:=mm.keep nr2 hr2
    have tn7:=tn2.imp fun b ys e=>mm.tup t2 e
    have l7:(A2.las.set i { la with ts:=la.ts++[(u,((Str.ofString ""),k))] })[i]?=some { la with ts:=la.ts++[(u,((Str.ofString ""),k))] }:=by rw [List.getElem?_set,if_pos rfl,if_pos ilt]
    have i7:((S2.lns.set i (Aaq ln "dials")).set i { Aaq ln "dials" with held:=ln.held++[((Str.ofString ""),k)] })[i]?=some { Aaq ln "dials" with held:=ln.held++[((Str.ofString ""),k)] }:=by rw [List.getElem?_set,if_pos rfl,if_pos (by rw [List.length_set]; exact (List.getElem?_eq_some_iff.mp i1).1)]
    have L7:=t7.ln i _ _ l7 i7
    walk_at "st"
    refine ⟨.inl ⟨rfl,_,.of hr7⟩,?_⟩
    walk_at "st"
    refine ⟨la.p,a.Line,la.dx,_,_,rfl,L7.ins,T.lc.cls,T.lc.nu,rfl,?_⟩
    walk_at "st"
    refine ⟨(by show 4≤sizeLine; decide),fun v nv=>?_⟩
    have s8:=(Aav.refl H7).upd (o:=.tup [.str "tone",.str ln.num,.int k,.int step]) nv
    have e8:(upd H7 v (.tup [.str "tone",.str ln.num,.int k,.int step])) v=some (.tup [.str "tone",.str ln.num,.int k,.int step]):=Aad
    walk_at "st"
    refine ⟨r,_,_,rfl,rfl,s8 _ _ hr7,(by rw [List.length_map,sizeLine_eq]; rw [List.length_cons] at len2; omega),?_⟩
    have nrA:r ∉ (A2.pushH i la (u,("",k))).ws:=by rw [Aan.push_ws l1]; exact nr2
    have er:(xs.map V.ref++[V.ref v])=(xs++[v]).map V.ref:=by rw [List.map_append]; rfl
    have t9:Aaw K a (upd (upd H7 v (.tup [.str "tone",.str ln.num,.int k,.int step])) r (.lst (xs.map V.ref++[V.ref v]))) (A2.pushH i la (u,("",k))) { S2 with q:=rr,lns:=(S2.lns.set i (Aaq ln "dials")).set i { Aaq ln "dials" with held:=ln.held++[((Str.ofString ""),k)] },hs:=S2.hs.set k.toNat (.int i),ts:=S2.ts.set k.toNat (S2.ts.getD k.toNat 0 + 1),mark:=(k + 1) % S2.hs.length,st:=S2.st.set k.toNat i,wt:=S2.wt.set k.toNat (S2.wt.getD k.toNat 0 + step) }:=(Aaw.same t7 s8).out (s8 _ _ hr7) nrA
    rw [List.set_set] at t9
    have m9:Mv A0 (A2.pushH i la (u,("",k))) H (upd (upd H7 v (.tup [.str "tone",.str ln.num,.int k,.int step])) r (.lst (xs.map V.ref++[V.ref v]))):=(m2.trans (mm.trans (Mv.same s8))).new nr
    have h9:(upd (upd H7 v (.tup [.str "tone",.str ln.num,.int k,.int step])) r (.lst (xs.map V.ref++[V.ref v]))) r=some (.lst (xs.map V.ref++[V.ref v])):=Aad
    have tn8:Tns (upd H7 v (.tup [.str "tone",.str ln.num,.int k,.int step])) (xs++[v]) (tl++[(z,k,step)]):=Tns.snoc (by rw [i2] at e8; rw [i2]; exact e8) (tn7.imp fun b ys e=>s8 _ _ e)
    have tn9:Tns (upd (upd H7 v (.tup [.str "tone",.str ln.num,.int k,.int step])) r (.lst (xs.map V.ref++[V.ref v]))) (xs++[v]) (tl++[(z,k,step)]):=tn8.imp fun b ys e=>by rw [Aah (AaI e (s8 _ _ hr7) (by intro z; cases z))]; exact e
    have h9:=h9.trans (by rw [er])
    refine ⟨rr.length,Nat.lt_succ_self _,_,_,_,_,A2.pushH i la (u,("",k)),_,xs++[v],tl++[(z,k,step)],rfl,eA,t9,ok3,m9,h9,nrA,tn9,rfl,(by rw [List.length_append,List.length_singleton]; rw [List.length_cons] at len2; omega),?_⟩
    rw [eq2]
    show (tl++(tonesF (rr.length + 1) S2).1,(tonesF (rr.length + 1) S2).2)=_
    have ef2:∀ n,tonesF (n + 1) S2=_:=fun n=>by unfold tonesF; rw [et]
    rw [ef2,List.append_assoc]
    rfl
end
local macro_rules | `(tactic| walk_at "st")=>`(tactic| repeat (first
 | refine ⟨_,rfl,?_⟩
 | refine ⟨_,_,rfl,rfl,?_⟩
 | refine ⟨_,_,rfl,?_⟩
 | refine Or.inl ⟨_,_,rfl,rfl,?_⟩
 | refine Or.inl ⟨rfl,?_⟩
 | refine ⟨rfl,?_⟩
 | refine Or.inl ⟨_,_,_,_,rfl,rfl,.of (by assumption),rfl,?_⟩
 | (refine And.intro (show Aeq _ _ from ?_) ?_; (first | exact Or.inr ⟨by omega,by omega⟩ | exact Or.inl ⟨by omega,by omega⟩))
 | (refine And.intro (show Ae4 _ _ from ?_) ?_; exact ⟨by omega,by omega⟩)
 | (refine And.intro (show (0:Int) < _ from ?_) ?_; first | decide | omega)))
inductive Abj where
 | jam (b:Bool) (k:Int)
 | lift (z:Str)
 | hang (z:Str)
def ApQ (b:Bool):Str:=if b then "stick" else "mend"
def Abj.vals:Abj→List V
 | .jam b k=>[.str (ApQ b),.str "",.int k]
 | .lift z=>[.str "lift",.str z]
 | .hang z=>[.str "hang",.str z]
def Abj.told:Abj→List (List V)
 | .jam _ _=>[]
 | .lift z=>[[.str "waits",.str z]]
 | .hang z=>[[.str "rests",.str z]]
def Abj.next (S:Aap):Abj→Aap
 | .jam b k=>{ S with js:=S.js.set k.toNat b }
 | .lift z=>match S.lns[Aez S.lns z]? with
  | none=>S
  | some ln=>{ S with lns:=S.lns.set (Aez S.lns z) (Aaq ln "waits"),q:=S.q++[z] }
 | .hang z=>match S.lns[Aez S.lns z]? with
  | none=>S
  | some ln=>{ S with lns:=S.lns.set (Aez S.lns z) { Aaq ln "rests" with held:=[] },hs:=Age S.hs ln.held,q:=if ln.st="waits" then S.q.erase z else S.q }
def Abj.ok (S:Aap):Abj→Prop
 | .jam _ k=>inR k S.hs=true
 | .lift z=>∃ ln,S.lns[Aez S.lns z]?=some ln∧ln.num=z∧ln.st="rests"∧S.q.length < 1000
 | .hang z=>∃ ln,S.lns[Aez S.lns z]?=some ln∧ln.num=z∧(ln.st="waits"∨ln.st="dials")∧Aky S.hs ln.held∧ln.far=.non∧(ln.st="waits"→z∈S.q)
def Tps (H:Hp):List Addr→List (List V)→Prop
 | [],[]=>True
 | x :: xs,t :: ts=>H x=some (.tup t)∧Tps H xs ts
 | _,_=>False
theorem Tps.imp {H H':Hp} (f:∀ b ys,H b=some (.tup ys)→H' b=some (.tup ys)):∀ {xs:List Addr} {ts:List (List V)},Tps H xs ts→Tps H' xs ts
 | [],[],_=>trivial
 | [],_ :: _,h=>h
 | _ :: _,[],h=>h
 | x :: xs,t :: ts,h=>⟨f _ _ h.1,Tps.imp f h.2⟩
theorem Tps.app {H:Hp}:∀ {xs ys:List Addr} {ts us:List (List V)},Tps H xs ts→Tps H ys us→Tps H (xs++ys) (ts++us)
 | [],_,[],_,_,h=>h
 | [],_,_ :: _,_,h,_=>h.elim
 | _ :: _,_,[],_,h,_=>h.elim
 | _ :: _,_,_ :: _,_,h,k=>⟨h.1,Tps.app h.2 k⟩
theorem Tps.len {H:Hp}:∀ {xs:List Addr} {ts:List (List V)},Tps H xs ts→xs.length=ts.length
 | [],[],_=>rfl
 | [],_ :: _,h=>h.elim
 | _ :: _,[],h=>h.elim
 | _ :: xs,_ :: ts,h=>by rw [List.length_cons,List.length_cons,Tps.len h.2]
def AeT (t:Str×Int×Int):List V:=[.str "tone",.str t.1,.int t.2.1,.int t.2.2]
theorem Tns.tps {H:Hp}:∀ {xs:List Addr} {ts:List (Str×Int×Int)},Tns H xs ts→Tps H xs (ts.map AeT)
 | [],[],_=>trivial
 | [],_ :: _,h=>h.elim
 | _ :: _,[],h=>h.elim
 | _ :: _,_ :: _,h=>⟨h.1,Tns.tps h.2⟩
def Anb (K:PySem.W.Frag) (a:Adr):Sp:=fun vs H Q _=>∃ (A:Aan) (S:Aap) (b:Bool) (k:Int),vs=[.ref A.h,.str (ApQ b),.str "",.int k]∧Aaw K a H A S∧inR k S.hs=true ∧
 ∀ H' r,Aaw K a H' A { S with js:=S.js.set k.toNat b }→Mv A A H H'→H r=none→H' r=some (.lst [])→Q (.ref r) H'
section
variable {P:Program} {w:World} {K:PySem.W.Frag} {mg:Str→Option Value} {base:Heap} {a:Adr}
theorem AeB:Aat ["self","word","where","k"] ["self","word","where","k"] (Aaa (Aab (top 27) 2)):=⟨rfl,rfl,rfl,by decide +kernel,rfl,by decide +kernel,by decide +kernel⟩
theorem Ac0:Nm (Aaa (Aab (top 27) 2)) "self":=by walk_at "k"
theorem Aff:Nm (Aaa (Aab (top 27) 2)) "word":=by walk_at "k"
theorem AcJ:Nm (Aaa (Aab (top 27) 2)) "where":=by walk_at "k"
theorem AdS:Nm (Aaa (Aab (top 27) 2)) "k":=by walk_at "k"
theorem ApG {f:Addr} {fd:FuncData} (F:Fun K "at_switch" "Hall.at_switch" (Aab (top 27) 2) f fd) (T:TxtH P w K mg a) (D_switches_of:AaJ P w K mg base (CXE P w) 1 a.Hall "switches_of" ["self","where"] (AjI K a)) (D_stick:AaJ P w K mg base (CXE P w) 3 a.Seekers "stick" ["self","k"] (AlF K a true)) (D_mend:AaJ P w K mg base (CXE P w) 3 a.Seekers "mend" ["self","k"] (AlF K a false)):Aco P w K mg base (CXE P w) 4 f fd ["self","word","where","k"] (Anb K a):=by
 refine F.okX AeB (fun vs H Q E h=>?_) (fun cdv A outer s H vs Q E hr h=>?_)
 ·obtain ⟨A,S,b,k,rfl,_⟩:=h
  rfl
 ·obtain ⟨A',S,b,k,rfl,t,hk,q⟩:=h
  have cls_stick:=T.sc.c.cls
  have cls_mend:=T.sc.c.cls
  have cls_switches_of:=T.hc.cls
  have hu:=hr.units
  have nd:=AeB.nd
  obtain ⟨sdx,se⟩:=t.sek.ins
  have F3:=Ag2 A'.ra A'.rb A'.rc S.places A'.rs A'.rw S.mark
  have fin:∀ {b'},b'=b→∀ r,(upd H A'.rb (.lst ((S.js.set k.toNat b').map V.bl))) r=none→Q (.ref r) (upd (upd H A'.rb (.lst ((S.js.set k.toNat b').map V.bl))) r (.lst [])):=fun {b'} eb r nr=>by
   subst eb
   have t1:=t.setJs (js':=S.js.set k.toNat b') (by rw [List.length_set])
   have s1:=(Aav.refl (upd H A'.rb (.lst ((S.js.set k.toNat b').map V.bl)))).upd (o:=.lst []) nr
   exact q _ r (t1.same s1) ((Mv.at Aan.rb_ws).trans (Mv.same s1)) (Aai nr) Aad
  refine ⟨_,(@Aae _ _ _ _ _ (AbC (AaB (Aea hu) (pvN 1 Aff) Aak (AaY _)) (Aag (AaN (AcC D_stick cls_stick (AcC D_switches_of cls_switches_of (pvN 0 Ac0) (hr.mono (by decide)) Abu (Aac (pvN 2 AcJ) Aaf)) (hr.mono (by decide)) Abu (Aac (pvN 3 AdS) Aaf)))) (Aag (AaN (AcC D_mend cls_mend (AcC D_switches_of cls_switches_of (pvN 0 Ac0) (hr.mono (by decide)) Abu (Aac (pvN 2 AcJ) Aaf)) (hr.mono (by decide)) Abu (Aac (pvN 3 AdS) Aaf)))))
    (Aag (AaL (Aa6 Aaf)))),?_⟩
  cases b
  ·walk_at "st"
   refine ⟨A'.h,A'.dx,_,rfl,t.hall,rfl,?_⟩
   walk_at "st"
   refine ⟨A',S,rfl,t,?_⟩
   walk_at "st"
   refine ⟨A'.sk,sdx,_,rfl,se,F3.m _ (by decide),?_⟩
   walk_at "st"
   refine ⟨A'.sk,k,a.Seekers,A'.ra,A'.rb,A'.rc,_,_,_,rfl,t.sek.r,?_⟩
   rw [if_pos hk]
   walk_at "st"
   exact ⟨(by show 0≤sizeLine; decide),fin rfl⟩
  ·walk_at "st"
   refine ⟨A'.h,A'.dx,_,rfl,t.hall,rfl,?_⟩
   walk_at "st"
   refine ⟨A',S,rfl,t,?_⟩
   walk_at "st"
   refine ⟨A'.sk,sdx,_,rfl,se,F3.m _ (by decide),?_⟩
   walk_at "st"
   refine ⟨A'.sk,k,a.Seekers,A'.ra,A'.rb,A'.rc,_,_,_,rfl,t.sek.r,?_⟩
   rw [if_pos hk]
   walk_at "st"
   exact ⟨(by show 0≤sizeLine; decide),fin rfl⟩
end
local macro_rules | `(tactic| walk_at "st")=>`(tactic| repeat (first
 | refine ⟨_,rfl,?_⟩
 | refine ⟨_,_,rfl,rfl,?_⟩
 | refine ⟨_,_,rfl,?_⟩
 | refine Or.inl ⟨_,_,rfl,rfl,?_⟩
 | refine Or.inl ⟨rfl,?_⟩
 | refine ⟨rfl,?_⟩
 | refine Or.inl ⟨_,_,_,_,rfl,rfl,.of (by assumption),rfl,?_⟩
 | (refine And.intro (show Aeq _ _ from ?_) ?_; (first | exact Or.inr ⟨by omega,by omega⟩ | exact Or.inl ⟨by omega,by omega⟩))
 | (refine And.intro (show Ae4 _ _ from ?_) ?_; exact ⟨by omega,by omega⟩)
 | (refine And.intro (show (0:Int) < _ from ?_) ?_; first | decide | omega)))
def ApH (K:PySem.W.Frag) (a:Adr):Sp:=fun vs H Q _=>∃ (A:Aan) (S:Aap) (d:Abj) (z:Str),(d=.lift z∨d=.hang z)∧vs=.ref A.h :: d.vals∧Aaw K a H A S∧d.ok S ∧
 ∀ H' A' r xs,A'.h=A.h→Aaw K a H' A' (d.next S)→Mv A A' H H'→H r=none→r ∉ A'.ws→H' r=some (.lst (xs.map V.ref))→Tps H' xs d.told→Q (.ref r) H'
section
variable {P:Program} {w:World} {K:PySem.W.Frag} {mg:Str→Option Value} {base:Heap} {a:Adr}
theorem Afv:Aat ["self","word","number","line"] ["self","word","number"] (Aaa (Aab (top 27) 3)):=⟨rfl,rfl,rfl,by decide +kernel,rfl,by decide +kernel,by decide +kernel⟩
theorem Aa3:Nm (Aaa (Aab (top 27) 3)) "self":=by walk_at "k"
theorem Aa4:Nm (Aaa (Aab (top 27) 3)) "word":=by walk_at "k"
theorem Afg:Nm (Aaa (Aab (top 27) 3)) "number":=by walk_at "k"
theorem AaK:Nm (Aaa (Aab (top 27) 3)) "line":=by walk_at "k"
theorem AfQ:Gm (Aaa (Aab (top 27) 3)) "WAYS":=by walk_at "k"
theorem Afw:Gm (Aaa (Aab (top 27) 3)) "NotSo":=by walk_at "k"
theorem ApI {f:Addr} {fd:FuncData} (F:Fun K "at_line" "Hall.at_line" (Aab (top 27) 3) f fd) (T:TxtH P w K mg a) (D_line_of:AaJ P w K mg base (CXE P w) 1 a.Hall "line_of" ["self","number"] (AiZ K a)) (D_lift:AaJ P w K mg base CX0 3 a.Hall "lift" ["self","line"] (Am9 K a)) (D_hang:AaJ P w K mg base (CXE P w) 5 a.Hall "hang" ["self","line"] (Am8 K a)) (D_pulse:AaJ P w K mg base (CXE P w) 5 a.Hall "pulse" ["self","line"] Agf) (D_gap:AaJ P w K mg base (CXE P w) 5 a.Hall "gap" ["self","line"] Agf):Aco P w K mg base (CXE P w) 6 f fd ["self","word","number"] (ApH K a):=by
 refine F.okX Afv (fun vs H Q E h=>?_) (fun cdv A outer s H vs Q E hr h=>?_)
 ·obtain ⟨A,S,d,z,hd,rfl,_⟩:=h
  rcases hd with rfl | rfl <;> rfl
 ·obtain ⟨A',S,d,z,hd,rfl,t,ok,q⟩:=h
  have cls_lift:=T.hc.cls
  have cls_hang:=T.hc.cls
  have cls_pulse:=T.hc.cls
  have cls_gap:=T.hc.cls
  have cls_line_of:=T.hc.cls
  have hu:=hr.units
  have nd:=Afv.nd
  obtain ⟨w1,w2,w3,w4,kd,sq1,sq4⟩:=T.ways
  refine ⟨_,(@Aae _ _ _ _ _ (Abb 3 nd AaK (AcC D_line_of cls_line_of (pvN 0 Aa3) (hr.mono (by decide)) Abu (Aac (pvN 2 Afg) Aaf)))
    (Aae (AbC (AaB Amf (Aau (pvN 3 AaK) rfl) (Agr (P:=P) (w:=w) (K:=K) (AnN (v:=.ref a.WAYS) AfQ T.g_WAYS rfl) (pvN 1 Aa4) (fun _ _=>rfl)) (by with_unfolding_all rfl)) (Aag (Agm Aa0 Afw rfl T.x_NotSo T.g_NotSo (Aac (AdJ (Abv Aak (Abv (Amt (pvN 1 Aa4)) (Abv Aak (Abv (Agl (Aau (pvN 3 AaK) rfl)) Ahx))))) Aaf))) AaF)
    (Aae (AbC (AaB (Aea hu) (pvN 1 Aa4) Aak (AaY _)) (Aag (AaL (AcC D_lift cls_lift (pvN 0 Aa3) (hr.mono (by decide)) AbO (Aac (pvN 3 AaK) Aaf)))) AaF)
    (Aae (AbC (AaB (Aea hu) (pvN 1 Aa4) Aak (AaY _)) (Aag (AaL (AcC D_pulse cls_pulse (pvN 0 Aa3) (hr.mono (by decide)) Abu (Aac (pvN 3 AaK) Aaf)))) AaF)
    (Aae (AbC (AaB (Aea hu) (pvN 1 Aa4) Aak (AaY _)) (Aag (AaL (AcC D_gap cls_gap (pvN 0 Aa3) (hr.mono (by decide)) Abu (Aac (pvN 3 AaK) Aaf)))) AaF)
    (Aag (AaL (AcC D_hang cls_hang (pvN 0 Aa3) (hr.mono (by decide)) Abu (Aac (pvN 3 AaK) Aaf))))))))),?_⟩
  rcases hd with rfl | rfl
  ·obtain ⟨ln,i1,i2,i3,i4⟩:=ok
   generalize hi:Aez S.lns z=i at i1
   have ilt:i < A'.las.length:=by rw [t.len]; exact (List.getElem?_eq_some_iff.mp i1).1
   have l1:A'.las[i]?=some A'.las[i]:=List.getElem?_eq_getElem ilt
   generalize A'.las[i]=la at l1
   have L:=t.ln i la ln l1 i1
   have en:Abj.next S (.lift z)={ S with lns:=S.lns.set i (Aaq ln "waits"),q:=S.q++[z] }:=by simp only [Abj.next,hi,i1]
   walk_at "st"
   refine ⟨A'.h,A'.dx,_,rfl,t.hall,rfl,?_⟩
   walk_at "st"
   refine ⟨A',S,i,la,ln,(by rw [i2]; rfl),t,l1,i1,?_⟩
   walk_at "st"
   refine ⟨la.p,a.Line,la.dx,_,_,rfl,L.ins,T.lc.cls,T.lc.st,rfl,?_⟩
   walk_at "st"
   refine ⟨a.WAYS,_,.inr "lift",_,rfl,rfl,.inr kd,rfl,?_⟩
   refine Or.inr ⟨w1,_,rfl,.inr (sq1 _),rfl,rfl,?_⟩
   rw [i3]
   walk_at "st"
   refine ⟨A'.h,A'.dx,_,rfl,t.hall,rfl,?_⟩
   walk_at "st"
   refine ⟨A',S,i,la,ln,rfl,t,l1,i1,i4,i3,fun H' r tt T' M' nr er et=>?_⟩
   walk_at "st"
   rw [i2] at T' et
   exact q H' A' r [tt] rfl (by rw [en]; exact T') M' nr (t.fresh nr) er ⟨et,trivial⟩
  ·obtain ⟨ln,i1,i2,i3,ro,ifar,iq⟩:=ok
   generalize hi:Aez S.lns z=i at i1
   have ilt:i < A'.las.length:=by rw [t.len]; exact (List.getElem?_eq_some_iff.mp i1).1
   have l1:A'.las[i]?=some A'.las[i]:=List.getElem?_eq_getElem ilt
   generalize A'.las[i]=la at l1
   have L:=t.ln i la ln l1 i1
   have en:Abj.next S (.hang z)={ S with lns:=S.lns.set i { Aaq ln "rests" with held:=[] },hs:=Age S.hs ln.held,q:=if ln.st="waits" then S.q.erase z else S.q }:=by simp only [Abj.next,hi,i1]
   have ein:inV (.str ln.st) [V.str "waits",V.str "dials",V.str "rings",V.str "talks",V.str "told"]=true:=by
    rcases i3 with e | e <;> rw [e] <;> rfl
   walk_at "st"
   refine ⟨A'.h,A'.dx,_,rfl,t.hall,rfl,?_⟩
   walk_at "st"
   refine ⟨A',S,i,la,ln,(by rw [i2]; rfl),t,l1,i1,?_⟩
   walk_at "st"
   refine ⟨la.p,a.Line,la.dx,_,_,rfl,L.ins,T.lc.cls,T.lc.st,rfl,?_⟩
   walk_at "st"
   refine ⟨a.WAYS,_,.inr "hang",_,rfl,rfl,.inr kd,rfl,?_⟩
   refine Or.inr ⟨w4,_,rfl,.inr (sq4 _),rfl,rfl,?_⟩
   rw [ein]
   walk_at "st"
   refine ⟨A'.h,A'.dx,_,rfl,t.hall,rfl,?_⟩
   walk_at "st"
   refine ⟨A',S,i,la,ln,rfl,t,l1,i1,ro,ifar,(by rw [i2]; exact iq),fun H' l r tt T' M' nr nw er et=>?_⟩
   walk_at "st"
   rw [i2] at T' et
   exact q H' (A'.newH i la l) r [tt] rfl (by rw [en]; exact T') M' nr nw er ⟨et,trivial⟩
end
local macro_rules | `(tactic| walk_at "st")=>`(tactic| repeat (first
 | refine ⟨_,rfl,?_⟩
 | refine ⟨_,_,rfl,rfl,?_⟩
 | refine ⟨_,_,rfl,?_⟩
 | refine Or.inl ⟨_,_,rfl,rfl,?_⟩
 | refine Or.inl ⟨rfl,?_⟩
 | refine ⟨rfl,?_⟩
 | refine Or.inl ⟨_,_,_,_,rfl,rfl,.of (by assumption),rfl,?_⟩
 | (refine And.intro (show Aeq _ _ from ?_) ?_; (first | exact Or.inr ⟨by omega,by omega⟩ | exact Or.inl ⟨by omega,by omega⟩))
 | (refine And.intro (show Ae4 _ _ from ?_) ?_; exact ⟨by omega,by omega⟩)
 | (refine And.intro (show (0:Int) < _ from ?_) ?_; first | decide | omega)))
def Acn (S:Aap) (d:Abj) (dd:Addr):Aap:={ d.next S with dn:=(d.next S).dn++[.ref dd] }
def Art (K:PySem.W.Frag) (a:Adr):Sp:=fun vs H Q _=>∃ (A:Aan) (S:Aap) (d:Abj) (dd:Addr),vs=[.ref A.h,.ref dd]∧Aaw K a H A S∧H dd=some (.tup d.vals)∧d.ok S∧QOk (Acn S d dd)∧(d.next S).dn.length < 1000 ∧
 ∀ H' A' r xs,A'.h=A.h→Aaw K a H' A' (AbK (Acn S d dd)).2→Mv A A' H H'→H r=none→H' r=some (.lst (xs.map V.ref))→Tps H' xs (d.told++(AbK (Acn S d dd)).1.map AeT)→Q (.ref r) H'
theorem AeC:∀ (n:Nat) (S:Aap),(tonesF n S).1.length≤n
 | 0,_=>Nat.le_refl 0
 | n + 1,S=>by
  unfold tonesF
  split
  ·exact Nat.zero_le _
  ·exact Nat.succ_le_succ (AeC n _)
section
variable {P:Program} {w:World} {K:PySem.W.Frag} {mg:Str→Option Value} {base:Heap} {a:Adr}
theorem Ais:Aat ["self","deed","answer"] ["self","deed"] (Aaa (Aab (top 27) 1)):=⟨rfl,rfl,rfl,by decide +kernel,rfl,by decide +kernel,by decide +kernel⟩
theorem AcK:Nm (Aaa (Aab (top 27) 1)) "self":=by walk_at "k"
theorem Abe:Nm (Aaa (Aab (top 27) 1)) "deed":=by walk_at "k"
theorem Ada:Nm (Aaa (Aab (top 27) 1)) "answer":=by walk_at "k"
theorem Aru {f:Addr} {fd:FuncData} (F:Fun K "do" "Hall.do" (Aab (top 27) 1) f fd) (T:TxtH P w K mg a) (D_at_switch:AaJ P w K mg base (CXE P w) 4 a.Hall "at_switch" ["self","word","where","k"] (Anb K a)) (D_at_line:AaJ P w K mg base (CXE P w) 6 a.Hall "at_line" ["self","word","number"] (ApH K a)) (D_tones:AaJ P w K mg base CX0 3 a.Hall "tones" ["self"] (Akz K a)):Aco P w K mg base (CXE P w) 7 f fd ["self","deed"] (Art K a):=by
 refine F.okX Ais (fun vs H Q E h=>?_) (fun cdv A outer s H vs Q E hr h=>?_)
 ·obtain ⟨A,S,d,dd,rfl,_⟩:=h
  rfl
 ·obtain ⟨A',S,d,dd,rfl,t,hdd,ok,qok,dz,q⟩:=h
  have cls_at_switch:=T.hc.cls
  have cls_at_line:=T.hc.cls
  have cls_tones:=T.hc.cls
  have hu:=hr.units
  have nd:=Ais.nd
  refine ⟨_,(@Aae _ _ _ _ _ (AbC (AaB Aif (Abt AaT (pvN 1 Abe) Aal (fun _ _=>rfl)) (Adh (Aac Aak (Aac Aak Aaf))) (by with_unfolding_all rfl)) (Aag (Abb 2 nd Ada (AcC D_at_switch cls_at_switch (pvN 0 AcK) (hr.mono (by decide)) Abu (Aac (Abt AaT (pvN 1 Abe) Aal (fun _ _=>rfl)) (Aac (Abt AaT (pvN 1 Abe) Aal (fun _ _=>rfl)) (Aac (Abt AaT (pvN 1 Abe) Aal (fun _ _=>rfl)) Aaf)))))) (Aag (Abb 2 nd Ada (AcC D_at_line cls_at_line (pvN 0 AcK) (hr.mono (by decide)) Abu (Aac (Abt AaT (pvN 1 Abe) Aal (fun _ _=>rfl)) (Aac (Abt AaT (pvN 1 Abe) Aal (fun _ _=>rfl)) Aaf))))))
    (Aae (AaN (Aer PySem.F.plainAttrs_list PySem.F.slot_list_append PySem.F.type_list_append AbF (Aau (pvN 0 AcK) rfl) (Aac (pvN 1 Abe) Aaf)))
    (Aag (AaL (AaD AbG (pvN 2 Ada) (AhE D_tones cls_tones (pvN 0 AcK) (hr.mono (by decide)) AbO)))))),?_⟩
  cases d with
  | jam b k =>
   walk_at "st"
   refine Or.inr (Or.inl ⟨dd,_,_,_,rfl,rfl,.of hdd,rfl,?_⟩)
   walk_at "st"
   refine ⟨(by show 2≤sizeLine; decide),fun u nu=>?_⟩
   have s1:=(Aav.refl H).upd (o:=.tup [.str "stick",.str "mend"]) nu
   have eu:(upd H u (.tup [.str "stick",.str "mend"])) u=some (.tup [.str "stick",.str "mend"]):=Aad
   generalize upd H u (.tup [.str "stick",.str "mend"])=H1 at s1 eu ⊢
   refine Or.inr ⟨u,_,rfl,.inr (.of eu),rfl,rfl,?_⟩
   have ei:inV (.str (ApQ b)) [V.str "stick",V.str "mend"]=true:=by cases b <;> rfl
   rw [ei]
   have t1:=t.same s1
   have d1:=s1 _ _ hdd
   walk_at "st"
   refine ⟨A'.h,A'.dx,_,rfl,t1.hall,rfl,?_⟩
   walk_at "st"
   refine Or.inr (Or.inl ⟨dd,_,_,_,rfl,rfl,.of d1,rfl,?_⟩)
   walk_at "st"
   refine Or.inr (Or.inl ⟨dd,_,_,_,rfl,rfl,.of d1,rfl,?_⟩)
   walk_at "st"
   refine Or.inr (Or.inl ⟨dd,_,_,_,rfl,rfl,.of d1,rfl,?_⟩)
   walk_at "st"
   refine ⟨A',S,b,k,rfl,t1,ok,fun H2 r1 t2 m12 n12 e1=>?_⟩
   have m2:=(Mv.same s1).trans m12
   have nw1:r1 ∉ A'.ws:=t1.fresh n12
   have eA:A'.h=A'.h:=rfl
   have t2:Aaw K a H2 A' (Abj.next S (.jam b k)):=t2
   have tp1:Tps H2 [] (Abj.told (.jam b k)):=trivial
   walk_at "st"
   refine ⟨A'.h,a.Hall,A'.dx,_,_,(by rw [eA]),t2.hall,T.hc.cls,T.hc.dn,rfl,?_⟩
   refine ⟨.inl ⟨rfl,_,.of t2.dn⟩,?_⟩
   walk_at "st"
   refine ⟨A'.da,_,_,rfl,rfl,t2.dn,(by rw [sizeLine_eq]; exact Nat.lt_trans dz (by decide)),?_⟩
   have t3:=t2.setD (xs':=(Abj.next S (.jam b k)).dn++[.ref dd])
   have m3:Mv A' A' H2 (upd H2 A'.da (.lst ((Abj.next S (.jam b k)).dn++[.ref dd]))):=Mv.at Aan.d_ws
   generalize upd H2 A'.da (.lst ((Abj.next S (.jam b k)).dn++[.ref dd]))=H3 at t3 m3 ⊢
   walk_at "st"
   refine ⟨A'.h,A'.dx,_,(by rw [eA]),t3.hall,rfl,?_⟩
   walk_at "st"
   refine ⟨A',Acn S (.jam b k) dd,(by rw [eA]; rfl),t3,qok,fun H4 A4 r4 xs4 eA4 t4 m4 n4 e4 tn4=>?_⟩
   have r3:=m3.keep nw1 e1
   have r4':=m4.keep nw1 r3
   have tp4:Tps H4 ([]:List Addr) (Abj.told (.jam b k)):=tp1.imp fun b ys e=>m4.tup t3 (m3.tup t2 e)
   have fewA:=tn4.len
   walk_at "st"
   refine Or.inr (Or.inr ⟨r1,r4,_,_,rfl,rfl,r4',e4,?_,fun p np=>?_⟩)
   ·have f1:=tp1.len
    have f2:=AeC (Acn S (.jam b k) dd).q.length (Acn S (.jam b k) dd)
    have f3:=qok.few
    rw [List.length_map,fewA,sizeLine_eq,List.length_nil]
    have f4:(Abj.told (.jam b k)).length≤1:=by first | exact Nat.le_refl 1 | exact Nat.zero_le 1
    have f5:(AbK (Acn S (.jam b k) dd)).1.length≤100:=Nat.le_trans f2 f3
    omega
   have s5:=(Aav.refl H4).upd (o:=.lst (([]:List Addr).map V.ref++xs4.map V.ref)) np
   have mv:=m2.trans (m3.trans m4)
   refine q _ A4 p (([]:List Addr)++xs4) (eA4.trans eA) (t4.same s5) (mv.trans (Mv.same s5)) (mv.ex _ np) (by rw [List.map_append]; exact Aad) ((tp4.app tn4.tps).imp fun b ys e=>s5 _ _ e)
  | lift z =>
   walk_at "st"
   refine Or.inr (Or.inl ⟨dd,_,_,_,rfl,rfl,.of hdd,rfl,?_⟩)
   walk_at "st"
   refine ⟨(by show 2≤sizeLine; decide),fun u nu=>?_⟩
   have s1:=(Aav.refl H).upd (o:=.tup [.str "stick",.str "mend"]) nu
   have eu:(upd H u (.tup [.str "stick",.str "mend"])) u=some (.tup [.str "stick",.str "mend"]):=Aad
   generalize upd H u (.tup [.str "stick",.str "mend"])=H1 at s1 eu ⊢
   walk_at "st"
   refine Or.inr ⟨u,_,rfl,.inr (.of eu),rfl,rfl,?_⟩
   have t1:=t.same s1
   have d1:=s1 _ _ hdd
   walk_at "st"
   refine ⟨A'.h,A'.dx,_,rfl,t1.hall,rfl,?_⟩
   walk_at "st"
   refine Or.inr (Or.inl ⟨dd,_,_,_,rfl,rfl,.of d1,rfl,?_⟩)
   walk_at "st"
   refine Or.inr (Or.inl ⟨dd,_,_,_,rfl,rfl,.of d1,rfl,?_⟩)
   walk_at "st"
   refine ⟨A',S,.lift z,z,.inl rfl,rfl,t1,ok,fun H2 A2 r1 xs1 eA t2 m12 n12 nw1 e1 tp1=>?_⟩
   have m2:=(Mv.same s1).trans m12
   walk_at "st"
   refine ⟨A2.h,a.Hall,A2.dx,_,_,(by rw [eA]),t2.hall,T.hc.cls,T.hc.dn,rfl,?_⟩
   refine ⟨.inl ⟨rfl,_,.of t2.dn⟩,?_⟩
   walk_at "st"
   refine ⟨A2.da,_,_,rfl,rfl,t2.dn,(by rw [sizeLine_eq]; exact Nat.lt_trans dz (by decide)),?_⟩
   have t3:=t2.setD (xs':=(Abj.next S (.lift z)).dn++[.ref dd])
   have m3:Mv A2 A2 H2 (upd H2 A2.da (.lst ((Abj.next S (.lift z)).dn++[.ref dd]))):=Mv.at Aan.d_ws
   generalize upd H2 A2.da (.lst ((Abj.next S (.lift z)).dn++[.ref dd]))=H3 at t3 m3 ⊢
   walk_at "st"
   refine ⟨A2.h,A2.dx,_,(by rw [eA]),t3.hall,rfl,?_⟩
   walk_at "st"
   refine ⟨A2,Acn S (.lift z) dd,(by rw [eA]; rfl),t3,qok,fun H4 A4 r4 xs4 eA4 t4 m4 n4 e4 tn4=>?_⟩
   have r3:=m3.keep nw1 e1
   have r4':=m4.keep nw1 r3
   have tp4:Tps H4 xs1 (Abj.told (.lift z)):=tp1.imp fun b ys e=>m4.tup t3 (m3.tup t2 e)
   have fewA:=tn4.len
   walk_at "st"
   refine Or.inr (Or.inr ⟨r1,r4,_,_,rfl,rfl,r4',e4,?_,fun p np=>?_⟩)
   ·have f1:=tp1.len
    have f2:=AeC (Acn S (.lift z) dd).q.length (Acn S (.lift z) dd)
    have f3:=qok.few
    rw [List.length_map,List.length_map,f1,fewA,sizeLine_eq]
    have f4:(Abj.told (.lift z)).length≤1:=by first | exact Nat.le_refl 1 | exact Nat.zero_le 1
    have f5:(AbK (Acn S (.lift z) dd)).1.length≤100:=Nat.le_trans f2 f3
    omega
   have s5:=(Aav.refl H4).upd (o:=.lst (xs1.map V.ref++xs4.map V.ref)) np
   have mv:=m2.trans (m3.trans m4)
   refine q _ A4 p (xs1++xs4) (eA4.trans eA) (t4.same s5) (mv.trans (Mv.same s5)) (mv.ex _ np) (by rw [List.map_append]; exact Aad) ((tp4.app tn4.tps).imp fun b ys e=>s5 _ _ e)
  | hang z =>
   walk_at "st"
   refine Or.inr (Or.inl ⟨dd,_,_,_,rfl,rfl,.of hdd,rfl,?_⟩)
   walk_at "st"
   refine ⟨(by show 2≤sizeLine; decide),fun u nu=>?_⟩
   have s1:=(Aav.refl H).upd (o:=.tup [.str "stick",.str "mend"]) nu
   have eu:(upd H u (.tup [.str "stick",.str "mend"])) u=some (.tup [.str "stick",.str "mend"]):=Aad
   generalize upd H u (.tup [.str "stick",.str "mend"])=H1 at s1 eu ⊢
   walk_at "st"
   refine Or.inr ⟨u,_,rfl,.inr (.of eu),rfl,rfl,?_⟩
   have t1:=t.same s1
   have d1:=s1 _ _ hdd
   walk_at "st"
   refine ⟨A'.h,A'.dx,_,rfl,t1.hall,rfl,?_⟩
   walk_at "st"
   refine Or.inr (Or.inl ⟨dd,_,_,_,rfl,rfl,.of d1,rfl,?_⟩)
   walk_at "st"
   refine Or.inr (Or.inl ⟨dd,_,_,_,rfl,rfl,.of d1,rfl,?_⟩)
   walk_at "st"
   refine ⟨A',S,.hang z,z,.inr rfl,rfl,t1,ok,fun H2 A2 r1 xs1 eA t2 m12 n12 nw1 e1 tp1=>?_⟩
   have m2:=(Mv.same s1).trans m12
   walk_at "st"
   refine ⟨A2.h,a.Hall,A2.dx,_,_,(by rw [eA]),t2.hall,T.hc.cls,T.hc.dn,rfl,?_⟩
   refine ⟨.inl ⟨rfl,_,.of t2.dn⟩,?_⟩
   walk_at "st"
   refine ⟨A2.da,_,_,rfl,rfl,t2.dn,(by rw [sizeLine_eq]; exact Nat.lt_trans dz (by decide)),?_⟩
   have t3:=t2.setD (xs':=(Abj.next S (.hang z)).dn++[.ref dd])
   have m3:Mv A2 A2 H2 (upd H2 A2.da (.lst ((Abj.next S (.hang z)).dn++[.ref dd]))):=Mv.at Aan.d_ws
   generalize upd H2 A2.da (.lst ((Abj.next S (.hang z)).dn++[.ref dd]))=H3 at t3 m3 ⊢
   walk_at "st"
   refine ⟨A2.h,A2.dx,_,(by rw [eA]),t3.hall,rfl,?_⟩
   walk_at "st"
   refine ⟨A2,Acn S (.hang z) dd,(by rw [eA]; rfl),t3,qok,fun H4 A4 r4 xs4 eA4 t4 m4 n4 e4 tn4=>?_⟩
   have r3:=m3.keep nw1 e1
   have r4':=m4.keep nw1 r3
   have tp4:Tps H4 xs1 (Abj.told (.hang z)):=tp1.imp fun b ys e=>m4.tup t3 (m3.tup t2 e)
   have fewA:=tn4.len
   walk_at "st"
   refine Or.inr (Or.inr ⟨r1,r4,_,_,rfl,rfl,r4',e4,?_,fun p np=>?_⟩)
   ·have f1:=tp1.len
    have f2:=AeC (Acn S (.hang z) dd).q.length (Acn S (.hang z) dd)
    have f3:=qok.few
    rw [List.length_map,List.length_map,f1,fewA,sizeLine_eq]
    have f4:(Abj.told (.hang z)).length≤1:=by first | exact Nat.le_refl 1 | exact Nat.zero_le 1
    have f5:(AbK (Acn S (.hang z) dd)).1.length≤100:=Nat.le_trans f2 f3
    omega
   have s5:=(Aav.refl H4).upd (o:=.lst (xs1.map V.ref++xs4.map V.ref)) np
   have mv:=m2.trans (m3.trans m4)
   refine q _ A4 p (xs1++xs4) (eA4.trans eA) (t4.same s5) (mv.trans (Mv.same s5)) (mv.ex _ np) (by rw [List.map_append]; exact Aad) ((tp4.app tn4.tps).imp fun b ys e=>s5 _ _ e)
end
local macro_rules | `(tactic| walk_at "st")=>`(tactic| repeat (first
 | refine ⟨_,rfl,?_⟩
 | refine ⟨_,_,rfl,rfl,?_⟩
 | refine ⟨_,_,rfl,?_⟩
 | refine Or.inl ⟨_,_,rfl,rfl,?_⟩
 | refine Or.inl ⟨rfl,?_⟩
 | refine ⟨rfl,?_⟩
 | refine Or.inl ⟨_,_,_,_,rfl,rfl,.of (by assumption),rfl,?_⟩
 | (refine And.intro (show Aeq _ _ from ?_) ?_; (first | exact Or.inr ⟨by omega,by omega⟩ | exact Or.inl ⟨by omega,by omega⟩))
 | (refine And.intro (show Ae4 _ _ from ?_) ?_; exact ⟨by omega,by omega⟩)
 | (refine And.intro (show (0:Int) < _ from ?_) ?_; first | decide | omega)))
def ln0 (z:Str):LnS:=⟨z,"rests","",0,.non,.non,[]⟩
def AjL (long:Int) (zs:List Str) (n:Nat):Aap:=⟨long,zs.map ln0,List.replicate n .non,List.replicate n false,List.replicate n 0,zs.length,0,List.replicate n 0,List.replicate n 0,[],[]⟩
def AkA (K:PySem.W.Frag) (a:Adr):Sp:=fun vs H Q _=>∃ (h dx pl pdx lt gt:Addr) (long n:Int) (zs:List Str),vs=[.ref h,.ref pl]∧H h=some (.ins a.Hall dx [])∧PlC K a.Plan∧H pl=some (.ins a.Plan pdx (AqB long lt n gt))∧H lt=some (.tup (zs.map V.str))∧H gt=some (.tup [])∧zs.Nodup∧zs.length≤60∧0≤n∧n≤60 ∧
 ∀ H' A',A'.h=h→Aaw K a H' A' (AjL long zs n.toNat)→AaE [h] H H'→(∀ b∈A'.ws,H b=none)→(∀ b,H' b=none→H b=none)→Q .non H'
structure AqS (a:Adr) (H0 H:Hp) (D:Addr) (zs:List Str) (i:Nat) (las:List LnA):Prop where
 s:Aav H0 H
 len:las.length=i
 d:H D=some (.dK (((zs.map ln0).zip las).map fun x=>(.inr x.1.num,.ref x.2.p)))
 ln:∀ (j:Nat) (la:LnA) (z:Str),las[j]?=some la→zs[j]?=some z→Ag3 a H j la (ln0 z)
 np:(las.map (·.p)).Nodup
 nh:(las.map (·.h)).Nodup
 fr:∀ la∈las,H0 la.p=none∧H0 la.h=none
theorem Ala {α β:Type} {x:α} {y:β}:∀ {l:List α} {m:List β},l[m.length]?=some x→l.zip (m++[y])=l.zip m++[(x,y)]
 | [],m,h=>by simp at h
 | u :: l,[],h=>by
  have e:u=x:=by simpa using h
  rw [e]; simp
 | u :: l,v :: m,h=>by
  show (u,v) :: l.zip (m++[y])=(u,v) :: l.zip m++[(x,y)]
  rw [Ala (by simpa using h)]; rfl
theorem Anc {z:Str}:∀ {zs:List Str} {las:List LnA},z ∉ zs.take las.length→Ag9 (((zs.map ln0).zip las).map fun x=>((Sum.inr x.1.num:Key),V.ref x.2.p)) (.inr z)=none
 | [],_,_=>rfl
 | _ :: _,[],_=>rfl
 | u :: zs,la :: las,h=>by
  have h':z≠u∧z ∉ zs.take las.length:=by simpa using h
  exact (AdB fun e=>h'.1 (Sum.inr.inj e).symm).trans (Anc h'.2)
theorem AqS.push {a:Adr} {H0 H HC:Hp} {D x dx l:Addr} {zs:List Str} {i:Nat} {las:List LnA} {z:Str} (m:AqS a H0 H D zs i las) (hz:zs[i]?=some z) (nd:zs.Nodup) (s:Aav H HC) (nx:H x=none) (nl:H l=none) (nD:H0 D=none)
  (ex:HC x=some (.ins a.Line dx (Ac7 z i l "rests" "" 0 .non .non))) (el:HC l=some (.lst [])) :
  AqS a H0 (upd HC D (.dK (AfX (((zs.map ln0).zip las).map fun x=>((Sum.inr x.1.num:Key),V.ref x.2.p)) (.inr z) (.ref x)))) D zs (i + 1) (las++[⟨x,dx,l,[]⟩]):=by
 have dC:=s _ _ m.d
 have ilt:i < zs.length:=(List.getElem?_eq_some_iff.mp hz).1
 have no:z ∉ zs.take las.length:=fun h=>by
  obtain ⟨j,hj,ej⟩:=List.getElem_of_mem h
  rw [List.length_take] at hj
  have hj':zs[j]?=some z:=by rw [List.getElem_take] at ej; rw [List.getElem?_eq_getElem (by omega),ej]
  exact Akx nd hj' hz (by have:=m.len; omega) rfl
 have old:∀ {lb:LnA},lb∈las→H lb.p≠none∧H lb.h≠none:=fun {lb} hm=>by
  obtain ⟨j,hj,ej⟩:=List.getElem_of_mem hm
  have M:=m.ln j lb (zs[j]'(by have:=m.len; omega)) (by rw [List.getElem?_eq_getElem hj,ej]) (List.getElem?_eq_getElem _)
  exact ⟨by rw [M.ins]; simp,by rw [M.held]; simp⟩
 have back:∀ {b},H b=none→H0 b=none:=fun {b} e=>by
  cases h:H0 b with
  | none=>rfl
  | some o=>rw [m.s _ _ h] at e; cases e
 refine ⟨fun b o e=>?_,by rw [List.length_append,m.len]; rfl,?_,fun j lb z' hj hz'=>?_,?_,?_,fun lb hm=>?_⟩
 ·rw [Aah (Aaj e nD)]; exact s _ _ (m.s _ _ e)
 ·rw [Aad,AnS _ (Anc no),Ala (x:=ln0 z) (by rw [m.len,List.getElem?_map,hz]; rfl),List.map_append]; rfl
 ·by_cases lt:j < las.length
  ·rw [List.getElem?_append_left lt] at hj
   have M:=m.ln j lb z' hj hz'
   refine ⟨?_,?_,fun y hy=>?_,M.few,M.eh⟩
   ·rw [Aah (AaI (s _ _ M.ins) dC (by intro z; cases z))]; exact s _ _ M.ins
   ·rw [Aah (AaI (s _ _ M.held) dC (by intro z; cases z))]; exact s _ _ M.held
   ·rw [Aah (AaI (s _ _ (M.lay y hy)) dC (by intro z; cases z))]; exact s _ _ (M.lay y hy)
  ·have jl:=(List.getElem?_eq_some_iff.mp hj).1
   rw [List.length_append,List.length_singleton] at jl
   have ej:j=las.length:=by omega
   subst ej
   rw [List.getElem?_append_right (Nat.le_refl _),Nat.sub_self] at hj
   have hj:(⟨x,dx,l,[]⟩:LnA)=lb:=by simpa using hj
   subst hj
   rw [m.len,hz] at hz'
   cases hz'
   rw [m.len]
   refine ⟨?_,?_,fun y hy=>(by cases hy),Nat.zero_le _,rfl⟩
   ·rw [Aah (AaI ex dC (by intro z; cases z))]; exact ex
   ·rw [Aah (AaI el dC (by intro z; cases z))]; exact el
 ·rw [List.map_append]
  refine List.nodup_append.mpr ⟨m.np,by simp,fun u hu v hv e=>?_⟩
  obtain ⟨lb,mb,eb⟩:=List.mem_map.mp hu
  have hv:v=x:=by simpa using hv
  exact (old mb).1 (by rw [eb,e,hv]; exact nx)
 ·rw [List.map_append]
  refine List.nodup_append.mpr ⟨m.nh,by simp,fun u hu v hv e=>?_⟩
  obtain ⟨lb,mb,eb⟩:=List.mem_map.mp hu
  have hv:v=l:=by simpa using hv
  exact (old mb).2 (by rw [eb,e,hv]; exact nl)
 ·rcases List.mem_append.mp hm with hm | hm
  ·exact m.fr lb hm
  ·have hm:lb=⟨x,dx,l,[]⟩:=by simpa using hm
   subst hm
   exact ⟨back nx,back nl⟩
structure Aok (a:Adr) (H:Hp) (D:Addr) (zs:List Str) (las:List LnA) (h:Addr):Prop where
 d:H D=some (.dK (((zs.map ln0).zip las).map fun x=>(.inr x.1.num,.ref x.2.p)))
 ln:∀ (j:Nat) (la:LnA) (z:Str),las[j]?=some la→zs[j]?=some z→Ag3 a H j la (ln0 z)
 nd:D≠h
 ne:∀ la∈las,la.p≠h∧la.h≠h
theorem Aok.keep {a:Adr} {H H':Hp} {D h:Addr} {zs:List Str} {las:List LnA} (m:Aok a H D zs las h) (s:AaE [h] H H'):Aok a H' D zs las h:=by
 refine ⟨s _ _ (by simpa using m.nd) m.d,fun j la z hj hz=>?_,m.nd,m.ne⟩
 have M:=m.ln j la z hj hz
 have n:=m.ne la (List.mem_of_getElem? hj)
 have e0:la.ts=[]:=List.map_eq_nil_iff.mp M.eh
 exact ⟨s _ _ (by simpa using n.1) M.ins,s _ _ (by simpa using n.2) M.held,fun y hy=>(by rw [e0] at hy; cases hy),M.few,M.eh⟩
theorem Sek.keep {K:PySem.W.Frag} {a:Adr} {H H':Hp} {p C ra rb rc rs rw:Addr} {hs:List V} {js:List Bool} {ts:List Int} {places mark:Int} {st wt:List Int} (k:Sek K a H p C ra rb rc rs rw hs js ts places mark st wt) (f:∀ b o,b∈[p,ra,rb,rc,rs,rw]→H b=some o→H' b=some o):Sek K a H' p C ra rb rc rs rw hs js ts places mark st wt:=by
 obtain ⟨dx,e⟩:=k.ins
 exact ⟨⟨dx,f _ _ (by simp) e⟩,k.cs,f _ _ (by simp) k.ha,f _ _ (by simp) k.hb,f _ _ (by simp) k.hc,f _ _ (by simp) k.hs_,f _ _ (by simp) k.hw,k.ap,k.lj,k.lt,k.ls,k.lw,k.z⟩
theorem AaE.at {h:Addr} {H:Hp} {o:HO}:AaE [h] H (upd H h o):=fun b u hb e=>(Aah (fun z=>hb (by simp [z]))).trans e
theorem AaE.of {ws:List Addr} {H H':Hp} (s:Aav H H'):AaE ws H H':=fun b o _ e=>s b o e
theorem AaE.tr {ws:List Addr} {H H' H'':Hp} (s:AaE ws H H') (t:AaE ws H' H''):AaE ws H H'':=fun b o n e=>t b o n (s b o n e)
section
variable {P:Program} {w:World} {K:PySem.W.Frag} {mg:Str→Option Value} {base:Heap} {a:Adr}
theorem Ahf:Aat ["self","plan"] ["self","plan"] (Aaa (Aab (top 27) 0)):=⟨rfl,rfl,rfl,by decide +kernel,rfl,by decide +kernel,by decide +kernel⟩
theorem AaS:Nm (Aaa (Aab (top 27) 0)) "self":=by walk_at "k"
theorem AaZ:Nm (Aaa (Aab (top 27) 0)) "plan":=by walk_at "k"
theorem AdT:Gm (Aaa (Aab (top 27) 0)) "AT_SEEKERS":=by walk_at "k"
theorem AeD:Gm (Aaa (Aab (top 27) 0)) "Seekers":=by walk_at "k"
theorem AfR:Gm (Aaa (Aab (top 27) 0)) "len":=by walk_at "k"
theorem Ad8:Gm (Aaa (Aab (top 27) 0)) "enumerate":=by walk_at "k"
def AbU:Scope:={ kind:=.function,names:=[(".0",.local),("prefix",.local),("many",.local),("Group",.globalImplicit)],isGenerator:=false,isCoroutine:=false,more:=[] }
theorem AcL:Abc AbU (Aaa (Aab (top 27) 0)) ["prefix","many"] ["self","plan"] [none,none]:=Abc.mk' rfl (by decide +kernel) (by decide +kernel) (by decide +kernel) (by decide +kernel) rfl (by decide +kernel)
theorem Acl:Nm AbU "prefix":=by walk_at "k"
theorem Acz:Nm AbU "many":=by walk_at "k"
theorem Aen:Gm AbU "Group":=by walk_at "k"
def AbV:Scope:={ kind:=.function,names:=[(".0",.local),("place",.local),("number",.local),("Line",.globalImplicit)],isGenerator:=false,isCoroutine:=false,more:=[] }
theorem AcM:Abc AbV (Aaa (Aab (top 27) 0)) ["place","number"] ["self","plan"] [none,none]:=Abc.mk' rfl (by decide +kernel) (by decide +kernel) (by decide +kernel) (by decide +kernel) rfl (by decide +kernel)
theorem Acq:Nm AbV "place":=by walk_at "k"
theorem Abi:Nm AbV "number":=by walk_at "k"
theorem AeE:Gm AbV "Line":=by walk_at "k"
theorem Aol {f:Addr} {fd:FuncData} (F:Fun K "__init__" "Hall.__init__" (Aab (top 27) 0) f fd) (T:TxtH P w K mg a) (M_Line:Amo P w K mg base CX0 2 a.Line "Line" ["self","number","place"] (Akw a)) (M_Group:Amo P w K mg base CX0 2 a.Group "Group" ["self","many"] (Ak6 K a)) (M_Seekers:Amo P w K mg base CX0 2 a.Seekers "Seekers" ["self","many","places"] (Akr K a)):Aco P w K mg base CX0 4 f fd ["self","plan"] (AkA K a):=by
 refine F.ok Ahf (fun vs H Q E h=>?_) (fun cdv A outer s H vs Q E hr h=>?_)
 ·obtain ⟨h,dx,pl,pdx,lt,gt,long,n,zs,rfl,_⟩:=h
  rfl
 ·obtain ⟨h,dx,pl,pdx,lt,gt,long,n,zs,rfl,hh,pc,hpl,hlt,hgt,nd,zl,n0,n1,q⟩:=h
  have hu:=hr.units
  refine ⟨_,(@Aae _ _ _ _ _ (AbB (pvN 0 AaS) (Aau (pvN 1 AaZ) rfl) rfl)
    (Aae (AbB (pvN 0 AaS) (Ak2 rfl AcM (An4 Ad8 T.n_enumerate (Aac (Aau (pvN 1 AaZ) rfl) Aaf)) (fun cl C fp pins s₂ H₂=>(AiP (X:=Aay _ _ _ cl C fp pins s₂ H₂) K rfl 2 rfl (AbD (AcB 0 AcM.nd Acq.comp) (AbD (AcB 1 AcM.nd Abi.comp) Afk)) rfl rfl)) (fun cl C fp pins s₂ H₂=>Af5) (fun cl C fp pins s₂ H₂=>(pvN 1 Abi.comp)) (fun cl C fp pins s₂ H₂=>(Amp M_Line AeE.comp (hr.mono (by decide)) AbO (Aac (pvN 1 Abi.comp) (Aac (pvN 0 Acq.comp) Aaf))))) rfl)
    (Aae (AbB (pvN 0 AaS) (Ak2 rfl AcL (Aoz (Aau (pvN 1 AaZ) rfl)) (fun cl C fp pins s₂ H₂=>(AiP (X:=Aay _ _ _ cl C fp pins s₂ H₂) K rfl 2 rfl (AbD (AcB 0 AcL.nd Acl.comp) (AbD (AcB 1 AcL.nd Acz.comp) Afk)) rfl rfl)) (fun cl C fp pins s₂ H₂=>Af5) (fun cl C fp pins s₂ H₂=>(pvN 0 Acl.comp)) (fun cl C fp pins s₂ H₂=>(Amp M_Group Aen.comp (hr.mono (by decide)) AbO (Aac (pvN 1 Acz.comp) Aaf)))) rfl)
    (Aae (Aka (Nat.lt_of_le_of_lt (Nat.add_le_add_left (by decide) _) hu) (Aau (pvN 0 AaS) rfl) (Ain AdT T.g_AT_SEEKERS) (Amp M_Seekers AeD (hr.mono (by decide)) AbO (Aac (Aau (pvN 1 AaZ) rfl) (Aac (Ac3 AaP AfR T.n_len Ack (Aac (Aau (pvN 1 AaZ) rfl) Aaf)) Aaf))) rfl)
    (Aae (AbB (pvN 0 AaS) (Aa6 Aaf) rfl)
    (Aag (AbB (pvN 0 AaS) (Aa6 Aaf) rfl))))))),?_⟩
  walk_at "st"
  refine ⟨pl,a.Plan,pdx,_,_,rfl,hpl,pc.cls,pc.l,rfl,?_⟩
  walk_at "st"
  refine ⟨h,a.Hall,dx,_,rfl,hh,T.hc.cls,T.hc.lo,(Nat.le_of_ble_eq_true rfl),?_⟩
  have nhp:pl≠h:=AaI hpl hh (by intro z; injection z with _ _ e; cases e)
  have x1:AaE [h] H (upd H h (.ins a.Hall dx (AbN "long" (.int long) []))):=fun b o hb e=>(Aah (fun z=>hb (by simp [z]))).trans e
  have z1:∀ b,(upd H h (.ins a.Hall dx (AbN "long" (.int long) []))) b=none→H b=none:=fun b e=>Aai e
  have h1:(upd H h (.ins a.Hall dx (AbN "long" (.int long) []))) h=some (.ins a.Hall dx (AbN "long" (.int long) [])):=Aad
  generalize upd H h (.ins a.Hall dx (AbN "long" (.int long) []))=H1 at x1 z1 h1 ⊢
  have hpl1:=x1 pl _ (by simpa using nhp) hpl
  have hlt1:=x1 lt _ (by simpa using AaI hlt hh (by intro z; cases z)) hlt
  have hgt1:=x1 gt _ (by simpa using AaI hgt hh (by intro z; cases z)) hgt
  walk_at "st"
  refine ⟨pl,a.Plan,pdx,_,_,rfl,hpl1,pc.cls,pc.n,rfl,?_⟩
  walk_at "st"
  refine ⟨lt,_,rfl,.of hlt1,fun D nD=>?_⟩
  refine Akm (xs:=zs.map V.str) (fun i σ H2=>∃ x y las,σ=[x,y]∧AqS a H1 H2 D zs i las) ⟨none,none,[],rfl,⟨(Aav.refl H1).upd nD,rfl,(by rw [List.zip_nil_right]; exact Aad),fun j la z hj=>by simp at hj,by simp,by simp,by simp⟩⟩ (fun i σ H2 _ ⟨_,_,_,_,m⟩=>.of (m.s _ _ hlt1)) ?_ ?_
  ·rintro i x t σ H2 hx ⟨x0,y0,las,rfl,m⟩ nt
   rw [List.getElem?_map] at hx
   obtain ⟨z,hz,rfl⟩:=Option.map_eq_some_iff.mp hx
   have s3:=(Aav.refl H2).upd (o:=.tup [.int i,.str z]) nt
   have n3:∀ b,(upd H2 t (.tup [.int i,.str z])) b=none→H2 b=none:=fun b e=>Aai e
   have e3:(upd H2 t (.tup [.int i,.str z])) t=some (.tup [.int i,.str z]):=Aad
   generalize upd H2 t (.tup [.int i,.str z])=H3 at s3 n3 e3 ⊢
   walk_at "st"
   refine ⟨t,_,rfl,.of e3,rfl,?_⟩
   walk_at "st"
   intro x dx' nx ndx nxd
   refine ⟨x,dx',z,i,rfl,Aad,fun l nl=>⟨rfl,?_⟩⟩
   have nl3:H3 l=none:=Aai (Aai nl)
   have lx:l≠x:=fun e=>by rw [e,Aad] at nl; cases nl
   have sC:Aav H3 (upd (upd (upd (upd H3 dx' (.own x)) x (.ins a.Line dx' [])) l (.lst [])) x (.ins a.Line dx' (Ac7 z i l "rests" "" 0 .non .non))):=fun b o e=>by
    rw [Aah (Aaj e nx),Aah (Aaj e nl3),Aah (Aaj e nx),Aah (Aaj e ndx)]; exact e
   have r:=m.push hz nd (fun b o e=>sC _ _ (s3 _ _ e)) (n3 _ nx) (n3 _ nl3) nD (x:=x) (dx:=dx') (l:=l) Aad (by rw [Aah lx,Aad])
   walk_at "st"
   refine ⟨_,.inr z,rfl,sC _ _ (s3 _ _ m.d),?_,_,_,_,rfl,r⟩
   rw [sizeLine_eq,List.length_map,List.length_zip]
   have:=m.len
   have:=(List.getElem?_eq_some_iff.mp hz).1
   omega
  ·rintro σ H2 ⟨x0,y0,las,rfl,m⟩
   rw [List.length_map] at m
   have h2:=m.s _ _ h1
   have hpl2:=m.s _ _ hpl1
   have hlt2:=m.s _ _ hlt1
   have hgt2:=m.s _ _ hgt1
   walk_at "st"
   refine ⟨h,a.Hall,dx,_,rfl,h2,T.hc.cls,T.hc.li,(Nat.le_of_ble_eq_true rfl),?_⟩
   have dh:D≠h:=AaI m.d h2 (by intro z; cases z)
   have md2:Aok a H2 D zs las h:=⟨m.d,m.ln,dh,fun la ml=>⟨fun z=>(by have:=(m.fr la ml).1; rw [z,h1] at this; cases this),fun z=>(by have:=(m.fr la ml).2; rw [z,h1] at this; cases this)⟩⟩
   have z2:∀ b,H2 b=none→H b=none:=fun b e=>z1 b (by
    cases q:H1 b with
    | none=>rfl
    | some o=>rw [m.s _ _ q] at e; cases e)
   have x3:AaE [h] H2 (upd H2 h (.ins a.Hall dx (AbN "lines" (.ref D) (AbN "long" (.int long) [])))):=AaE.at
   have h3:(upd H2 h (.ins a.Hall dx (AbN "lines" (.ref D) (AbN "long" (.int long) [])))) h=some (.ins a.Hall dx (AbN "lines" (.ref D) (AbN "long" (.int long) []))):=Aad
   have z3:∀ b,(upd H2 h (.ins a.Hall dx (AbN "lines" (.ref D) (AbN "long" (.int long) [])))) b=none→H b=none:=fun b e=>z2 b (Aai e)
   generalize upd H2 h (.ins a.Hall dx (AbN "lines" (.ref D) (AbN "long" (.int long) [])))=H3 at x3 z3 h3 ⊢
   have hpl3:=x3 pl _ (by simpa using nhp) hpl2
   have hlt3:=x3 lt _ (by simpa using AaI hlt hh (by intro z; cases z)) hlt2
   have hgt3:=x3 gt _ (by simpa using AaI hgt hh (by intro z; cases z)) hgt2
   have md3:=md2.keep x3
   have xx3:AaE [h] H H3:=x1.tr ((AaE.of m.s).tr x3)
   walk_at "st"
   refine ⟨pl,a.Plan,pdx,_,_,rfl,hpl3,pc.cls,pc.g,rfl,?_⟩
   refine ⟨gt,rfl,⟨_,.of hgt3⟩,fun G nG=>?_⟩
   refine AmX (xs:=[]) (fun i σ H4=>H4=upd H3 G (.dK [])) rfl (fun i σ H4 _ e=>.of (by rw [e,Aah (Aaj hgt3 nG)]; exact hgt3)) (fun i x σ H' hx=>by simp at hx) ?_
   rintro σ H4 rfl
   have s4:=(Aav.refl H3).upd (o:=.dK []) nG
   have g4:(upd H3 G (.dK [])) G=some (.dK []):=Aad
   have z4:∀ b,(upd H3 G (.dK [])) b=none→H b=none:=fun b e=>z3 b (Aai e)
   generalize upd H3 G (.dK [])=H4 at s4 g4 z4 ⊢
   have h4:=s4 _ _ h3
   have hG:G≠h:=AaI g4 h4 (by intro z; cases z)
   walk_at "st"
   refine ⟨h,a.Hall,dx,_,rfl,h4,T.hc.cls,T.hc.sw,(Nat.le_of_ble_eq_true rfl),?_⟩
   have x5:AaE [h] H4 (upd H4 h (.ins a.Hall dx (AbN "switches" (.ref G) (AbN "lines" (.ref D) (AbN "long" (.int long) []))))):=AaE.at
   have h5:(upd H4 h (.ins a.Hall dx (AbN "switches" (.ref G) (AbN "lines" (.ref D) (AbN "long" (.int long) []))))) h=some (.ins a.Hall dx (AbN "switches" (.ref G) (AbN "lines" (.ref D) (AbN "long" (.int long) [])))):=Aad
   have z5:∀ b,(upd H4 h (.ins a.Hall dx (AbN "switches" (.ref G) (AbN "lines" (.ref D) (AbN "long" (.int long) []))))) b=none→H b=none:=fun b e=>z4 b (Aai e)
   generalize upd H4 h (.ins a.Hall dx (AbN "switches" (.ref G) (AbN "lines" (.ref D) (AbN "long" (.int long) []))))=H5 at x5 h5 z5 ⊢
   have g5:=x5 G _ (by simpa using hG) g4
   have xx5:AaE [h] H3 H5:=(AaE.of s4).tr x5
   have hpl5:=xx5 pl _ (by simpa using nhp) hpl3
   have hlt5:=xx5 lt _ (by simpa using AaI hlt hh (by intro z; cases z)) hlt3
   have md5:=md3.keep xx5
   walk_at "st"
   refine ⟨pl,a.Plan,pdx,_,_,rfl,hpl5,pc.cls,pc.s,rfl,?_⟩
   walk_at "st"
   refine ⟨pl,a.Plan,pdx,_,_,rfl,hpl5,pc.cls,pc.n,rfl,?_⟩
   walk_at "st"
   refine Or.inr ⟨lt,_,rfl,.inr (.of hlt5),?_⟩
   walk_at "st"
   rw [List.length_map]
   intro x dx' nx ndx nxd
   have s6:Aav H5 (upd (upd H5 dx' (.own x)) x (.ins a.Seekers dx' [])):=fun b o e=>by rw [Aah (Aaj e nx),Aah (Aaj e ndx)]; exact e
   have e6:(upd (upd H5 dx' (.own x)) x (.ins a.Seekers dx' [])) x=some (.ins a.Seekers dx' []):=Aad
   have z6:∀ b,(upd (upd H5 dx' (.own x)) x (.ins a.Seekers dx' [])) b=none→H5 b=none:=fun b e=>Aai (Aai e)
   generalize upd (upd H5 dx' (.own x)) x (.ins a.Seekers dx' [])=H6 at s6 e6 z6 ⊢
   refine ⟨x,n,zs.length,a.Seekers,dx',rfl,e6,T.sc,n0,(by omega),fun H7 ra rb rc rs rw x7 k7 na nb nc ns nw=>⟨rfl,?_⟩⟩
   have s7:Aav H5 H7:=fun b o e=>x7 b o (by simpa using Aaj e nx) (s6 _ _ e)
   obtain ⟨kdx,ke⟩:=k7.ins
   have h7:=s7 _ _ h5
   have g7:=s7 _ _ g5
   have md7:=md5.keep (AaE.of s7)
   have z7:∀ b,H7 b=none→H5 b=none:=fun b e=>by
    cases q:H5 b with
    | none=>rfl
    | some o=>rw [s7 _ _ q] at e; cases e
   have hx:x≠h:=fun z=>by rw [z,h5] at nx; cases nx
   walk_at "st"
   refine ⟨h,a.Hall,dx,_,_,rfl,h7,T.hc.cls,T.hc.sw,rfl,?_⟩
   walk_at "st"
   refine ⟨G,_,rfl,.inl ⟨_,.inr "",g7,rfl,(by show 0 < sizeLine; decide),rfl⟩,?_⟩
   have g8:(upd H7 G (.dK (AfX [] (.inr "") (.ref x)))) G=some (.dK (AfX [] (.inr "") (.ref x))):=Aad
   have o8:∀ b o,b≠G→H7 b=some o→(upd H7 G (.dK (AfX [] (.inr "") (.ref x)))) b=some o:=fun b o n e=>(Aah n).trans e
   have z8:∀ b,(upd H7 G (.dK (AfX [] (.inr "") (.ref x)))) b=none→H7 b=none:=fun b e=>Aai e
   generalize upd H7 G (.dK (AfX [] (.inr "") (.ref x)))=H8 at g8 o8 z8 ⊢
   have h8:=o8 _ _ (Ne.symm hG) h7
   walk_at "st"
   refine ⟨(by show 0≤sizeLine; decide),fun qa nqa=>?_⟩
   have s9:=(Aav.refl H8).upd (o:=.lst []) nqa
   have q9:(upd H8 qa (.lst [])) qa=some (.lst []):=Aad
   have z9:∀ b,(upd H8 qa (.lst [])) b=none→H8 b=none:=fun b e=>Aai e
   generalize upd H8 qa (.lst [])=H9 at s9 q9 z9 ⊢
   have h9:=s9 _ _ h8
   have qh:qa≠h:=AaI q9 h9 (by intro z; cases z)
   walk_at "st"
   refine ⟨h,a.Hall,dx,_,rfl,h9,T.hc.cls,T.hc.qu,(Nat.le_of_ble_eq_true rfl),?_⟩
   have x10:AaE [h] H9 (upd H9 h (.ins a.Hall dx (AbN "queue" (.ref qa) (AbN "switches" (.ref G) (AbN "lines" (.ref D) (AbN "long" (.int long) [])))))):=AaE.at
   have h10:(upd H9 h (.ins a.Hall dx (AbN "queue" (.ref qa) (AbN "switches" (.ref G) (AbN "lines" (.ref D) (AbN "long" (.int long) [])))))) h=some (.ins a.Hall dx (AbN "queue" (.ref qa) (AbN "switches" (.ref G) (AbN "lines" (.ref D) (AbN "long" (.int long) []))))):=Aad
   have z10:∀ b,(upd H9 h (.ins a.Hall dx (AbN "queue" (.ref qa) (AbN "switches" (.ref G) (AbN "lines" (.ref D) (AbN "long" (.int long) [])))))) b=none→H9 b=none:=fun b e=>Aai e
   generalize upd H9 h (.ins a.Hall dx (AbN "queue" (.ref qa) (AbN "switches" (.ref G) (AbN "lines" (.ref D) (AbN "long" (.int long) [])))))=H10 at x10 h10 z10 ⊢
   walk_at "st"
   refine ⟨(by show 0≤sizeLine; decide),fun da nda=>?_⟩
   have s11:=(Aav.refl H10).upd (o:=.lst []) nda
   have d11:(upd H10 da (.lst [])) da=some (.lst []):=Aad
   have z11:∀ b,(upd H10 da (.lst [])) b=none→H10 b=none:=fun b e=>Aai e
   generalize upd H10 da (.lst [])=H11 at s11 d11 z11 ⊢
   have h11:=s11 _ _ h10
   have dah:da≠h:=AaI d11 h11 (by intro z; cases z)
   walk_at "st"
   refine ⟨h,a.Hall,dx,_,rfl,h11,T.hc.cls,T.hc.dn,(Nat.le_of_ble_eq_true rfl),?_⟩
   have x12:AaE [h] H11 (upd H11 h (.ins a.Hall dx (AhS long D G qa da))):=AaE.at
   have h12:(upd H11 h (.ins a.Hall dx (AhS long D G qa da))) h=some (.ins a.Hall dx (AhS long D G qa da)):=Aad
   have z12:∀ b,(upd H11 h (.ins a.Hall dx (AhS long D G qa da))) b=none→H11 b=none:=fun b e=>Aai e
   change Q .non (upd H11 h (.ins a.Hall dx (AhS long D G qa da)))
   generalize upd H11 h (.ins a.Hall dx (AhS long D G qa da))=H12 at x12 h12 z12 ⊢
   have xx:AaE [h] H8 H12:=(AaE.of s9).tr (x10.tr ((AaE.of s11).tr x12))
   have zz:∀ b,H12 b=none→H8 b=none:=fun b e=>z9 b (z10 b (z11 b (z12 b e)))
   have y38:AaE [h] H3 H8:=fun b o n e=>o8 b o (Aaj e nG) (s7 _ _ (xx5 b o n e))
   have md12:=(md3.keep y38).keep xx
   have h6:=s6 _ _ h5
   have nG6:∀ {b xs},H7 b=some (.lst xs)→b≠G:=fun e=>AaI e g7 (by intro z; cases z)
   have nh6:∀ {b},H6 b=none→b≠h:=fun e z=>by rw [z,h6] at e; cases e
   have xG:x≠G:=AaI ke g7 (by intro z; cases z)
   have sk12:=k7.keep (H':=H12) fun b o mb e=>by
    simp only [List.mem_cons,List.not_mem_nil,or_false] at mb
    have n:b≠G∧b≠h:=by
     rcases mb with z | z | z | z | z | z
     ·exact ⟨z▸xG,z▸hx⟩
     ·exact ⟨z▸nG6 k7.ha,z▸nh6 na⟩
     ·exact ⟨z▸nG6 k7.hb,z▸nh6 nb⟩
     ·exact ⟨z▸nG6 k7.hc,z▸nh6 nc⟩
     ·exact ⟨z▸nG6 k7.hs_,z▸nh6 ns⟩
     ·exact ⟨z▸nG6 k7.hw,z▸nh6 nw⟩
    exact xx b o (by simpa using n.2) (o8 b o n.1 e)
   have s8n:∀ {b o},H7 b=some o→b≠G→H8 b≠none:=fun e n=>by rw [o8 _ _ n e]; simp
   have old:∀ {lb:LnA},lb∈las→H5 lb.p≠none∧H5 lb.h≠none∧H8 lb.h≠none:=fun {lb} hm=>by
    obtain ⟨j,hj,ej⟩:=List.getElem_of_mem hm
    have hj':las[j]?=some lb:=by rw [List.getElem?_eq_getElem hj,ej]
    have hz':zs[j]?=some (zs[j]'(by have:=m.len; omega)):=List.getElem?_eq_getElem _
    have M:=md5.ln j lb _ hj' hz'
    have M8:=(md3.keep y38).ln j lb _ hj' hz'
    exact ⟨by rw [M.ins]; simp,by rw [M.held]; simp,by rw [M8.held]; simp⟩
   have n5:∀ {b},H6 b=none→H5 b=none:=fun e=>z6 _ e
   have ap:=k7.ap
   have dq:da≠qa:=fun z=>by
    rw [z,x10 _ _ (by simpa using qh) q9] at nda; cases nda
   have nda8:H8 da=none:=z9 _ (z10 _ nda)
   have r8:∀ b∈[ra,rb,rc,rs,rw],H8 b≠none:=fun b mb=>by
    simp only [List.mem_cons,List.not_mem_nil,or_false] at mb
    rcases mb with z | z | z | z | z
    ·rw [z]; exact s8n k7.ha (nG6 k7.ha)
    ·rw [z]; exact s8n k7.hb (nG6 k7.hb)
    ·rw [z]; exact s8n k7.hc (nG6 k7.hc)
    ·rw [z]; exact s8n k7.hs_ (nG6 k7.hs_)
    ·rw [z]; exact s8n k7.hw (nG6 k7.hw)
   have r5:∀ b∈[ra,rb,rc,rs,rw],H5 b=none:=fun b mb=>by
    simp only [List.mem_cons,List.not_mem_nil,or_false] at mb
    rcases mb with z | z | z | z | z
    ·rw [z]; exact n5 na
    ·rw [z]; exact n5 nb
    ·rw [z]; exact n5 nc
    ·rw [z]; exact n5 ns
    ·rw [z]; exact n5 nw
   have zl8:∀ b,H8 b=none→H b=none:=fun b e=>z5 b (z7 b (z8 b e))
   refine q H12 ⟨h,dx,D,G,qa,da,x,ra,rb,rc,rs,rw,las,[]⟩ rfl ⟨h12,md12.d,xx G _ (by simpa using hG) g8,rfl,(x12 _ _ (by simpa using qh) (s11 _ _ (x10 _ _ (by simpa using qh) q9))),x12 _ _ (by simpa using dah) d11,sk12,by rw [m.len]; exact (List.length_map ..).symm,?_,?_,m.np,?_,?_⟩ (xx3.tr (y38.tr xx)) ?_ fun b e=>zl8 b (zz b e)
   ·intro j la ln hj hl
    have hl:(zs.map ln0)[j]?=some ln:=hl
    rw [List.getElem?_map] at hl
    obtain ⟨z,hz,rfl⟩:=Option.map_eq_some_iff.mp hl
    exact md12.ln j la z hj hz
   ·show ((zs.map ln0).map _).Nodup
    rw [List.map_map]
    have:(List.map ((fun x:LnS=>x.num)∘ln0) zs)=zs:=by
     rw [show ((fun x:LnS=>x.num)∘ln0)=id from rfl,List.map_id]
    rw [this]; exact nd
   ·show ([qa,da,ra,rb,rc,rs,rw]++las.map (·.h)).Nodup
    refine List.nodup_cons.mpr ⟨fun mm=>?_,List.nodup_cons.mpr ⟨fun mm=>?_,List.nodup_append.mpr ⟨ap,m.nh,fun u hu v hv e=>?_⟩⟩⟩
    ·rcases List.mem_cons.mp mm with z | mm
     ·exact dq z.symm
     ·rcases List.mem_append.mp mm with mm | mm
      ·exact r8 _ mm nqa
      ·obtain ⟨lb,mb,eb⟩:=List.mem_map.mp mm
       exact (old mb).2.2 (by rw [eb]; exact nqa)
    ·rcases List.mem_append.mp mm with mm | mm
     ·exact r8 _ mm nda8
     ·obtain ⟨lb,mb,eb⟩:=List.mem_map.mp mm
      exact (old mb).2.2 (by rw [eb]; exact nda8)
    ·obtain ⟨lb,mb,eb⟩:=List.mem_map.mp hv
     exact (old mb).2.1 (by rw [eb,← e]; exact r5 u hu)
   ·refine ⟨fun mm=>?_,fun mm=>?_,Ne.symm hx⟩
    ·obtain ⟨lb,mb,eb⟩:=List.mem_map.mp mm
     exact (md3.ne lb mb).1 eb
    ·obtain ⟨lb,mb,eb⟩:=List.mem_map.mp mm
     exact (old mb).1 (by rw [eb]; exact nx)
   ·intro b mb
    rcases List.mem_cons.mp mb with z | mb
    ·rw [z]; exact z5 _ nx
    ·rcases List.mem_append.mp mb with mb | mb
     ·have mb:b∈[qa,da,ra,rb,rc,rs,rw]:=mb
      rcases List.mem_cons.mp mb with z | mb
      ·rw [z]; exact zl8 _ nqa
      ·rcases List.mem_cons.mp mb with z | mb
       ·rw [z]; exact zl8 _ nda8
       ·exact z5 _ (r5 b mb)
     ·rcases List.mem_append.mp mb with mb | mb
      ·obtain ⟨lb,ml,eb⟩:=List.mem_map.mp mb
       rw [← eb]; exact z1 _ (m.fr lb ml).1
      ·obtain ⟨lb,ml,eb⟩:=List.mem_map.mp mb
       rw [← eb]; exact z1 _ (m.fr lb ml).2
end
local macro_rules | `(tactic| walk_at "st")=>`(tactic| repeat (first
 | refine ⟨_,rfl,?_⟩
 | refine ⟨_,_,rfl,rfl,?_⟩
 | refine ⟨_,_,rfl,?_⟩
 | refine Or.inl ⟨_,_,rfl,rfl,?_⟩
 | refine Or.inl ⟨rfl,?_⟩
 | refine ⟨rfl,?_⟩
 | refine Or.inl ⟨_,_,_,_,rfl,rfl,.of (by assumption),rfl,?_⟩
 | (refine And.intro (show Aeq _ _ from ?_) ?_; (first | exact Or.inr ⟨by omega,by omega⟩ | exact Or.inl ⟨by omega,by omega⟩))
 | (refine And.intro (show Ae4 _ _ from ?_) ?_; exact ⟨by omega,by omega⟩)
 | (refine And.intro (show (0:Int) < _ from ?_) ?_; first | decide | omega)))
section
variable {P:Program} {w:World} {K:PySem.W.Frag} {mg:Str→Option Value} {base:Heap} {a:Adr}
theorem AhW:Aat ["holders","stuck","paper","k","who"] ["holders","stuck"] (Aaa (top 17)):=⟨rfl,rfl,rfl,by decide +kernel,rfl,by decide +kernel,by decide +kernel⟩
theorem Agg:Nm (Aaa (top 17)) "holders":=by walk_at "k"
theorem AgQ:Nm (Aaa (top 17)) "stuck":=by walk_at "k"
theorem Ach:Nm (Aaa (top 17)) "paper":=by walk_at "k"
theorem Agz:Nm (Aaa (top 17)) "k":=by walk_at "k"
theorem AdU:Nm (Aaa (top 17)) "who":=by walk_at "k"
theorem AgR:Gm (Aaa (top 17)) "tuple":=by walk_at "k"
theorem Afx:Gm (Aaa (top 17)) "enumerate":=by walk_at "k"
theorem AkB {f:Addr} {fd:FuncData} (F:Fun K "paper_of" "paper_of" (top 17) f fd) (T:TxtS K mg a):Aco P w K mg base CX0 1 f fd ["holders","stuck"] (AhQ K):=by
 refine F.ok AhW (fun vs H Q E h=>?_) (fun cdv A outer s H vs Q E hr h=>?_)
 ·obtain ⟨h,s,hs,ks,rfl,_⟩:=h
  rfl
 ·obtain ⟨h,st,hs,ks,rfl,hh,hst,hz,q⟩:=h
  have nd:=AhW.nd
  refine ⟨_,(@Aae _ _ _ _ _ (Abb 2 nd Ach (Aa6 Aaf))
    (Aae (Ae3 PassesOwn.never rfl (Aml Afx T.n_enumerate (Aac (pvN 0 Agg) Aaf)) (Ajb rfl (AbD (AcB 3 nd Agz) (AbD (AcB 4 nd AdU) Afk))) (Aag (AbC (AaB Al0 (pvN 4 AdU) AcQ (AaY _)) (Aag (AaN (Aer PySem.F.plainAttrs_list PySem.F.slot_list_append PySem.F.type_list_append AbF (pvN 2 Ach) (Aac (pvN 4 AdU) Aaf)))) (Aag (AaN (Aer PySem.F.plainAttrs_list PySem.F.slot_list_append PySem.F.type_list_append AbF (pvN 2 Ach) (Aac (AkP (AaB Aif (pvN 3 Agz) (pvN 1 AgQ) (by with_unfolding_all rfl)) Aak Aak) Aaf)))))))
    (Aag (AaL (Afa AdA AgR T.n_tuple Ahg (Aac (pvN 2 Ach) Aaf)))))),?_⟩
  walk_at "st"
  refine ⟨(by show 0≤sizeLine; decide),fun l hl=>?_⟩
  have s1:=(Aav.refl H).upd (o:=.lst []) hl
  walk_at "st"
  refine ⟨h,hs,rfl,.of (s1 _ _ hh),AnR (K:=K) (a:=h) (xs:=hs) (fun i σ H'=>∃ x y,σ=[some (.ref h),some (.ref st),some (.ref l),x,y]∧Aav H H'∧H' l=some (.lst (Afo hs (fun k=>decide ((k:Int)∈ks)) i))) ⟨none,none,rfl,s1,Aad⟩ (fun i σ H' _ ⟨_,_,_,sm,_⟩=>.of (sm _ _ hh)) ?_ ?_⟩
  ·rintro i x t σ H' hi ⟨x0,x1,rfl,sm,hL⟩ ht
   have eg:hs.getD i .non=x:=by rw [List.getD,hi]; rfl
   have ilt:i < hs.length:=(List.getElem?_eq_some_iff.mp hi).1
   refine ⟨t,_,rfl,.of Aad,rfl,?_⟩
   walk_at "st"
   have hL2:=((Aav.refl H').upd (o:=.tup [.int i,x]) ht) l _ hL
   have sm2:=sm.upd (o:=.tup [.int i,x]) ht
   have hlen:(Afo hs (fun k=>decide ((k:Int)∈ks)) i).length=i:=by unfold Afo; rw [List.length_map,List.length_range]
   by_cases hx:x=.non
   ·rw [decide_eq_true hx]
    refine AgH ?_
    walk_at "st"
    refine ⟨.inl ⟨rfl,_,.of hL2⟩,?_⟩
    walk_at "st"
    refine Or.inr ⟨st,ks.map V.int,rfl,.inl (.of (sm2 _ _ hst)),rfl,Aob ks,?_⟩
    simp only [Bool.false_eq_true,if_false]
    rw [ApA]
    have fin:∀ v,v=(if (decide ((i:Int)∈ks))=true then V.str "stuck" else V.str "free")→Aav H (upd (upd H' t (.tup [.int i,x])) l (.lst (Afo hs (fun k=>decide ((k:Int)∈ks)) i++[v])))∧(upd (upd H' t (.tup [.int i,x])) l (.lst (Afo hs (fun k=>decide ((k:Int)∈ks)) i++[v]))) l=some (.lst (Afo hs (fun k=>decide ((k:Int)∈ks)) (i + 1))):=fun v hv=>by
     refine ⟨sm2.updN hl,?_⟩
     rw [Aad,AhP,eg,if_pos hx,hv]
    by_cases hk:(i:Int)∈ks
    ·rw [decide_eq_true hk] at fin ⊢
     walk_at "st"
     refine AgI ?_
     walk_at "st"
     refine ⟨l,_,_,rfl,rfl,hL2,(by rw [hlen,sizeLine_eq]; omega),?_⟩
     obtain ⟨z1,z2⟩:=fin _ rfl
     exact ⟨_,_,rfl,z1,z2⟩
    ·rw [decide_eq_false hk] at fin ⊢
     walk_at "st"
     refine AgH ?_
     walk_at "st"
     refine ⟨l,_,_,rfl,rfl,hL2,(by rw [hlen,sizeLine_eq]; omega),?_⟩
     obtain ⟨z1,z2⟩:=fin _ rfl
     exact ⟨_,_,rfl,z1,z2⟩
   ·rw [decide_eq_false hx]
    refine AgI ?_
    walk_at "st"
    refine ⟨.inl ⟨rfl,_,.of hL2⟩,?_⟩
    walk_at "st"
    refine ⟨l,_,_,rfl,rfl,hL2,(by rw [hlen,sizeLine_eq]; omega),?_⟩
    refine ⟨_,_,rfl,sm2.updN hl,?_⟩
    rw [Aad,AhP,eg,if_neg hx]
  ·rintro σ H' ⟨x0,x1,rfl,sm,hL⟩
   walk_at "st"
   refine ⟨l,_,rfl,.inl ⟨.of hL,fun t ht=>?_⟩⟩
   exact q _ t (sm.upd ht) (sm.free ht) Aad
end
local macro_rules | `(tactic| walk_at "st")=>`(tactic| repeat (first
 | refine ⟨_,rfl,?_⟩
 | refine ⟨_,_,rfl,rfl,?_⟩
 | refine ⟨_,_,rfl,?_⟩
 | refine Or.inl ⟨_,_,rfl,rfl,?_⟩
 | refine Or.inl ⟨rfl,?_⟩
 | refine ⟨rfl,?_⟩
 | refine Or.inl ⟨_,_,_,_,rfl,rfl,.of (by assumption),rfl,?_⟩
 | (refine And.intro (show Aeq _ _ from ?_) ?_; (first | exact Or.inr ⟨by omega,by omega⟩ | exact Or.inl ⟨by omega,by omega⟩))
 | (refine And.intro (show Ae4 _ _ from ?_) ?_; exact ⟨by omega,by omega⟩)
 | (refine And.intro (show (0:Int) < _ from ?_) ?_; first | decide | omega)))
def Ad1 (S:Aap):V→V
 | .int i=>match S.lns[i.toNat]? with
  | none=>.non
  | some ln=>.str ln.num
 | _=>.non
def AlN (S:Aap):Prop:=∀ v∈S.hs,v=.non∨∃ i:Nat,v=.int i∧i < S.lns.length
def Af0 (S:Aap):List V:=Afo (S.hs.map (Ad1 S)) (fun k=>decide ((k:Int)∈Afn S.js S.js.length)) S.hs.length
def AkC (K:PySem.W.Frag) (a:Adr):Sp:=fun vs H Q _=>∃ (A:Aan) (S:Aap),vs=[.ref A.h,.str ""]∧Aaw K a H A S∧AlN S∧∀ H' t,Aav H H'→H t=none→H' t=some (.tup (Af0 S))→Q (.ref t) H'
def AhX (K:PySem.W.Frag) (a:Adr):Sp:=fun vs H Q _=>∃ (A:Aan) (S:Aap),vs=[.ref A.h,.str ""]∧Aaw K a H A S∧∀ l,H l=none→Q (.ref l) (upd H l (.lst (S.ts.map V.int)))
def Ai0 (K:PySem.W.Frag) (a:Adr):Sp:=fun vs H Q _=>∃ (A:Aan) (S:Aap),vs=[.ref A.h]∧Aaw K a H A S∧∀ l,H l=none→Q (.ref l) (upd H l (.lst (S.wt.map V.int)))
def AgS (K:PySem.W.Frag) (a:Adr):Sp:=fun vs H Q _=>∃ (A:Aan) (S:Aap),vs=[.ref A.h]∧Aaw K a H A S∧∀ l,H l=none→Q (.ref l) (upd H l (.lst (S.q.map V.str)))
theorem Ait:∀ {lns:List LnS} {las:List LnA},las.length=lns.length→(((lns.zip las).map fun x=>((Sum.inr x.1.num:Key),V.ref x.2.p)).map fun kv=>kV kv.1)=lns.map fun ln=>V.str ln.num
 | [],[],_=>rfl
 | [],_ :: _,h=>by simp at h
 | _ :: _,[],h=>by simp at h
 | ln :: lns,la :: las,h=>by
  exact congrArg (V.str ln.num :: ·) (Ait (lns:=lns) (las:=las) (by simpa using h))
section
variable {P:Program} {w:World} {K:PySem.W.Frag} {mg:Str→Option Value} {base:Heap} {a:Adr}
theorem Ah9:Aat ["self","where"] ["self","where"] (Aaa (Aab (top 27) 24)):=⟨rfl,rfl,rfl,by decide +kernel,rfl,by decide +kernel,by decide +kernel⟩
theorem Agh:Nm (Aaa (Aab (top 27) 24)) "self":=by walk_at "k"
theorem AfS:Nm (Aaa (Aab (top 27) 24)) "where":=by walk_at "k"
theorem AlK {f:Addr} {fd:FuncData} (F:Fun K "shares" "Hall.shares" (Aab (top 27) 24) f fd) (T:TxtH P w K mg a) (D_switches_of:AaJ P w K mg base (CXE P w) 1 a.Hall "switches_of" ["self","where"] (AjI K a)) (D_shares:AaJ P w K mg base CX0 1 a.Seekers "shares" ["self"] (AiV K a)):Aco P w K mg base (CXE P w) 2 f fd ["self","where"] (AhX K a):=by
 refine F.okX Ah9 (fun vs H Q E h=>?_) (fun cdv A outer s H vs Q E hr h=>?_)
 ·obtain ⟨A,S,rfl,_⟩:=h
  rfl
 ·obtain ⟨A',S,rfl,t,q⟩:=h
  have cls_shares:=T.sc.c.cls
  have cls_switches_of:=T.hc.cls
  obtain ⟨sdx,se⟩:=t.sek.ins
  have F3:=Ag2 A'.ra A'.rb A'.rc S.places A'.rs A'.rw S.mark
  refine ⟨_,(@Aag _ _ _ (AaL (AhE D_shares cls_shares (AcC D_switches_of cls_switches_of (pvN 0 Agh) (hr.mono (by decide)) Abu (Aac (pvN 1 AfS) Aaf)) (hr.mono (by decide)) AbO))),?_⟩
  walk_at "st"
  refine ⟨A'.h,A'.dx,_,rfl,t.hall,rfl,?_⟩
  walk_at "st"
  refine ⟨A',S,rfl,t,?_⟩
  walk_at "st"
  refine ⟨A'.sk,sdx,_,rfl,se,F3.m _ (by decide),?_⟩
  exact ⟨A'.sk,a.Seekers,A'.ra,A'.rb,A'.rc,_,_,_,rfl,t.sek.r,fun l nl=>q l nl⟩
theorem AhY:Aat ["self"] ["self"] (Aaa (Aab (top 27) 25)):=⟨rfl,rfl,rfl,by decide +kernel,rfl,by decide +kernel,by decide +kernel⟩
theorem AfT:Nm (Aaa (Aab (top 27) 25)) "self":=by walk_at "k"
theorem AfU:Gm (Aaa (Aab (top 27) 25)) "list":=by walk_at "k"
theorem AkD {f:Addr} {fd:FuncData} (F:Fun K "waiting" "Hall.waiting" (Aab (top 27) 25) f fd) (T:TxtH P w K mg a):Aco P w K mg base CX0 1 f fd ["self"] (AgS K a):=by
 refine F.ok AhY (fun vs H Q E h=>?_) (fun cdv A outer s H vs Q E hr h=>?_)
 ·obtain ⟨A,S,rfl,_⟩:=h
  rfl
 ·obtain ⟨A',S,rfl,t,q⟩:=h
  refine ⟨_,(@Aag _ _ _ (AaL (Afa (Ac4 rfl) AfU T.n_list Afm (Aac (Aau (pvN 0 AfT) rfl) Aaf)))),?_⟩
  walk_at "st"
  refine ⟨A'.h,a.Hall,A'.dx,_,_,rfl,t.hall,T.hc.cls,T.hc.qu,rfl,?_⟩
  walk_at "st"
  exact .inl ⟨A'.qa,_,rfl,.inl (.of t.q),fun l nl=>q l nl⟩
theorem Ai1:Aat ["self"] ["self"] (Aaa (Aab (top 27) 26)):=⟨rfl,rfl,rfl,by decide +kernel,rfl,by decide +kernel,by decide +kernel⟩
theorem AgA:Nm (Aaa (Aab (top 27) 26)) "self":=by walk_at "k"
theorem AeF:Gm (Aaa (Aab (top 27) 26)) "AT_SEEKERS":=by walk_at "k"
theorem Ane {f:Addr} {fd:FuncData} (F:Fun K "steps" "Hall.steps" (Aab (top 27) 26) f fd) (T:TxtH P w K mg a) (D_steps:AaJ P w K mg base CX0 1 a.Seekers "steps" ["self"] (Aks K a)):Aco P w K mg base CX0 2 f fd ["self"] (Ai0 K a):=by
 refine F.ok Ai1 (fun vs H Q E h=>?_) (fun cdv A outer s H vs Q E hr h=>?_)
 ·obtain ⟨A,S,rfl,_⟩:=h
  rfl
 ·obtain ⟨A',S,rfl,t,q⟩:=h
  have cls_steps:=T.sc.c.cls
  obtain ⟨sdx,se⟩:=t.sek.ins
  have F3:=Ag2 A'.ra A'.rb A'.rc S.places A'.rs A'.rw S.mark
  refine ⟨_,(@Aag _ _ _ (AaL (AhE D_steps cls_steps (Agr (P:=P) (w:=w) (K:=K) (Aau (pvN 0 AgA) rfl) (Ain AeF T.g_AT_SEEKERS) (fun _ _=>rfl)) (hr.mono (by decide)) AbO))),?_⟩
  walk_at "st"
  refine ⟨A'.h,a.Hall,A'.dx,_,_,rfl,t.hall,T.hc.cls,T.hc.sw,rfl,?_⟩
  walk_at "st"
  refine ⟨A'.sd,_,.inr "",_,rfl,rfl,.of t.sd,t.skv,?_⟩
  walk_at "st"
  refine ⟨A'.sk,sdx,_,rfl,se,rfl,?_⟩
  exact ⟨A'.sk,a.Seekers,A'.ra,A'.rb,A'.rc,A'.rs,A'.rw,_,_,_,_,_,_,_,rfl,t.sek,fun l nl=>q l nl⟩
theorem AgB:Aat ["self","where","switches","holders","numbers"] ["self","where"] (Aaa (Aab (top 27) 23)):=⟨rfl,rfl,rfl,by decide +kernel,rfl,by decide +kernel,by decide +kernel⟩
theorem Aee:Nm (Aaa (Aab (top 27) 23)) "self":=by walk_at "k"
theorem AdV:Nm (Aaa (Aab (top 27) 23)) "where":=by walk_at "k"
theorem AbZ:Nm (Aaa (Aab (top 27) 23)) "switches":=by walk_at "k"
theorem Abs:Nm (Aaa (Aab (top 27) 23)) "holders":=by walk_at "k"
theorem Afy:NmC (Aaa (Aab (top 27) 23)) "numbers":=by walk_at "k"
theorem Afh:Gm (Aaa (Aab (top 27) 23)) "paper_of":=by walk_at "k"
theorem AeG:Gm (Aaa (Aab (top 27) 23)) "AT_SEEKERS":=by walk_at "k"
theorem AgC:Gm (Aaa (Aab (top 27) 23)) "list":=by walk_at "k"
def Adt:Scope:={ kind:=.function,names:=[(".0",.local),("place",.local),("numbers",.free)],isGenerator:=false,isCoroutine:=false,more:=[] }
theorem Afz:Abc Adt (Aaa (Aab (top 27) 23)) ["place","numbers"] ["self","where","switches","holders","numbers"] [none,some 4]:=Abc.mk' rfl (by decide +kernel) (by decide +kernel) (by decide +kernel) (by decide +kernel) rfl (by decide +kernel)
theorem Ab0:Nm Adt "place":=by walk_at "k"
theorem AeH:NmR Adt "numbers":=by walk_at "k"
theorem Anf {f:Addr} {fd:FuncData} (F:Fun K "paper" "Hall.paper" (Aab (top 27) 23) f fd) (T:TxtH P w K mg a) (D_switches_of:AaJ P w K mg base (CXE P w) 1 a.Hall "switches_of" ["self","where"] (AjI K a)) (D_holders:AaJ P w K mg base CX0 1 a.Seekers "holders" ["self"] (AhM K a)) (D_stuck:AaJ P w K mg base CX0 1 a.Seekers "stuck" ["self"] (Akq K a)) (D_paper_of:AgG P w K mg base CX0 1 "paper_of" ["holders","stuck"] (AhQ K)):Aco P w K mg base (CXE P w) 2 f fd ["self","where"] (AkC K a):=by
 refine F.okX AgB (fun vs H Q E h=>?_) (fun cdv A outer s H vs Q E hr h=>?_)
 ·obtain ⟨A,S,rfl,_⟩:=h
  rfl
 ·obtain ⟨A',S,rfl,t,ho,q⟩:=h
  have cls_holders:=T.sc.c.cls
  have cls_stuck:=T.sc.c.cls
  have cls_switches_of:=T.hc.cls
  have hu:=hr.units
  have nd:=AgB.nd
  obtain ⟨sdx,se⟩:=t.sek.ins
  have F3:=Ag2 A'.ra A'.rb A'.rc S.places A'.rs A'.rw S.mark
  refine ⟨_,(@Aae _ _ _ _ _ (Abb 2 nd AbZ (AcC D_switches_of cls_switches_of (pvN 0 Aee) (hr.mono (by decide)) Abu (Aac (pvN 1 AdV) Aaf)))
    (Aae (Abb 3 nd Abs (AhE D_holders cls_holders (pvN 2 AbZ) (hr.mono (by decide)) AbO))
    (Aae (AbC (AaB (Aea hu) (pvN 1 AdV) (Ain AeG T.g_AT_SEEKERS) (AaY _)) (Aae (Amq 4 nd Afy (Afa (AlD rfl) AgC T.n_list Afm (Aac (Aau (pvN 0 Aee) rfl) Aaf)))
     (Aag (Aj4 (j:=3) rfl nd rfl (Or.inl Abs.loc) Afz (Aeh (pvN 3 Abs)) (fun cl C fp pins s₂ H₂=>(AcB 0 Afz.nd Ab0.comp)) (fun cl C fp pins s₂ H₂=>Af5) (fun cl C fp pins s₂ H₂=>(AkP (AaB Aic (pvN 0 Ab0.comp) AcQ (AaY _)) AcQ (Abt (AiO K rfl) (pvF 1 AeH.comp) (pvN 0 Ab0.comp) (fun _ _=>rfl)))) (by rfl) (by intro _; rfl) (Or.inl rfl)))) AaF)
    (Aag (AaL (Ad2 D_paper_of Afh (hr.mono (by decide)) AbO (Aac (pvN 3 Abs) (Aac (AhE D_stuck cls_stuck (pvN 2 AbZ) (hr.mono (by decide)) AbO) Aaf)))))))),?_⟩
  walk_at "st"
  refine ⟨A'.h,A'.dx,_,rfl,t.hall,rfl,?_⟩
  walk_at "st"
  refine ⟨A',S,rfl,t,?_⟩
  walk_at "st"
  refine ⟨A'.sk,sdx,_,rfl,se,F3.m _ (by decide),?_⟩
  refine ⟨A'.sk,a.Seekers,A'.ra,A'.rb,A'.rc,_,_,_,rfl,t.sek.r,fun l nl=>?_⟩
  have s1:=(Aav.refl H).upd (o:=.lst S.hs) nl
  have e1:(upd H l (.lst S.hs)) l=some (.lst S.hs):=Aad
  have z1:∀ b,(upd H l (.lst S.hs)) b=none→H b=none:=fun b e=>Aai e
  generalize upd H l (.lst S.hs)=H1 at s1 e1 z1 ⊢
  have t1:=t.same s1
  walk_at "st"
  refine ⟨A'.h,a.Hall,A'.dx,_,_,rfl,t1.hall,T.hc.cls,T.hc.li,rfl,?_⟩
  walk_at "st"
  refine ⟨A'.ld,_,rfl,.of t1.ld,fun nm nnm=>?_⟩
  rw [Ait t1.len]
  have s2:=(Aav.refl H1).upd (o:=.lst (S.lns.map fun ln=>V.str ln.num)) nnm
  have e2:(upd H1 nm (.lst (S.lns.map fun ln=>V.str ln.num))) nm=some (.lst (S.lns.map fun ln=>V.str ln.num)):=Aad
  have z2:∀ b,(upd H1 nm (.lst (S.lns.map fun ln=>V.str ln.num))) b=none→H1 b=none:=fun b e=>Aai e
  generalize upd H1 nm (.lst (S.lns.map fun ln=>V.str ln.num))=H2 at s2 e2 z2 ⊢
  have e1':=s2 _ _ e1
  walk_at "st"
  refine ⟨⟨_,.of e1'⟩,fun D nD=>?_⟩
  refine Ajw (K:=K) (a:=l) (xs:=S.hs) (fun i σ H3=>∃ x,σ=[x,some (.ref nm)]∧Aav H2 H3∧H3 D=some (.lst ((S.hs.take i).map (Ad1 S)))) ⟨none,rfl,(Aav.refl H2).upd nD,Aad⟩ (fun i σ H3 _ ⟨_,_,sm,_⟩=>.of (sm _ _ e1')) ?_ ?_
  ·rintro i x σ H3 hi ⟨x0,rfl,sm,hL⟩
   have et:S.hs.take (i + 1)=S.hs.take i++[x]:=by rw [List.take_add_one,hi]; rfl
   have len:((S.hs.take i).map (Ad1 S)).length < sizeLine:=by
    rw [List.length_map,List.length_take,sizeLine_eq]
    have:=t.sek.z
    omega
   rcases ho x (List.mem_of_getElem? hi) with rfl | ⟨j,rfl,jl⟩
   ·walk_at "st"
    refine ⟨_,hL,len,_,rfl,sm.updN nD,?_⟩
    rw [Aad,et,List.map_append]; rfl
   ·have hj:S.lns[j]?=some S.lns[j]:=List.getElem?_eq_getElem jl
    have ej:Ad1 S (.int j)=.str S.lns[j].num:=by
     show (match S.lns[((j:Nat):Int).toNat]? with | none=>V.non | some ln=>.str ln.num)=_
     rw [Int.toNat_natCast,hj]
    walk_at "st"
    refine Or.inl ⟨nm,_,_,_,rfl,rfl,.of (sm _ _ e2),Ac2 (j:=j) (by rw [List.getElem?_map,hj]; rfl),?_⟩
    refine ⟨_,hL,len,_,rfl,sm.updN nD,?_⟩
    rw [Aad,et,List.map_append]
    show some (HO.lst (_++[_]))=some (HO.lst (_++[Ad1 S (.int j)]))
    rw [ej]
  ·rintro σ H3 ⟨x0,rfl,sm,hL⟩
   rw [List.take_length] at hL
   have t3:=(t1.same s2).same sm
   obtain ⟨sdx3,se3⟩:=t3.sek.ins
   walk_at "st"
   refine ⟨A'.sk,sdx3,_,rfl,se3,F3.m _ (by decide),?_⟩
   refine ⟨A'.sk,a.Seekers,A'.ra,A'.rb,A'.rc,_,_,_,rfl,t3.sek.r,fun H4 r s4 nr e4=>?_⟩
   walk_at "st"
   refine ⟨D,r,_,_,rfl,s4 _ _ hL,e4,(by rw [List.length_map]; exact t.sek.z),fun H5 tt s5 nt e5=>?_⟩
   walk_at "st"
   rw [List.length_map] at e5
   have sAll:Aav H H4:=fun b o e=>s4 _ _ (sm _ _ (s2 _ _ (s1 _ _ e)))
   refine q H5 tt (fun b o e=>s5 _ _ (sAll _ _ e)) ?_ e5
   cases hh:H tt with
   | none=>rfl
   | some o=>rw [sAll _ _ hh] at nt; cases nt
end
local macro_rules | `(tactic| walk_at "st")=>`(tactic| repeat (first
 | refine ⟨_,rfl,?_⟩
 | refine ⟨_,_,rfl,rfl,?_⟩
 | refine ⟨_,_,rfl,?_⟩
 | refine Or.inl ⟨_,_,rfl,rfl,?_⟩
 | refine Or.inl ⟨rfl,?_⟩
 | refine ⟨rfl,?_⟩
 | refine Or.inl ⟨_,_,_,_,rfl,rfl,.of (by assumption),rfl,?_⟩
 | (refine And.intro (show Aeq _ _ from ?_) ?_; (first | exact Or.inr ⟨by omega,by omega⟩ | exact Or.inl ⟨by omega,by omega⟩))
 | (refine And.intro (show Ae4 _ _ from ?_) ?_; exact ⟨by omega,by omega⟩)
 | (refine And.intro (show (0:Int) < _ from ?_) ?_; first | decide | omega)))
def AkE:Sp:=fun vs H Q _=>∃ (p:Addr) (ds:List Int) (many:Nat),vs=[.ref p,.int many]∧H p=some (.lst (ds.map V.int))∧0 < ds.length∧ds.length≤100∧(∀ v∈ds,0≤v∧v < 1000000000)∧many≤100 ∧
 ∀ (r:Addr) (ord:List Int) (H':Hp),Aav H H'→H r=none→H' r=some (.lst (ord.map V.int))→ord.Perm (AaM 0 many)→Q (.ref r) H'
theorem AjM {α β:Type} {f:α→β}:∀ {l:List α} {i:Nat},(l.map f).eraseIdx i=(l.eraseIdx i).map f
 | [],_=>rfl
 | _ :: _,0=>rfl
 | x :: l,i + 1=>congrArg (f x :: ·) (AjM (l:=l) (i:=i))
theorem Aiu {α:Type}:∀ {l:List α} {i:Nat} (h:i < l.length),(l[i] :: l.eraseIdx i).Perm l
 | [],_,h=>by simp at h
 | _ :: _,0,_=>.refl _
 | x :: l,i + 1,h=>(List.Perm.swap x _ _).trans (.cons x (Aiu (l:=l) (i:=i) (by simpa using h)))
section
variable {P:Program} {w:World} {K:PySem.W.Frag} {mg:Str→Option Value} {base:Heap} {a:Adr}
theorem Ag6:Aat ["draws","many","left","found","k","draw"] ["draws","many"] (Aaa (top 42)):=⟨rfl,rfl,rfl,by decide +kernel,rfl,by decide +kernel,by decide +kernel⟩
theorem AcN:Nm (Aaa (top 42)) "draws":=by walk_at "k"
theorem AeI:Nm (Aaa (top 42)) "many":=by walk_at "k"
theorem Adb:Nm (Aaa (top 42)) "left":=by walk_at "k"
theorem AcO:Nm (Aaa (top 42)) "found":=by walk_at "k"
theorem Aeo:Nm (Aaa (top 42)) "k":=by walk_at "k"
theorem AeJ:Nm (Aaa (top 42)) "draw":=by walk_at "k"
theorem Aef:Gm (Aaa (top 42)) "range":=by walk_at "k"
theorem Adu:Gm (Aaa (top 42)) "len":=by walk_at "k"
theorem AgT:Gm (Aaa (top 42)) "list":=by walk_at "k"
theorem Aom {f:Addr} {fd:FuncData} (F:Fun K "_law_order" "_law_order" (top 42) f fd) (T:TxtH P w K mg a):Aco P w K mg base CX0 1 f fd ["draws","many"] AkE:=by
 refine F.ok Ag6 (fun vs H Q E h=>?_) (fun cdv A outer s H vs Q E hr h=>?_)
 ·obtain ⟨p,ds,many,rfl,_⟩:=h
  rfl
 ·obtain ⟨p,ds,many,rfl,hp,d0,d1,dv,m1,q⟩:=h
  have hu:=hr.units
  have nd:=Ag6.nd
  refine ⟨_,(@Aae _ _ _ _ _ (Abb 2 nd Adb (Afa (Ac4 rfl) AgT T.n_list Afm (Aac (Afa Af6 Aef T.n_range AiN (Aac (pvN 1 AeI) Aaf)) Aaf)))
    (Aae (Abb 3 nd AcO (Aa6 Aaf))
    (Aae (Ae3 PassesOwn.never rfl (Ami Aef T.n_range (Aac (pvN 1 AeI) Aaf)) (AcB 4 nd Aeo) (Aae (Abb 5 nd AeJ (AaD Ahr (Abt AaT (pvN 0 AcN) (AaD Ab1 (pvN 4 Aeo) (Ac3 AaP Adu T.n_len Ack (Aac (pvN 0 AcN) Aaf))) (fun _ _=>rfl)) (AaD AbG Aal (AaD Ahr (pvN 4 Aeo) (Ac3 AaP Adu T.n_len Ack (Aac (pvN 0 AcN) Aaf))))))
     (Aag (AaN (Aer PySem.F.plainAttrs_list PySem.F.slot_list_append PySem.F.type_list_append AbF (pvN 3 AcO) (Aac (Aer PySem.F.plainAttrs_list PySem.F.slot_list_pop PySem.F.type_list_pop AiC (pvN 2 Adb) (Aac (AaD Ab1 (pvN 5 AeJ) (Ac3 AaP Adu T.n_len Ack (Aac (pvN 2 Adb) Aaf))) Aaf)) Aaf))))))
    (Aag (AaL (pvN 3 AcO)))))),?_⟩
  have st0:AaV ["draws","many","left","found","k","draw"] [V.ref p,V.int (many:Int)]=[some (.ref p),some (.int many),none,none,none,none]:=rfl
  simp only [st0,List.set_cons_succ,List.set_cons_zero]
  walk_at "st"
  refine .inl ⟨many,rfl,⟨by omega,by omega⟩,fun rg nrg=>?_⟩
  have s1:=(Aav.refl H).upd (o:=.rng 0 many) nrg
  have e1:(upd H rg (.rng 0 many)) rg=some (.rng 0 many):=Aad
  generalize upd H rg (.rng 0 many)=H1 at s1 e1 ⊢
  walk_at "st"
  refine .inr ⟨rg,0,many,rfl,e1,⟨by omega,by omega⟩,⟨by omega,by omega⟩,(by rw [sizeLine_eq]; omega),fun l nl=>?_⟩
  have s2:=s1.upd (o:=.lst ((AaM 0 many).map V.int)) nl
  have e2:(upd H1 l (.lst ((AaM 0 many).map V.int))) l=some (.lst ((AaM 0 many).map V.int)):=Aad
  have nlH:H l=none:=by
   cases e:H l with
   | none=>rfl
   | some o=>rw [s1 _ _ e] at nl; cases nl
  generalize upd H1 l (.lst ((AaM 0 many).map V.int))=H2 at s2 e2 ⊢
  walk_at "st"
  refine ⟨(by show 0≤sizeLine; decide),fun r nr=>?_⟩
  have s3:=s2.upd (o:=.lst []) nr
  have nrl:r≠l:=fun z=>by rw [z,e2] at nr; cases nr
  have e3:(upd H2 r (.lst [])) r=some (.lst (([]:List Int).map V.int)):=Aad
  have f3:(upd H2 r (.lst [])) l=some (.lst ((AaM 0 many).map V.int)):=by rw [Aah (Ne.symm nrl)]; exact e2
  have nrH:H r=none:=by
   cases e:H r with
   | none=>rfl
   | some o=>rw [s2 _ _ e] at nr; cases nr
  generalize upd H2 r (.lst [])=H3 at s3 e3 f3 ⊢
  walk_at "st"
  have hmn:((many:Int)).toNat=many:=Int.toNat_natCast many
  refine ⟨by omega,by omega,Ahq (n:=((many:Int)).toNat) (fun i σ H4=>∃ (L F:List Int) (x y:Option V),σ=[some (.ref p),some (.int many),some (.ref l),some (.ref r),x,y]∧Aav H H4∧H4 l=some (.lst (L.map V.int))∧H4 r=some (.lst (F.map V.int))∧(F++L).Perm (AaM 0 many)∧F.length=i) ⟨AaM 0 many,[],none,none,rfl,s3,f3,e3,.refl _,rfl⟩ ?_ ?_⟩
  ·rintro i σ H4 hi ⟨L,F,x,y,rfl,sm,hL,hF,pm,fl⟩
   rw [hmn] at hi
   have hp4:=sm _ _ hp
   have ll:L.length + i=many:=by
    have:=pm.length_eq
    rw [List.length_append,Abk,fl] at this
    omega
   have ilt:i % ds.length < ds.length:=Nat.mod_lt _ d0
   have hv:ds[i % ds.length]?=some ds[i % ds.length]:=List.getElem?_eq_getElem ilt
   generalize ds[i % ds.length]=v at hv
   have v0:=dv v (List.mem_of_getElem? hv)
   simp only [Int.zero_add]
   walk_at "st"
   refine Or.inr ⟨p,_,rfl,.inl (.of hp4),?_⟩
   rw [List.length_map]
   walk_at "st"
   have ei:((i:Int) % (ds.length:Int))=((i % ds.length:Nat):Int):=(Int.natCast_emod i ds.length).symm
   refine Or.inl ⟨p,_,_,_,rfl,rfl,.of hp4,(by rw [ei]; exact Ac2 (by rw [List.getElem?_map,hv]; rfl)),?_⟩
   walk_at "st"
   refine Or.inr ⟨p,_,rfl,.inl (.of hp4),?_⟩
   rw [List.length_map]
   have q0:0≤(i:Int) / (ds.length:Int):=Int.ediv_nonneg (by omega) (by omega)
   have q1:(i:Int) / (ds.length:Int)≤i:=Int.ediv_le_self _ (by omega)
   walk_at "st"
   generalize (i:Int) / (ds.length:Int)=c at q0 q1 ⊢
   have d0':0≤v / (1 + c):=Int.ediv_nonneg v0.1 (by omega)
   refine ⟨.inl ⟨rfl,_,.of hF⟩,?_⟩
   walk_at "st"
   refine ⟨.inl ⟨rfl,_,.of hL⟩,?_⟩
   walk_at "st"
   refine Or.inr ⟨l,_,rfl,.inl (.of hL),?_⟩
   rw [List.length_map]
   have m0:=Int.emod_nonneg (v / (1 + c)) (show (L.length:Int)≠0 by omega)
   have m2:=Int.emod_lt_of_pos (v / (1 + c)) (show (0:Int) < (L.length:Int) by omega)
   walk_at "st"
   generalize hg:v / (1 + c) % (L.length:Int)=g at m0 m2
   have glt:g.toNat < L.length:=by omega
   refine ⟨l,_,g,g.toNat,.int L[g.toNat],rfl,(by rw [← hg]),hL,(by omega),(by omega),?_,(by rw [List.getElem?_map,List.getElem?_eq_getElem glt]; rfl),?_⟩
   ·refine (AjZ ?_).1
    unfold ixN
    rw [if_pos m0,List.length_map,if_pos m2]
   rw [show (L.map V.int).eraseIdx g.toNat=(L.eraseIdx g.toNat).map V.int from AjM]
   walk_at "st"
   have rl:l≠r:=Ne.symm nrl
   refine ⟨r,_,_,rfl,rfl,(by rw [Aah nrl]; exact hF),(by rw [List.length_map,fl,sizeLine_eq]; omega),?_⟩
   walk_at "st"
   refine ⟨L.eraseIdx g.toNat,F++[L[g.toNat]],_,_,rfl,(sm.updN nlH).updN nrH,(by rw [Aah rl,Aad]),Ak5,?_,by rw [List.length_append,fl]; rfl⟩
   refine List.Perm.trans ?_ pm
   rw [List.append_assoc]
   exact List.Perm.append_left F (Aiu glt)
  ·rintro σ H4 ⟨L,F,x,y,rfl,sm,hL,hF,pm,fl⟩
   rw [hmn] at fl
   have ll:L=[]:=by
    have:=pm.length_eq
    rw [List.length_append,Abk,fl] at this
    exact List.length_eq_zero_iff.mp (by omega)
   subst ll
   rw [List.append_nil] at pm
   walk_at "st"
   exact q r F H4 sm nrH hF pm
end
local macro_rules | `(tactic| walk_at "st")=>`(tactic| repeat (first
 | refine ⟨_,rfl,?_⟩
 | refine ⟨_,_,rfl,rfl,?_⟩
 | refine ⟨_,_,rfl,?_⟩
 | refine Or.inl ⟨_,_,rfl,rfl,?_⟩
 | refine Or.inl ⟨rfl,?_⟩
 | refine ⟨rfl,?_⟩
 | refine Or.inl ⟨_,_,_,_,rfl,rfl,.of (by assumption),rfl,?_⟩
 | (refine And.intro (show Aeq _ _ from ?_) ?_; (first | exact Or.inr ⟨by omega,by omega⟩ | exact Or.inl ⟨by omega,by omega⟩))
 | (refine And.intro (show Ae4 _ _ from ?_) ?_; exact ⟨by omega,by omega⟩)
 | (refine And.intro (show (0:Int) < _ from ?_) ?_; first | decide | omega)))
theorem AkF (n m:Nat) (h:m≤n):(List.range n).map (fun (f:Nat)=>((m:Int) + (f:Int)) % (n:Int))=AaM m n++AaM 0 m:=by
 obtain ⟨d,rfl⟩:∃ d,n=m + d:=⟨n - m,by omega⟩
 have e1:AaM (m:Int) ((m + d:Nat):Int)=(List.range d).map fun (f:Nat)=>(m:Int) + (f:Int):=by
  unfold AaM
  have:(((m + d:Nat):Int) - (m:Int)).toNat=d:=by omega
  rw [this]
 have e2:AaM 0 (m:Int)=(List.range m).map fun (f:Nat)=>(f:Int):=by
  unfold AaM
  have:((m:Int) - 0).toNat=m:=by omega
  rw [this]
  exact List.map_congr_left fun k _=>by omega
 rw [e1,e2,Nat.add_comm m d,List.range_add,List.map_append,List.map_map]
 congr 1
 ·refine List.map_congr_left fun f hf=>?_
  have:=List.mem_range.mp hf
  rw [Int.emod_eq_of_lt (by omega) (by omega)]
 ·refine List.map_congr_left fun f hf=>?_
  have:=List.mem_range.mp hf
  show ((m:Int) + ((d + f:Nat):Int)) % ((d + m:Nat):Int)=(f:Int)
  have e:(m:Int) + ((d + f:Nat):Int)=(f:Int) + ((d + m:Nat):Int):=by omega
  rw [e,Int.add_emod_right,Int.emod_eq_of_lt (by omega) (by omega)]
theorem AkG {α:Type} (p:α→Bool) (l:List α) (i:Nat) (v:α) (h:l[i]?=some v):(l.take (i + 1)).filter p=(l.take i).filter p++(if p v=true then [v] else []):=by
 rw [List.take_add_one,h,List.filter_append]
 congr 1
 show List.filter p [v]=_
 rw [List.filter_cons,List.filter_nil]
theorem Ahl:∀ (ns:List Int),PyData.canLayAll0 (ns.map PyData.int)=true∧PyData.depthAll (ns.map PyData.int)≤1
 | []=>⟨rfl,by decide⟩
 | z :: zs=>by
  obtain ⟨i1,i2⟩:=Ahl zs
  refine ⟨?_,?_⟩
  ·show (PyData.canLay0 (.int z) && PyData.canLayAll0 _)=true
   rw [i1]; rfl
  ·show max (PyData.depth (.int z)) (PyData.depthAll _)≤1
   refine Nat.max_le.mpr ⟨?_,i2⟩
   simp [PyData.depth]
theorem AdH {K:PySem.W.Frag} {H:Hp}:∀ zs:List Int,IsAll K H (zs.map V.int) (zs.map PyData.int)
 | []=>.nil
 | z :: zs=>.cons (.int z) (AdH zs)
theorem Ang (ds:List PyData):PyData.depth (.tuple ds)=PyData.depthAll ds + 1:=by simp [PyData.depth]
theorem AgU (ds:List PyData):PyData.depth (.list ds)=PyData.depthAll ds + 1:=by simp [PyData.depth]
structure StA where
 (d l q h u p t n:Addr)
def stD (B:StA) (mark:Int):List (Key×V):=[(.inr "lines",.ref B.l),(.inr "queue",.ref B.q),(.inr "mark",.int mark),(.inr "held",.ref B.h),(.inr "stuck",.ref B.u),(.inr "spots",.ref B.p),(.inr "steps",.ref B.t),(.inr "shares",.ref B.n)]
def StA.ls (B:StA):List Addr:=[B.l,B.q,B.h,B.u,B.p,B.t,B.n]
structure StT (H:Hp) (B:StA) (S:Aap):Prop where
 d:H B.d=some (.dK (stD B S.mark))
 l:H B.l=some (.lst (S.lns.map fun ln=>V.str ln.num))
 q:H B.q=some (.lst (S.q.map V.str))
 h:H B.h=some (.lst (S.hs.map (Ad1 S)))
 u:H B.u=some (.lst (S.js.map V.bl))
 p:H B.p=some (.lst (S.st.map V.int))
 t:H B.t=some (.lst (S.wt.map V.int))
 n:H B.n=some (.lst (S.ts.map V.int))
 ap:B.ls.Nodup
 lj:S.js.length=S.hs.length
 ls:S.st.length=S.hs.length
 lw:S.wt.length=S.hs.length
 lt:S.ts.length=S.hs.length
 pl:S.places=S.lns.length
section
variable {H H':Hp} {B:StA} {S:Aap}
theorem StT.same (t:StT H B S) (s:Aav H H'):StT H' B S:=⟨s _ _ t.d,s _ _ t.l,s _ _ t.q,s _ _ t.h,s _ _ t.u,s _ _ t.p,s _ _ t.t,s _ _ t.n,t.ap,t.lj,t.ls,t.lw,t.lt,t.pl⟩
theorem Ag7 {m:Int} {k:Str} {v:V} (e:H B.d=some (.dK (stD B m))) (h:Ag9 (stD B m) (.inr k)=some v):Aj8 H B.d (.str k) (some v):=by
 have:=Aj8.k (k:=.inr k) e
 rw [h] at this
 exact this
theorem StT.gLines (t:StT H B S):Aj8 H B.d (.str "lines") (some (.ref B.l)):=Ag7 t.d rfl
theorem StT.gQueue (t:StT H B S):Aj8 H B.d (.str "queue") (some (.ref B.q)):=Ag7 t.d rfl
theorem StT.gMark (t:StT H B S):Aj8 H B.d (.str "mark") (some (.int S.mark)):=Ag7 t.d rfl
theorem StT.gHeld (t:StT H B S):Aj8 H B.d (.str "held") (some (.ref B.h)):=Ag7 t.d rfl
theorem StT.gStuck (t:StT H B S):Aj8 H B.d (.str "stuck") (some (.ref B.u)):=Ag7 t.d rfl
theorem StT.gSpots (t:StT H B S):Aj8 H B.d (.str "spots") (some (.ref B.p)):=Ag7 t.d rfl
theorem StT.gSteps (t:StT H B S):Aj8 H B.d (.str "steps") (some (.ref B.t)):=Ag7 t.d rfl
theorem StT.gShares (t:StT H B S):Aj8 H B.d (.str "shares") (some (.ref B.n)):=Ag7 t.d rfl
theorem StA.pairs (h:B.ls.Nodup):(B.l≠B.q∧B.l≠B.h∧B.l≠B.u∧B.l≠B.p∧B.l≠B.t∧B.l≠B.n)∧(B.q≠B.h∧B.q≠B.u∧B.q≠B.p∧B.q≠B.t∧B.q≠B.n)∧(B.h≠B.u∧B.h≠B.p∧B.h≠B.t∧B.h≠B.n)∧(B.u≠B.p∧B.u≠B.t∧B.u≠B.n)∧(B.p≠B.t∧B.p≠B.n)∧B.t≠B.n:=by
 simp only [StA.ls,List.nodup_cons,List.mem_cons,List.not_mem_nil,or_false,not_or,not_false_eq_true,List.nodup_nil,and_true] at h
 exact h
theorem Aeg {b c:Addr} {o u:HO} (n:b≠c) (e:H b=some u):(upd H c o) b=some u:=(Aah n).trans e
theorem StT.setQ (t:StT H B S) {q':List Str}:StT (upd H B.q (.lst (q'.map V.str))) B { S with q:=q' }:=by
 obtain ⟨⟨a1,a2,a3,a4,a5,a6⟩,⟨b1,b2,b3,b4,b5⟩,⟨c1,c2,c3,c4⟩,⟨d1,d2,d3⟩,⟨e1,e2⟩,f1⟩:=StA.pairs t.ap
 exact ⟨Aeg (AaI t.d t.q (by intro z; cases z)) t.d,Aeg a1 t.l,Aad,Aeg b1.symm t.h,Aeg b2.symm t.u,Aeg b3.symm t.p,Aeg b4.symm t.t,Aeg b5.symm t.n,t.ap,t.lj,t.ls,t.lw,t.lt,t.pl⟩
theorem StT.setP (t:StT H B S) {st':List Int} (hl:st'.length=S.st.length):StT (upd H B.p (.lst (st'.map V.int))) B { S with st:=st' }:=by
 obtain ⟨⟨a1,a2,a3,a4,a5,a6⟩,⟨b1,b2,b3,b4,b5⟩,⟨c1,c2,c3,c4⟩,⟨d1,d2,d3⟩,⟨e1,e2⟩,f1⟩:=StA.pairs t.ap
 exact ⟨Aeg (AaI t.d t.p (by intro z; cases z)) t.d,Aeg a4 t.l,Aeg b3 t.q,Aeg c2 t.h,Aeg d1 t.u,Aad,Aeg e1.symm t.t,Aeg e2.symm t.n,t.ap,t.lj,hl.trans t.ls,t.lw,t.lt,t.pl⟩
theorem StT.setT (t:StT H B S) {wt':List Int} (hl:wt'.length=S.wt.length):StT (upd H B.t (.lst (wt'.map V.int))) B { S with wt:=wt' }:=by
 obtain ⟨⟨a1,a2,a3,a4,a5,a6⟩,⟨b1,b2,b3,b4,b5⟩,⟨c1,c2,c3,c4⟩,⟨d1,d2,d3⟩,⟨e1,e2⟩,f1⟩:=StA.pairs t.ap
 exact ⟨Aeg (AaI t.d t.t (by intro z; cases z)) t.d,Aeg a5 t.l,Aeg b4 t.q,Aeg c3 t.h,Aeg d2 t.u,Aeg e1 t.p,Aad,Aeg f1.symm t.n,t.ap,t.lj,t.ls,hl.trans t.lw,t.lt,t.pl⟩
theorem StT.setN (t:StT H B S) {ts':List Int} (hl:ts'.length=S.ts.length):StT (upd H B.n (.lst (ts'.map V.int))) B { S with ts:=ts' }:=by
 obtain ⟨⟨a1,a2,a3,a4,a5,a6⟩,⟨b1,b2,b3,b4,b5⟩,⟨c1,c2,c3,c4⟩,⟨d1,d2,d3⟩,⟨e1,e2⟩,f1⟩:=StA.pairs t.ap
 exact ⟨Aeg (AaI t.d t.n (by intro z; cases z)) t.d,Aeg a6 t.l,Aeg b5 t.q,Aeg c4 t.h,Aeg d3 t.u,Aeg e2 t.p,Aeg f1 t.t,Aad,t.ap,t.lj,t.ls,t.lw,hl.trans t.lt,t.pl⟩
theorem StT.setU (t:StT H B S) {js':List Bool} (hl:js'.length=S.js.length):StT (upd H B.u (.lst (js'.map V.bl))) B { S with js:=js' }:=by
 obtain ⟨⟨a1,a2,a3,a4,a5,a6⟩,⟨b1,b2,b3,b4,b5⟩,⟨c1,c2,c3,c4⟩,⟨d1,d2,d3⟩,⟨e1,e2⟩,f1⟩:=StA.pairs t.ap
 exact ⟨Aeg (AaI t.d t.u (by intro z; cases z)) t.d,Aeg a3 t.l,Aeg b2 t.q,Aeg c1 t.h,Aad,Aeg d1.symm t.p,Aeg d2.symm t.t,Aeg d3.symm t.n,t.ap,hl.trans t.lj,t.ls,t.lw,t.lt,t.pl⟩
theorem StT.setM (t:StT H B S) {m':Int}:StT (upd H B.d (.dK (stD B m'))) B { S with mark:=m' }:=by
 have o:∀ {b xs},H b=some (.lst xs)→(upd H B.d (.dK (stD B m'))) b=some (.lst xs):=fun e=>Aeg (AaI e t.d (by intro z; cases z)) e
 exact ⟨Aad,o t.l,o t.q,o t.h,o t.u,o t.p,o t.t,o t.n,t.ap,t.lj,t.ls,t.lw,t.lt,t.pl⟩
theorem StT.setH (t:StT H B S) {lns':List LnS} {hs':List V} (hl:hs'.length=S.hs.length) (hn:lns'.map (·.num)=S.lns.map (·.num)):StT (upd H B.h (.lst (hs'.map (Ad1 { S with lns:=lns' })))) B { S with lns:=lns',hs:=hs' }:=by
 obtain ⟨⟨a1,a2,a3,a4,a5,a6⟩,⟨b1,b2,b3,b4,b5⟩,⟨c1,c2,c3,c4⟩,⟨d1,d2,d3⟩,⟨e1,e2⟩,f1⟩:=StA.pairs t.ap
 have el:(lns'.map fun ln=>V.str ln.num)=S.lns.map fun ln=>V.str ln.num:=by
  have:=congrArg (List.map V.str) hn
  rw [List.map_map,List.map_map] at this
  exact this
 have ll:lns'.length=S.lns.length:=by
  have:=congrArg List.length hn
  rw [List.length_map,List.length_map] at this
  exact this
 refine ⟨Aeg (AaI t.d t.h (by intro z; cases z)) t.d,?_,Aeg b1 t.q,Aad,Aeg c1.symm t.u,Aeg c2.symm t.p,Aeg c3.symm t.t,Aeg c4.symm t.n,t.ap,t.lj.trans hl.symm,t.ls.trans hl.symm,t.lw.trans hl.symm,t.lt.trans hl.symm,?_⟩
 ·show _=some (HO.lst (lns'.map fun ln=>V.str ln.num))
  rw [el]; exact Aeg a2 t.l
 ·show S.places=(lns'.length:Int)
  rw [ll]; exact t.pl
end
theorem Ai2 {S S':Aap} (hn:S'.lns.map (·.num)=S.lns.map (·.num)) (v:V):Ad1 S' v=Ad1 S v:=by
 cases v with
 | int i =>
  have e:(S'.lns.map (·.num))[i.toNat]?=(S.lns.map (·.num))[i.toNat]?:=by rw [hn]
  rw [List.getElem?_map,List.getElem?_map] at e
  show (match S'.lns[i.toNat]? with | none=>V.non | some ln=>V.str ln.num)=(match S.lns[i.toNat]? with | none=>V.non | some ln=>V.str ln.num)
  cases h1:S'.lns[i.toNat]? with
  | none=>rw [h1] at e; cases h2:S.lns[i.toNat]? with
   | none=>rfl
   | some ln=>rw [h2] at e; cases e
  | some ln=>rw [h1] at e; cases h2:S.lns[i.toNat]? with
   | none=>rw [h2] at e; cases e
   | some lm =>
    rw [h2] at e
    have e:ln.num=lm.num:=Option.some.inj e
    dsimp only
    rw [e]
 | _=>rfl
def StA.ws (B:StA):List Addr:=B.d :: B.ls
def AkH:Sp:=fun vs H Q _=>∃ (B:StA) (S:Aap),vs=[.ref B.d]∧StT H B S∧QOk S∧AlN S∧(∀ z∈S.lns.map (·.num),Asc z)∧S.hs.length≤1000∧0 < S.hs.length ∧
 ∀ H' r xs,StT H' B (AbK S).2→AaE B.ws H H'→(∀ b,H' b=none→H b=none)→H r=none→H' r=some (.lst (xs.map V.ref))→Tps H' xs ((AbK S).1.map AeT)→Q (.ref r) H'
local macro_rules | `(tactic| walk_at "st")=>`(tactic| repeat (first
 | refine ⟨_,rfl,?_⟩
 | refine ⟨_,_,rfl,rfl,?_⟩
 | refine ⟨_,_,rfl,?_⟩
 | refine Or.inl ⟨_,_,rfl,rfl,?_⟩
 | refine Or.inl ⟨rfl,?_⟩
 | refine ⟨rfl,?_⟩
 | refine Or.inl ⟨_,_,_,_,rfl,rfl,.of (by assumption),rfl,?_⟩
 | (refine And.intro (show Aeq _ _ from ?_) ?_; (first | exact Or.inr ⟨by omega,by omega⟩ | exact Or.inl ⟨by omega,by omega⟩))
 | (refine And.intro (show Ae4 _ _ from ?_) ?_; exact ⟨by omega,by omega⟩)
 | (refine And.intro (show (0:Int) < _ from ?_) ?_; first | decide | omega)))
theorem AjN {z:Str} (h:Asc z):PyData.canLay0 (.str z)=true:=by
 show PyData.strOk z=true
 unfold PyData.strOk
 rw [← Array.all_toList,List.all_eq_true]
 intro c hc
 have:=h c hc
 simp only [decide_eq_true_eq]
 omega
theorem Ai3:∀ {zs:List Str},(∀ z∈zs,Asc z)→PyData.canLayAll0 (zs.map PyData.str)=true∧PyData.depthAll (zs.map PyData.str)≤1
 | [],_=>⟨rfl,by decide⟩
 | z :: zs,h=>by
  obtain ⟨i1,i2⟩:=Ai3 fun y hy=>h y (List.mem_cons_of_mem _ hy)
  refine ⟨?_,?_⟩
  ·show (PyData.canLay0 _ && PyData.canLayAll0 _)=true
   rw [AjN (h z List.mem_cons_self),i1]; rfl
  ·show max (PyData.depth (.str z)) (PyData.depthAll _)≤1
   refine Nat.max_le.mpr ⟨?_,i2⟩
   simp [PyData.depth]
theorem AfH {K:PySem.W.Frag} {H:Hp}:∀ zs:List Str,IsAll K H (zs.map V.str) (zs.map PyData.str)
 | []=>.nil
 | z :: zs=>.cons (.str z) (AfH zs)
theorem AdW {S S':Aap} {t:Str×Int×Int} (q:QOk S) (e:AeA S=some (t,S')):∃ z r k ln,S.q=z :: r∧AfM S.hs S.js S.mark=some k∧S.lns[Aez S.lns z]?=some ln∧ln.num=z∧t=(z,k,((Aez S.lns z:Int) - S.st.getD k.toNat 0) % S.places) ∧
  S'={ S with q:=r,lns:=S.lns.set (Aez S.lns z) { Aaq ln "dials" with held:=ln.held++[((Str.ofString ""),k)] },hs:=S.hs.set k.toNat (.int (Aez S.lns z)),ts:=S.ts.set k.toNat (S.ts.getD k.toNat 0 + 1),mark:=(k + 1) % S.hs.length,st:=S.st.set k.toNat (Aez S.lns z),wt:=S.wt.set k.toNat (S.wt.getD k.toNat 0 + ((Aez S.lns z:Int) - S.st.getD k.toNat 0) % S.places) }:=by
 unfold AeA at e
 cases eq:S.q with
 | nil=>rw [eq] at e; cases e
 | cons z r =>
  rw [eq] at e
  dsimp only at e
  cases ef:AfM S.hs S.js S.mark with
  | none=>rw [ef] at e; cases e
  | some k =>
   rw [ef] at e
   dsimp only at e
   obtain ⟨ln,e1,e2,e3⟩:=q.idx (z:=z) (by rw [eq]; simp)
   rw [e1] at e
   cases e
   exact ⟨z,r,k,ln,rfl,rfl,e1,e2,rfl,rfl⟩
theorem AgD {S S':Aap} {t:Str×Int×Int} (q:QOk S) (e:AeA S=some (t,S')):S'.lns.map (·.num)=S.lns.map (·.num):=by
 obtain ⟨z,r,k,ln,e1,e2,e3,e4,e5,rfl⟩:=AdW q e
 exact Aax (f:=fun x:LnS=>x.num) (y:={ Aaq ln "dials" with held:=ln.held++[((Str.ofString ""),k)] }) e3 rfl
theorem AlN.next {S S':Aap} {t:Str×Int×Int} (h:AlN S) (q:QOk S) (e:AeA S=some (t,S')):AlN S':=by
 obtain ⟨z,r,k,ln,e1,e2,e3,e4,e5,rfl⟩:=AdW q e
 intro v mv
 have mv:v∈S.hs.set k.toNat (.int (Aez S.lns z)):=mv
 have ll:(S.lns.set (Aez S.lns z) { Aaq ln "dials" with held:=ln.held++[((Str.ofString ""),k)] }).length=S.lns.length:=List.length_set ..
 rcases List.mem_or_eq_of_mem_set mv with m | m
 ·rcases h v m with z' | ⟨i,z',il⟩
  ·exact .inl z'
  ·exact .inr ⟨i,z',by show i < (S.lns.set _ _).length; rw [ll]; exact il⟩
 ·exact .inr ⟨Aez S.lns z,m,by show Aez S.lns z < (S.lns.set _ _).length; rw [ll]; exact (List.getElem?_eq_some_iff.mp e3).1⟩
theorem Aon {S:Aap} {v:V} (h:v=.non∨∃ i:Nat,v=.int i∧i < S.lns.length):Ad1 S v=.non↔v=.non:=by
 rcases h with rfl | ⟨i,rfl,il⟩
 ·exact ⟨fun _=>rfl,fun _=>rfl⟩
 ·refine ⟨fun e=>?_,fun e=>by cases e⟩
  have e:(match S.lns[((i:Nat):Int).toNat]? with | none=>V.non | some ln=>V.str ln.num)=.non:=e
  rw [Int.toNat_natCast,List.getElem?_eq_getElem il] at e
  cases e
theorem AeU {S:Aap} {i:Nat} {ln:LnS} (h:S.lns[i]?=some ln):Ad1 S (.int i)=.str ln.num:=by
 show (match S.lns[((i:Nat):Int).toNat]? with | none=>V.non | some ln=>V.str ln.num)=_
 rw [Int.toNat_natCast,h]
theorem Ai4 (x y:Str):eqV (.str x) (.str y)=decide (x=y):=by
 by_cases h:x=y
 ·subst h; simp [eqV]
 ·simp [eqV,h]
local macro_rules | `(tactic| walk_at "st")=>`(tactic| repeat (first
 | refine ⟨_,rfl,?_⟩
 | refine ⟨_,_,rfl,rfl,?_⟩
 | refine ⟨_,_,rfl,?_⟩
 | refine Or.inl ⟨_,_,rfl,rfl,?_⟩
 | refine Or.inl ⟨rfl,?_⟩
 | refine ⟨rfl,?_⟩
 | refine Or.inl ⟨_,_,_,_,rfl,rfl,.of (by assumption),rfl,?_⟩
 | (refine And.intro (show Aeq _ _ from ?_) ?_; (first | exact Or.inr ⟨by omega,by omega⟩ | exact Or.inl ⟨by omega,by omega⟩))
 | (refine And.intro (show Ae4 _ _ from ?_) ?_; exact ⟨by omega,by omega⟩)
 | (refine And.intro (show (0:Int) < _ from ?_) ?_; first | decide | omega)))
section
variable {H:Hp} {B:StA} {S:Aap}
theorem StT.out (t:StT H B S) {r:Addr} {o:HO} (n:r ∉ B.ws):StT (upd H r o) B S:=by
 have k:∀ {b u},b∈B.ws→H b=some u→(upd H r o) b=some u:=fun m e=>Aeg (fun z=>n (z▸m)) e
 exact ⟨k (by simp [StA.ws]) t.d,k (by simp [StA.ws,StA.ls]) t.l,k (by simp [StA.ws,StA.ls]) t.q,k (by simp [StA.ws,StA.ls]) t.h,k (by simp [StA.ws,StA.ls]) t.u,k (by simp [StA.ws,StA.ls]) t.p,k (by simp [StA.ws,StA.ls]) t.t,k (by simp [StA.ws,StA.ls]) t.n,t.ap,t.lj,t.ls,t.lw,t.lt,t.pl⟩
theorem StT.ws (t:StT H B S) {b:Addr} (m:b∈B.ws):(∃ xs,H b=some (.lst xs))∨∃ kvs,H b=some (.dK kvs):=by
 simp only [StA.ws,StA.ls,List.mem_cons,List.not_mem_nil,or_false] at m
 rcases m with z | z | z | z | z | z | z | z
 ·exact .inr ⟨_,by rw [z]; exact t.d⟩
 ·exact .inl ⟨_,by rw [z]; exact t.l⟩
 ·exact .inl ⟨_,by rw [z]; exact t.q⟩
 ·exact .inl ⟨_,by rw [z]; exact t.h⟩
 ·exact .inl ⟨_,by rw [z]; exact t.u⟩
 ·exact .inl ⟨_,by rw [z]; exact t.p⟩
 ·exact .inl ⟨_,by rw [z]; exact t.t⟩
 ·exact .inl ⟨_,by rw [z]; exact t.n⟩
theorem StT.fresh (t:StT H B S) {b:Addr} (n:H b=none):b ∉ B.ws:=fun m=>by
 rcases t.ws m with ⟨_,e⟩ | ⟨_,e⟩ <;> rw [e] at n <;> cases n
theorem StT.tup (t:StT H B S) {b:Addr} {ys:List V} (e':H b=some (.tup ys)):b ∉ B.ws:=fun m=>by
 rcases t.ws m with ⟨_,e⟩ | ⟨_,e⟩ <;> rw [e] at e' <;> cases e'
end
section
variable {P:Program} {w:World} {K:PySem.W.Frag} {mg:Str→Option Value} {base:Heap} {a:Adr}
theorem Ag8:Aat ["state","told","many","some","k","line","went"] ["state"] (Aaa (top 43)):=⟨rfl,rfl,rfl,by decide +kernel,rfl,by decide +kernel,by decide +kernel⟩
theorem Aas:NmC (Aaa (top 43)) "state":=by walk_at "k"
theorem Aci:Nm (Aaa (top 43)) "told":=by walk_at "k"
theorem Adc:NmC (Aaa (top 43)) "many":=by walk_at "k"
theorem AbL:Nm (Aaa (top 43)) "some":=by walk_at "k"
theorem Aa8:Nm (Aaa (top 43)) "k":=by walk_at "k"
theorem AbM:Nm (Aaa (top 43)) "line":=by walk_at "k"
theorem Ade:Nm (Aaa (top 43)) "went":=by walk_at "k"
theorem Ae9:Gm (Aaa (top 43)) "len":=by walk_at "k"
theorem AgE:Gm (Aaa (top 43)) "range":=by walk_at "k"
def AdX:Scope:={ kind:=.function,names:=[(".0",.local),("k",.local),("state",.free)],isGenerator:=false,isCoroutine:=false,more:=[] }
theorem Af1:Abc AdX (Aaa (top 43)) ["k","state"] ["state","told","many","some","k","line","went"] [none,some 0]:=Abc.mk' rfl (by decide +kernel) (by decide +kernel) (by decide +kernel) (by decide +kernel) rfl (by decide +kernel)
theorem Acj:Nm AdX "k":=by walk_at "k"
theorem Adm:NmR AdX "state":=by walk_at "k"
def AcP:Scope:={ kind:=.function,names:=[(".0",.local),("far",.local),("many",.free),("state",.free)],isGenerator:=false,isCoroutine:=false,more:=[] }
theorem Af2:Abc AcP (Aaa (top 43)) ["far","many","state"] ["state","told","many","some","k","line","went"] [none,some 2,some 0]:=Abc.mk' rfl (by decide +kernel) (by decide +kernel) (by decide +kernel) (by decide +kernel) rfl (by decide +kernel)
theorem AdY:Nm AcP "far":=by walk_at "k"
theorem AfV:NmR AcP "many":=by walk_at "k"
theorem AfA:NmR AcP "state":=by walk_at "k"
theorem Aoo {f:Addr} {fd:FuncData} (F:Fun K "_law_toned" "_law_toned" (top 43) f fd) (T:TxtH P w K mg a):Aco P w K mg base CX0 1 f fd ["state"] AkH:=by
 refine F.ok Ag8 (fun vs H Q E h=>?_) (fun cdv A outer s H vs Q E hr h=>?_)
 ·obtain ⟨B,S,rfl,_⟩:=h
  rfl
 ·obtain ⟨B,S0,rfl,t0,ok0,ho0,as0,z0,zp,q⟩:=h
  have hu:=hr.units
  have nd:=Ag8.nd
  refine ⟨_,(@Aae _ _ _ _ _ (Abb 1 nd Aci (Aa6 Aaf))
    (Aae (Amq 2 nd Adc (Ac3 AaP Ae9 T.n_len Ack (Aac (AaU (Nat.lt_of_le_of_lt (Nat.add_le_add_left (by decide) _) hu) (pvC 0 Aas) Aak (fun _ _=>rfl)) Aaf)))
    (Aae (AkR PassesOwn.never (AaB (Ahy hu) (AaU (Nat.lt_of_le_of_lt (Nat.add_le_add_left (by decide) _) hu) (pvC 0 Aas) Aak (fun _ _=>rfl)) (Aa6 Aaf) (AaY _)) (Aae (Aj4 (j:=3) rfl nd rfl (Or.inl AbL.loc) Af2 (Ami AgE T.n_range (Aac (pvC 2 Adc) Aaf)) (fun cl C fp pins s₂ H₂=>(AcB 0 Af2.nd AdY.comp)) (fun cl C fp pins s₂ H₂=>Af5) (fun cl C fp pins s₂ H₂=>(AaD Ab1 (AaD AbG (AaU (Nat.lt_of_le_of_lt (Nat.add_le_add_left (by decide) _) hu) (pvF 2 AfA.comp) Aak (fun _ _=>rfl)) (pvN 0 AdY.comp)) (pvF 1 AfV.comp))) (by rfl) (by intro _; rfl) (Or.inl rfl))
     (Aae (Aj4 (j:=3) rfl nd rfl (Or.inl AbL.loc) Af1 (Aeh (pvN 3 AbL)) (fun cl C fp pins s₂ H₂=>(AcB 0 Af1.nd Acj.comp)) (fun cl C fp pins s₂ H₂=>(Amj (PW.pt (AlR (AaB Aic (Abt (AiO K rfl) (AaU (Nat.lt_of_le_of_lt (Nat.add_le_add_left (by decide) _) hu) (pvF 1 Adm.comp) Aak (fun _ _=>rfl)) (pvN 0 Acj.comp) (fun _ _=>rfl)) AcQ (AaY _)) (AjV (Aep (Ad9 (Abt (AiO K rfl) (AaU (Nat.lt_of_le_of_lt (Nat.add_le_add_left (by decide) _) hu) (pvF 1 Adm.comp) Aak (fun _ _=>rfl)) (pvN 0 Acj.comp) (fun _ _=>rfl))))))))) (fun cl C fp pins s₂ H₂=>(pvN 0 Acj.comp)) (by rfl) (by intro _; rfl) (Or.inl rfl))
     (Aae (AbC (AaB (Aea hu) (pvN 3 AbL) (Aa6 Aaf) (AaY _)) (Aag (AaL (pvN 1 Aci))) AaF)
     (Aae (Abb 4 nd Aa8 (Abt AaT (pvN 3 AbL) Aal (fun _ _=>rfl)))
     (Aae (Abb 5 nd AbM (Aer PySem.F.plainAttrs_list PySem.F.slot_list_pop PySem.F.type_list_pop AiC (AaU (Nat.lt_of_le_of_lt (Nat.add_le_add_left (by decide) _) hu) (pvC 0 Aas) Aak (fun _ _=>rfl)) (Aac Aal Aaf)))
     (Aae (Abb 6 nd Ade (AaD Ab1 (AaD AkS (Aer PySem.F.plainAttrs_list PySem.F.slot_list_index PySem.F.type_list_index AhH (AaU (Nat.lt_of_le_of_lt (Nat.add_le_add_left (by decide) _) hu) (pvC 0 Aas) Aak (fun _ _=>rfl)) (Aac (pvN 5 AbM) Aaf)) (Abt AaT (AaU (Nat.lt_of_le_of_lt (Nat.add_le_add_left (by decide) _) hu) (pvC 0 Aas) Aak (fun _ _=>rfl)) (pvN 4 Aa8) (fun _ _=>rfl))) (Ac3 AaP Ae9 T.n_len Ack (Aac (AaU (Nat.lt_of_le_of_lt (Nat.add_le_add_left (by decide) _) hu) (pvC 0 Aas) Aak (fun _ _=>rfl)) Aaf))))
     (Aae (AfW (Aer PySem.F.plainAttrs_list PySem.F.slot_list_index PySem.F.type_list_index AhH (AaU (Nat.lt_of_le_of_lt (Nat.add_le_add_left (by decide) _) hu) (pvC 0 Aas) Aak (fun _ _=>rfl)) (Aac (pvN 5 AbM) Aaf)) (Agi (AaU (Nat.lt_of_le_of_lt (Nat.add_le_add_left (by decide) _) hu) (pvC 0 Aas) Aak (fun _ _=>rfl)) (pvN 4 Aa8) Ace))
     (Aae (Aix (AaU (Nat.lt_of_le_of_lt (Nat.add_le_add_left (by decide) _) hu) (pvC 0 Aas) Aak (fun _ _=>rfl)) (pvN 4 Aa8) Ahh (pvN 6 Ade) AkQ Ace)
     (Aae (Aka (Nat.lt_of_le_of_lt (Nat.add_le_add_left (by decide) _) hu) (pvC 0 Aas) Aak (AaD Ab1 (AaD AbG (pvN 4 Aa8) Aal) (pvC 2 Adc)) rfl)
     (Aae (AfW (pvN 5 AbM) (Agi (AaU (Nat.lt_of_le_of_lt (Nat.add_le_add_left (by decide) _) hu) (pvC 0 Aas) Aak (fun _ _=>rfl)) (pvN 4 Aa8) Ace))
     (Aae (Aix (AaU (Nat.lt_of_le_of_lt (Nat.add_le_add_left (by decide) _) hu) (pvC 0 Aas) Aak (fun _ _=>rfl)) (pvN 4 Aa8) Ahh Aal AkQ Ace)
     (Aag (AaN (Aer PySem.F.plainAttrs_list PySem.F.slot_list_append PySem.F.type_list_append AbF (pvN 1 Aci) (Aac (Adh (Aac Aak (Aac (pvN 5 AbM) (Aac (pvN 4 Aa8) (Aac (pvN 6 Ade) Aaf))))) Aaf))))))))))))))))
    (Aag (AaL (pvN 1 Aci)))))),?_⟩
  have st0:AaV ["state","told","many","some","k","line","went"] [V.ref B.d]=[some (.ref B.d),none,none,none,none,none,none]:=rfl
  simp only [st0,List.set_cons_succ,List.set_cons_zero]
  walk_at "st"
  refine ⟨(by show 0≤sizeLine; decide),fun r nr=>?_⟩
  have s1:=(Aav.refl H).upd (o:=.lst []) nr
  have h1:(upd H r (.lst [])) r=some (.lst (([]:List Addr).map V.ref)):=Aad
  have n1:∀ b,(upd H r (.lst [])) b=none→H b=none:=fun b e=>Aai e
  generalize upd H r (.lst [])=H1 at s1 h1 n1 ⊢
  have t1:=t0.same s1
  walk_at "st"
  refine ⟨B.d,_,rfl,t1.gHeld,?_⟩
  walk_at "st"
  refine Or.inr ⟨B.h,_,rfl,.inl (.of t1.h),?_⟩
  rw [List.length_map]
  walk_at "st"
  refine ⟨fun m σ H2=>∃ x3 x4 x5 x6 S2 xs tl,σ=[some (.ref B.d),some (.ref r),some (.int S0.hs.length),x3,x4,x5,x6]∧StT H2 B S2∧QOk S2∧AlN S2∧S2.lns.map (·.num)=S0.lns.map (·.num)∧S2.hs.length=S0.hs.length∧AaE B.ws H H2∧(∀ b,H2 b=none→H b=none)∧H2 r=some (.lst (xs.map V.ref))∧Tps H2 xs (tl.map AeT)∧m=S2.q.length∧xs.length + m≤100∧AbK S0=(tl++(tonesF m S2).1,(tonesF m S2).2),⟨S0.q.length,none,none,none,none,S0,[],[],rfl,t1,ok0,ho0,rfl,rfl,AaE.of s1,n1,h1,(show Tps H1 [] (([]:List (Str×Int×Int)).map AeT) from trivial),rfl,by have:=ok0.few; simpa using this,by unfold AbK; rfl⟩,?_⟩
  rintro m σ H2 ⟨x3,x4,x5,x6,S2,xs,tl,rfl,t2,ok2,ho2,nm2,hl2,sx2,n2,hr2,tp2,rfl,len2,eq2⟩
  have asq:∀ z∈S2.q,Asc z:=fun z hz=>as0 z (by
   rw [← nm2]
   obtain ⟨ln,ml,en,_⟩:=ok2.ln z hz
   exact List.mem_map.mpr ⟨ln,ml,en⟩)
  walk_at "st"
  refine ⟨B.d,_,rfl,t2.gQueue,?_⟩
  walk_at "st"
  refine ⟨(by show 0≤sizeLine; decide),fun le ne=>?_⟩
  have s3:=(Aav.refl H2).upd (o:=.lst []) ne
  have e3:(upd H2 le (.lst [])) le=some (.lst []):=Aad
  have n3:∀ b,(upd H2 le (.lst [])) b=none→H2 b=none:=fun b e=>Aai e
  generalize upd H2 le (.lst [])=H3 at s3 e3 n3 ⊢
  have t3:=t2.same s3
  obtain ⟨ly,dp⟩:=Ai3 asq
  refine Or.inr ⟨.list (S2.q.map PyData.str),.list [],.lst (.of t3.q) (AfH S2.q),.lst (.of e3) .nil,ly,rfl,(by rw [AgU]; omega),?_⟩
  cases eq:S2.q with
  | nil =>
   have e0:AbK S0=(tl,S2):=by rw [eq2,eq]; show (tl++[],S2)=_; rw [List.append_nil]
   walk_at "st"
   exact q H3 r xs (by rw [e0]; exact t3) (fun b o hb e=>s3 _ _ (sx2 b o hb e)) (fun b e=>n2 b (n3 b e)) nr (s3 _ _ hr2) (by rw [e0]; exact tp2.imp fun b ys e=>s3 _ _ e)
  | cons z rr =>
   have eqf:PyData.eqv (.list ((z :: rr).map PyData.str)) (.list [])=false:=rfl
   rw [eqf]
   rw [eq] at eq2 len2
   walk_at "st"
   refine AgI ?_
   refine ⟨fun σ' H'=>∃ m',m' < rr.length + 1∧∃ x3 x4 x5 x6 S2 xs tl,σ'=[some (.ref B.d),some (.ref r),some (.int S0.hs.length),x3,x4,x5,x6]∧StT H' B S2∧QOk S2∧AlN S2∧S2.lns.map (·.num)=S0.lns.map (·.num)∧S2.hs.length=S0.hs.length∧AaE B.ws H H'∧(∀ b,H' b=none→H b=none)∧H' r=some (.lst (xs.map V.ref))∧Tps H' xs (tl.map AeT)∧m'=S2.q.length∧xs.length + m'≤100∧AbK S0=(tl++(tonesF m' S2).1,(tonesF m' S2).2),fun σ' H' h=>h,?_⟩
   walk_at "st"
   refine ⟨by omega,by omega,fun D nD=>?_⟩
   have m0:=ok2.m0
   have m1:=ok2.m1
   have hz:S2.hs.length≤1000:=by omega
   show ∃ W:Nat→Nat→St→Hp→Prop,(∃ m,W 0 m [none,some (.int S0.hs.length),some (.ref B.d)] _)∧_
   refine Aih (lo:=0) (n:=S0.hs.length) (fun i σ' H'=>∃ x,σ'=[x,some (.int S0.hs.length),some (.ref B.d)]∧Aav H3 H'∧H' D=some (.lst (((List.range i).map fun (f:Nat)=>(S2.mark + (f:Int)) % (S0.hs.length:Int)).map V.int))) ⟨none,rfl,(Aav.refl H3).upd nD,Aad⟩ ?_ ?_
   ·rintro i σ' H' hi ⟨x,rfl,sm,hL⟩
    simp only [Int.zero_add]
    walk_at "st"
    refine ⟨B.d,_,rfl,(t3.same sm).gMark,?_⟩
    walk_at "st"
    refine ⟨_,hL,(by rw [List.length_map,List.length_map,List.length_range,sizeLine_eq]; omega),_,rfl,sm.updN nD,?_⟩
    rw [Aad,List.range_succ,List.map_append,List.map_append]; rfl
   rintro σ' H4 ⟨x,rfl,s4,hL⟩
   have t4:=t3.same s4
   obtain ⟨mk,hmk⟩:=Int.eq_ofNat_of_zero_le m0
   have hord:=AkF S0.hs.length mk (by omega)
   rw [hmk] at hL
   generalize hO:(List.range S0.hs.length).map (fun (f:Nat)=>((mk:Int) + (f:Int)) % (S0.hs.length:Int))=ord at hL hord
   have mem:∀ y∈ord,0≤y∧y < S2.hs.length:=fun y hy=>AjE (by omega) (by omega) (by rw [hl2,hmk,← hord]; exact hy)
   have hff:AfM S2.hs S2.js S2.mark=(ord.filter (frB S2.hs S2.js)).head?:=by
    unfold AfM
    rw [hmk,hl2]
    rw [← hord,List.head?_filter]
   walk_at "st"
   refine ⟨⟨_,.of hL⟩,fun D2 nD2=>?_⟩
   have ordl:ord.length=S0.hs.length:=by rw [← hO,List.length_map,List.length_range]
   show ∃ W:Nat→Nat→St→Hp→Prop,(∃ m,W 0 m [none,some (.ref B.d)] _)∧_
   refine Ajw (K:=K) (a:=D) (xs:=ord.map V.int) (fun i σ' H'=>∃ x,σ'=[x,some (.ref B.d)]∧Aav H4 H'∧H' D2=some (.lst (((ord.take i).filter (frB S2.hs S2.js)).map V.int))) ⟨none,rfl,(Aav.refl H4).upd nD2,Aad⟩ (fun i σ H' _ ⟨_,_,sm,_⟩=>.of (sm _ _ hL)) ?_ ?_
   ·rintro i y σ' H' hi ⟨x,rfl,sm,hL2⟩
    rw [List.getElem?_map] at hi
    cases hk:ord[i]? with
    | none=>rw [hk] at hi; cases hi
    | some kk =>
     rw [hk] at hi; cases hi
     obtain ⟨k0,k1⟩:=mem kk (List.mem_of_getElem? hk)
     have kS:=t4.same sm
     have klt:kk.toNat < S2.hs.length:=by omega
     have ejs:S2.js[kk.toNat]?=some (S2.js.getD kk.toNat false):=by
      have:kk.toNat < S2.js.length:=by rw [t4.lj]; exact klt
      rw [List.getD,List.getElem?_eq_getElem this]; rfl
     have ehs:S2.hs[kk.toNat]?=some (S2.hs.getD kk.toNat .non):=by rw [List.getD,List.getElem?_eq_getElem klt]; rfl
     have ek:((kk.toNat:Nat):Int)=kk:=by omega
     have a1:atI (S2.hs.map (Ad1 S2)) kk=some (Ad1 S2 (S2.hs.getD kk.toNat .non)):=by rw [← ek]; exact Ac2 (by rw [List.getElem?_map,Int.toNat_natCast,ehs]; rfl)
     have a2:atI (S2.js.map V.bl) kk=some (.bl (S2.js.getD kk.toNat false)):=by rw [← ek]; exact Ac2 (by rw [List.getElem?_map,Int.toNat_natCast,ejs]; rfl)
     have wn:=Aon (S:=S2) (ho2 _ (List.mem_of_getElem? ehs))
     have tf:=AkG (frB S2.hs S2.js) ord i kk hk
     have fr:frB S2.hs S2.js kk=(decide (S2.hs.getD kk.toNat .non=.non) && !(S2.js.getD kk.toNat false)):=rfl
     have fl:((ord.take i).filter (frB S2.hs S2.js)).length≤S2.hs.length:=by
      have:=List.length_filter_le (frB S2.hs S2.js) (ord.take i)
      have:=List.length_take_le i ord
      have:=List.length_take_le' i ord
      omega
     walk_at "st"
     refine ⟨B.d,_,rfl,kS.gHeld,?_⟩
     walk_at "st"
     refine Or.inl ⟨_,_,_,_,rfl,rfl,.of kS.h,a1,?_⟩
     walk_at "st"
     generalize S2.hs.getD kk.toNat .non=hv at wn fr
     generalize S2.js.getD kk.toNat false=jb at a2 fr
     by_cases hv0:hv=.non
     ·rw [decide_eq_true (wn.mpr hv0)]
      rw [decide_eq_true hv0] at fr
      refine AgI ?_
      walk_at "st"
      refine ⟨B.d,_,rfl,kS.gStuck,?_⟩
      walk_at "st"
      refine Or.inl ⟨_,_,_,_,rfl,rfl,.of kS.u,a2,?_⟩
      walk_at "st"
      cases jb with
      | true =>
       refine AgH ?_
       refine ⟨_,rfl,sm,?_⟩
       rw [hL2,tf,fr,if_neg (by decide),List.append_nil]
      | false =>
       refine AgI ?_
       walk_at "st"
       refine ⟨_,hL2,(by rw [List.length_map,sizeLine_eq]; omega),_,rfl,sm.updN nD2,?_⟩
       rw [Aad,tf,fr,if_pos (show (true && !false)=true from rfl),List.map_append]; rfl
     ·rw [decide_eq_false (fun e=>hv0 (wn.mp e))]
      rw [decide_eq_false hv0] at fr
      refine AgH ?_
      refine AgH ?_
      refine ⟨_,rfl,sm,?_⟩
      rw [hL2,tf,fr,Bool.false_and,if_neg (by decide),List.append_nil]
   rintro σ' H5 ⟨x',rfl,s5,hL2⟩
   rw [List.length_map,List.take_length] at hL2
   have t5:=t4.same s5
   walk_at "st"
   refine ⟨(by show 0≤sizeLine; decide),fun le2 ne2=>?_⟩
   have s6:=(Aav.refl H5).upd (o:=.lst []) ne2
   have e6:(upd H5 le2 (.lst [])) le2=some (.lst []):=Aad
   have n6:∀ b,(upd H5 le2 (.lst [])) b=none→H5 b=none:=fun b e=>Aai e
   generalize upd H5 le2 (.lst [])=H6 at s6 e6 n6 ⊢
   have t6:=t5.same s6
   have sall:Aav H2 H6:=((s3.trans s4).trans s5).trans s6
   have nall:∀ b,H6 b=none→H2 b=none:=fun b e=>by
    cases h:H2 b with
    | none=>rfl
    | some o=>rw [sall _ _ h] at e; cases e
   have hr6:=sall _ _ hr2
   have sx6:AaE B.ws H H6:=fun b o hb e=>sall _ _ (sx2 b o hb e)
   cases hsn:ord.filter (frB S2.hs S2.js) with
   | nil =>
    rw [hsn] at hL2 hff
    have et:AeA S2=none:=by unfold AeA; rw [eq]; dsimp only; rw [hff]; rfl
    have e0:AbK S0=(tl,S2):=by
     rw [eq2]
     show (tl++(tonesF (rr.length + 1) S2).1,(tonesF (rr.length + 1) S2).2)=_
     unfold tonesF; rw [et]; dsimp only; rw [List.append_nil]
    refine Or.inr ⟨.list [],.list [],.lst (.of (s6 _ _ hL2)) .nil,.lst (.of e6) .nil,rfl,rfl,by decide,?_⟩
    walk_at "st"
    exact q H6 r xs (by rw [e0]; exact t6) sx6 (fun b e=>n2 b (nall b e)) nr hr6 (by rw [e0]; exact tp2.imp fun b ys e=>sall _ _ e)
   | cons k0 rest =>
    rw [hsn] at hL2 hff
    have hff:AfM S2.hs S2.js S2.mark=some k0:=hff
    obtain ⟨⟨k00,k01⟩,_⟩:=Agu m0 m1 hff
    obtain ⟨ly2,dp2⟩:=Ahl (k0 :: rest)
    have ly':PyData.canLay0 (.list ((k0 :: rest).map PyData.int))=true:=ly2
    have eqf2:PyData.eqv (.list ((k0 :: rest).map PyData.int)) (.list [])=false:=rfl
    refine Or.inr ⟨.list ((k0 :: rest).map PyData.int),.list [],.lst (.of (s6 _ _ hL2)) (AdH (k0 :: rest)),.lst (.of e6) .nil,ly',rfl,(by rw [AgU]; omega),?_⟩
    rw [eqf2]
    have hD6:=s6 _ _ hL2
    obtain ⟨ln,i1,i2,i3⟩:=ok2.idx (z:=z) (by rw [eq]; simp)
    generalize hi:Aez S2.lns z=i at i1
    have ilt:i < S2.lns.length:=(List.getElem?_eq_some_iff.mp i1).1
    have et:AeA S2=some ((z,k0,((i:Int) - S2.st.getD k0.toNat 0) % S2.places),{ S2 with q:=rr,lns:=S2.lns.set i { Aaq ln "dials" with held:=ln.held++[((Str.ofString ""),k0)] },hs:=S2.hs.set k0.toNat (.int i),ts:=S2.ts.set k0.toNat (S2.ts.getD k0.toNat 0 + 1),mark:=(k0 + 1) % S2.hs.length,st:=S2.st.set k0.toNat i,wt:=S2.wt.set k0.toNat (S2.wt.getD k0.toNat 0 + ((i:Int) - S2.st.getD k0.toNat 0) % S2.places) }):=by
     unfold AeA; rw [eq]; dsimp only; rw [hff]; dsimp only; rw [hi,i1]
    obtain ⟨ok3,_⟩:=ok2.next et fun k' e'=>by rw [hff] at e'; cases e'; exact ⟨k00,k01⟩
    have ho3:=ho2.next ok2 et
    have nm3:=AgD ok2 et
    have aI:∀ {l:List Int},l.length=S2.hs.length→atI (l.map V.int) k0=some (.int (l.getD k0.toNat 0)):=fun {l} hl=>by
     have ek:((k0.toNat:Nat):Int)=k0:=by omega
     have klt:k0.toNat < l.length:=by omega
     rw [← ek]
     exact Ac2 (by rw [List.getElem?_map,Int.toNat_natCast,List.getD,List.getElem?_eq_getElem klt]; rfl)
    have gi:(S2.lns.map fun ln=>V.str ln.num)[i]?=some (.str z):=by rw [List.getElem?_map,i1,← i2]; rfl
    have gno:∀ (m:Nat) (y:V),m < i→(S2.lns.map fun ln=>V.str ln.num)[m]?=some y→eqV y (.str z)=false:=fun m y hm hy=>by
     rw [List.getElem?_map] at hy
     obtain ⟨lm,e1,rfl⟩:=Option.map_eq_some_iff.mp hy
     rw [Ai4]
     refine decide_eq_false fun e=>?_
     exact Akx ok2.num (i:=m) (j:=i) (x:=lm.num) (y:=ln.num) (by rw [List.getElem?_map,e1]; rfl) (by rw [List.getElem?_map,i1]; rfl) (by omega) (by rw [i2]; exact e)
    have gfl:(S2.lns.map fun ln=>V.str ln.num).all Afl=true:=by
     rw [List.all_eq_true]
     intro y my
     obtain ⟨lm,_,rfl⟩:=List.mem_map.mp my
     rfl
    have gz:eqV (.str z) (.str z)=true:=by rw [Ai4]; exact decide_eq_true rfl
    have epl:((S2.lns.map fun ln=>V.str ln.num).length:Int)=S2.places:=by rw [List.length_map,t6.pl]
    walk_at "st"
    refine Or.inl ⟨D2,_,0,_,rfl,rfl,.of hD6,Ac2 (j:=0) rfl,?_⟩
    walk_at "st"
    refine ⟨B.d,_,rfl,t6.gQueue,?_⟩
    refine ⟨.inl ⟨rfl,_,.of t6.q⟩,?_⟩
    walk_at "st"
    refine ⟨B.q,_,0,0,.str z,rfl,rfl,t6.q,(by decide),(by decide),(by rw [eq,List.map_cons,List.length_cons]; unfold seqIndex?; simp),(by rw [eq]; rfl),?_⟩
    have el:(S2.q.map V.str).eraseIdx 0=rr.map V.str:=by rw [eq]; rfl
    rw [el]
    have t7:=t6.setQ (q':=rr)
    generalize hH7:upd H6 B.q (.lst (rr.map V.str))=H7 at t7 ⊢
    walk_at "st"
    refine ⟨B.d,_,rfl,t7.gLines,?_⟩
    refine ⟨.inl ⟨rfl,_,.of t7.l⟩,?_⟩
    walk_at "st"
    refine ⟨B.l,_,.str z,i,rfl,rfl,t7.l,rfl,gfl,⟨_,gi,gz⟩,gno,?_⟩
    walk_at "st"
    refine ⟨B.d,_,rfl,t7.gSpots,?_⟩
    walk_at "st"
    refine Or.inl ⟨B.p,_,k0,_,rfl,rfl,.of t7.p,aI t6.ls,?_⟩
    walk_at "st"
    refine ⟨B.d,_,rfl,t7.gLines,?_⟩
    walk_at "st"
    refine Or.inr ⟨B.l,_,rfl,.inl (.of t7.l),?_⟩
    rw [show ((List.map (fun ln:LnS=>V.str ln.num) S2.lns).length:Int)=S2.places from epl]
    have plp:=ok2.pl
    refine ⟨_,_,rfl,rfl,plp,?_⟩
    walk_at "st"
    refine ⟨B.d,_,rfl,t7.gLines,?_⟩
    refine ⟨.inl ⟨rfl,_,.of t7.l⟩,?_⟩
    walk_at "st"
    refine ⟨B.l,_,.str z,i,rfl,rfl,t7.l,rfl,gfl,⟨_,gi,gz⟩,gno,?_⟩
    walk_at "st"
    refine ⟨B.d,_,rfl,t7.gSpots,?_⟩
    walk_at "st"
    refine ⟨B.p,_,k0,_,rfl,rfl,t7.p,Aet k00 (by rw [List.length_map,t7.ls]; exact k01),?_⟩
    rw [show (S2.st.map V.int).set k0.toNat (.int (i:Int))=(S2.st.set k0.toNat (i:Int)).map V.int from (List.map_set ..).symm]
    have t8:=t7.setP (st':=S2.st.set k0.toNat (i:Int)) (by rw [List.length_set])
    generalize hH8:upd H7 B.p (.lst ((S2.st.set k0.toNat (i:Int)).map V.int))=H8 at t8 ⊢
    walk_at "st"
    refine ⟨B.d,_,rfl,t8.gSteps,?_⟩
    walk_at "st"
    refine ⟨B.t,_,k0,_,rfl,rfl,k00,.of t8.t,aI t6.lw,?_⟩
    walk_at "st"
    refine ⟨B.t,_,k0,_,rfl,rfl,t8.t,Aet k00 (by rw [List.length_map,t8.lw]; exact k01),?_⟩
    rw [show (S2.wt.map V.int).set k0.toNat (.int (S2.wt.getD k0.toNat 0 + ((i:Int) - S2.st.getD k0.toNat 0) % S2.places))=(S2.wt.set k0.toNat (S2.wt.getD k0.toNat 0 + ((i:Int) - S2.st.getD k0.toNat 0) % S2.places)).map V.int from (List.map_set ..).symm]
    have t9:=t8.setT (wt':=S2.wt.set k0.toNat (S2.wt.getD k0.toNat 0 + ((i:Int) - S2.st.getD k0.toNat 0) % S2.places)) (by rw [List.length_set])
    generalize hH9:upd H8 B.t (.lst ((S2.wt.set k0.toNat (S2.wt.getD k0.toNat 0 + ((i:Int) - S2.st.getD k0.toNat 0) % S2.places)).map V.int))=H9 at t9 ⊢
    walk_at "st"
    refine ⟨B.d,_,rfl,.inl ⟨_,.inr "mark",t9.d,rfl,(by show 8 < sizeLine; decide),rfl⟩,?_⟩
    rw [show AfX (stD B S2.mark) (.inr "mark") (.int ((k0 + 1) % (S0.hs.length:Int)))=stD B ((k0 + 1) % (S2.hs.length:Int)) from by rw [hl2]; rfl]
    have t10:=t9.setM (m':=(k0 + 1) % (S2.hs.length:Int))
    generalize hH10:upd H9 B.d (.dK (stD B ((k0 + 1) % (S2.hs.length:Int))))=H10 at t10 ⊢
    walk_at "st"
    refine ⟨B.d,_,rfl,t10.gHeld,?_⟩
    walk_at "st"
    have h10:H10 B.h=some (.lst (S2.hs.map (Ad1 S2))):=t10.h
    refine ⟨B.h,_,k0,_,rfl,rfl,h10,Aet k00 (by rw [List.length_map]; exact k01),?_⟩
    have nm:(S2.lns.set i { Aaq ln "dials" with held:=ln.held++[((Str.ofString ""),k0)] }).map (·.num)=S2.lns.map (·.num):=Aax (f:=fun x:LnS=>x.num) (y:={ Aaq ln "dials" with held:=ln.held++[((Str.ofString ""),k0)] }) i1 rfl
    have t11:=t10.setH (lns':=S2.lns.set i { Aaq ln "dials" with held:=ln.held++[((Str.ofString ""),k0)] }) (hs':=S2.hs.set k0.toNat (.int i)) (by rw [List.length_set]) nm
    obtain ⟨S3,hS3⟩:∃ S3:Aap,S3={ S2 with q:=rr,st:=S2.st.set k0.toNat (i:Int),wt:=S2.wt.set k0.toNat (S2.wt.getD k0.toNat 0 + ((i:Int) - S2.st.getD k0.toNat 0) % S2.places),mark:=(k0 + 1) % (S2.hs.length:Int),lns:=S2.lns.set i { Aaq ln "dials" with held:=ln.held++[((Str.ofString ""),k0)] } }:=⟨_,rfl⟩
    have ew:∀ v,Ad1 S3 v=Ad1 S2 v:=fun v=>Ai2 (by rw [hS3]; exact nm) v
    have eh:(S2.hs.map (Ad1 S2)).set k0.toNat (.str z)=(S2.hs.set k0.toNat (.int i)).map (Ad1 S3):=by
     rw [List.map_congr_left (fun v _=>ew v),List.map_set,AeU i1,i2]
    rw [show (List.map (Ad1 S2) S2.hs).set k0.toNat (.str z)=_ from eh]
    have t11:StT (upd H10 B.h (.lst ((S2.hs.set k0.toNat (.int i)).map (Ad1 S3)))) B { S2 with q:=rr,lns:=S2.lns.set i { Aaq ln "dials" with held:=ln.held++[((Str.ofString ""),k0)] },hs:=S2.hs.set k0.toNat (.int i),mark:=(k0 + 1) % (S2.hs.length:Int),st:=S2.st.set k0.toNat (i:Int),wt:=S2.wt.set k0.toNat (S2.wt.getD k0.toNat 0 + ((i:Int) - S2.st.getD k0.toNat 0) % S2.places) }:=by rw [hS3]; exact t11
    generalize hH11:upd H10 B.h (.lst ((S2.hs.set k0.toNat (.int i)).map (Ad1 S3)))=H11 at t11 ⊢
    walk_at "st"
    refine ⟨B.d,_,rfl,t11.gShares,?_⟩
    walk_at "st"
    refine ⟨B.n,_,k0,_,rfl,rfl,k00,.of t11.n,aI t6.lt,?_⟩
    walk_at "st"
    refine ⟨B.n,_,k0,_,rfl,rfl,t11.n,Aet k00 (by rw [List.length_map,t6.lt]; exact k01),?_⟩
    rw [show (S2.ts.map V.int).set k0.toNat (.int (S2.ts.getD k0.toNat 0 + 1))=(S2.ts.set k0.toNat (S2.ts.getD k0.toNat 0 + 1)).map V.int from (List.map_set ..).symm]
    have t12:=t11.setN (ts':=S2.ts.set k0.toNat (S2.ts.getD k0.toNat 0 + 1)) (by rw [List.length_set])
    generalize hH12:upd H11 B.n (.lst ((S2.ts.set k0.toNat (S2.ts.getD k0.toNat 0 + 1)).map V.int))=H12 at t12 ⊢
    have fr:∀ b o,b ∉ B.ws→H6 b=some o→H12 b=some o:=fun b o hb e=>by
     rw [← hH12,Aah (fun z=>hb (by rw [z]; simp [StA.ws,StA.ls])),← hH11,Aah (fun z=>hb (by rw [z]; simp [StA.ws,StA.ls])),← hH10,Aah (fun z=>hb (by rw [z]; simp [StA.ws,StA.ls])),← hH9,Aah (fun z=>hb (by rw [z]; simp [StA.ws,StA.ls])),← hH8,Aah (fun z=>hb (by rw [z]; simp [StA.ws,StA.ls])),← hH7,Aah (fun z=>hb (by rw [z]; simp [StA.ws,StA.ls]))]
     exact e
    have nn:∀ b,H12 b=none→H6 b=none:=fun b e=>by
     rw [← hH12] at e
     have e:=Aai e
     rw [← hH11] at e
     have e:=Aai e
     rw [← hH10] at e
     have e:=Aai e
     rw [← hH9] at e
     have e:=Aai e
     rw [← hH8] at e
     have e:=Aai e
     rw [← hH7] at e
     exact Aai e
    have rB:=t0.fresh nr
    have hr12:=fr r _ rB hr6
    have tp12:Tps H12 xs (tl.map AeT):=tp2.imp fun b ys e=>fr b _ (t6.tup (sall _ _ e)) (sall _ _ e)
    have hO12:∀ b o,b ∉ B.ws→H b=some o→H12 b=some o:=fun b o hb e=>fr b o hb (sx6 b o hb e)
    walk_at "st"
    refine ⟨.inl ⟨rfl,_,.of hr12⟩,?_⟩
    walk_at "st"
    refine ⟨(by show 4≤sizeLine; decide),fun v nv=>?_⟩
    have s13:=(Aav.refl H12).upd (o:=.tup (AeT (z,k0,((i:Int) - S2.st.getD k0.toNat 0) % S2.places))) nv
    have e13:(upd H12 v (.tup (AeT (z,k0,((i:Int) - S2.st.getD k0.toNat 0) % S2.places)))) v=some (.tup (AeT (z,k0,((i:Int) - S2.st.getD k0.toNat 0) % S2.places))):=Aad
    have n13:∀ b,(upd H12 v (.tup (AeT (z,k0,((i:Int) - S2.st.getD k0.toNat 0) % S2.places)))) b=none→H12 b=none:=fun b e=>Aai e
    walk_at "st"
    refine ⟨r,_,_,rfl,rfl,s13 _ _ hr12,(by rw [List.length_map,sizeLine_eq]; rw [List.length_cons] at len2; omega),?_⟩
    have er:(xs.map V.ref++[V.ref v])=(xs++[v]).map V.ref:=by rw [List.map_append]; rfl
    have t14:=(t12.same s13).out (o:=.lst (xs.map V.ref++[V.ref v])) rB
    have h14:(upd (upd H12 v (.tup (AeT (z,k0,((i:Int) - S2.st.getD k0.toNat 0) % S2.places)))) r (.lst (xs.map V.ref++[V.ref v]))) r=some (.lst ((xs++[v]).map V.ref)):=Aad.trans (by rw [er])
    have tp13:Tps (upd H12 v (.tup (AeT (z,k0,((i:Int) - S2.st.getD k0.toNat 0) % S2.places)))) (xs++[v]) ((tl++[(z,k0,((i:Int) - S2.st.getD k0.toNat 0) % S2.places)]).map AeT):=by
     rw [List.map_append]
     exact (tp12.imp fun b ys e=>s13 _ _ e).app ⟨e13,trivial⟩
    have tp14:=tp13.imp (H':=upd (upd H12 v (.tup (AeT (z,k0,((i:Int) - S2.st.getD k0.toNat 0) % S2.places)))) r (.lst (xs.map V.ref++[V.ref v]))) fun b ys e=>by rw [Aah (AaI e (s13 _ _ hr12) (by intro z; cases z))]; exact e
    refine ⟨rr.length,Nat.lt_succ_self _,_,_,_,_,_,xs++[v],tl++[(z,k0,((i:Int) - S2.st.getD k0.toNat 0) % S2.places)],rfl,t14,ok3,ho3,nm3.trans nm2,(by show (S2.hs.set _ _).length=_; rw [List.length_set]; exact hl2),?_,?_,h14,tp14,rfl,(by rw [List.length_append,List.length_singleton]; rw [List.length_cons] at len2; omega),?_⟩
    ·intro b o hb e
     rw [Aah (Aaj e nr)]
     exact s13 _ _ (hO12 b o hb e)
    ·intro b e
     exact n2 b (nall b (nn b (n13 b (Aai e))))
    ·rw [eq2]
     show (tl++(tonesF (rr.length + 1) S2).1,(tonesF (rr.length + 1) S2).2)=_
     have ef2:∀ n,tonesF (n + 1) S2=_:=fun n=>by unfold tonesF; rw [et]
     rw [ef2,List.append_assoc]
     rfl
end
local macro_rules | `(tactic| walk_at "st")=>`(tactic| repeat (first
 | refine ⟨_,rfl,?_⟩
 | refine ⟨_,_,rfl,rfl,?_⟩
 | refine ⟨_,_,rfl,?_⟩
 | refine Or.inl ⟨_,_,rfl,rfl,?_⟩
 | refine Or.inl ⟨rfl,?_⟩
 | refine ⟨rfl,?_⟩
 | refine Or.inl ⟨_,_,_,_,rfl,rfl,.of (by assumption),rfl,?_⟩
 | (refine And.intro (show Aeq _ _ from ?_) ?_; (first | exact Or.inr ⟨by omega,by omega⟩ | exact Or.inl ⟨by omega,by omega⟩))
 | (refine And.intro (show Ae4 _ _ from ?_) ?_; exact ⟨by omega,by omega⟩)
 | (refine And.intro (show (0:Int) < _ from ?_) ?_; first | decide | omega)))
def AqD (S:Aap) (i:Nat):Prop:=∀ k:Nat,S.hs[k]?≠some (.int i)
def Holds (S:Aap) (i:Nat) (ln:LnS):Prop:=∃ k:Nat,ln.held=[((Str.ofString ""),(k:Int))]∧S.hs[k]?=some (.int i)∧∀ k':Nat,S.hs[k']?=some (.int i)→k'=k
def LnW (S:Aap) (i:Nat) (ln:LnS):Prop:=ln.far=.non∧((ln.st="rests"∧ln.held=[]∧ln.num ∉ S.q∧AqD S i)∨(ln.st="waits"∧ln.held=[]∧ln.num∈S.q∧AqD S i)∨(ln.st="dials"∧ln.num ∉ S.q∧Holds S i ln))
structure WF (S:Aap):Prop where
 qok:QOk S
 hs:AlN S
 few:S.lns.length≤60
 ln:∀ (i:Nat) (ln:LnS),S.lns[i]?=some ln→LnW S i ln
theorem WF.waits {S:Aap} (w:WF S) {i:Nat} {ln:LnS} (h:S.lns[i]?=some ln) (m:ln.num∈S.q):ln.st="waits"∧ln.held=[]∧AqD S i:=by
 obtain ⟨_,⟨_,_,n,_⟩ | ⟨a,b,_,c⟩ | ⟨_,n,_⟩⟩:=w.ln i ln h
 ·exact absurd m n
 ·exact ⟨a,b,c⟩
 ·exact absurd m n
theorem AhZ {lns:List LnS} (nd:(lns.map (·.num)).Nodup) {i j:Nat} {a b:LnS} (h1:lns[i]?=some a) (h2:lns[j]?=some b) (ne:i≠j):a.num≠b.num :=
 Akx nd (i:=i) (j:=j) (by rw [List.getElem?_map,h1]; rfl) (by rw [List.getElem?_map,h2]; rfl) ne
theorem Anh {i j:Nat} (h:i≠j):(V.int (i:Int))≠.int (j:Int):=fun e=>h (Int.ofNat.inj (V.int.inj e))
theorem Ab7 {α:Type} {l:List α} {i j:Nat} {x y:α} (h:i < l.length):(l.set i x)[j]?=some y↔(i=j∧x=y)∨(i≠j∧l[j]?=some y):=by
 rw [List.getElem?_set]
 by_cases e:i=j
 ·subst e
  rw [if_pos rfl,if_pos h]
  exact ⟨fun z=>.inl ⟨rfl,Option.some.inj z⟩,fun z=>z.elim (fun w=>by rw [w.2]) fun w=>absurd rfl w.1⟩
 ·rw [if_neg e]
  exact ⟨fun z=>.inr ⟨e,z⟩,fun z=>z.elim (fun w=>absurd w.1 e) fun w=>w.2⟩
theorem WF.tone {S S':Aap} {t:Str×Int×Int} (w:WF S) (e:AeA S=some (t,S')):WF S':=by
 have hk:∀ k,AfM S.hs S.js S.mark=some k→0≤k∧k < S.hs.length:=fun k ek=>(Agu w.qok.m0 w.qok.m1 ek).1
 have fw:S'.lns.length≤60:=by
  have:=congrArg List.length (AgD w.qok e)
  rw [List.length_map,List.length_map] at this
  rw [this]; exact w.few
 refine ⟨(w.qok.next e hk).1,w.hs.next w.qok e,fw,?_⟩
 obtain ⟨z,r,k,ln,e1,e2,e3,e4,e5,rfl⟩:=AdW w.qok e
 obtain ⟨⟨k0,k1⟩,fk⟩:=Agu w.qok.m0 w.qok.m1 e2
 have ndq:=w.qok.nd
 rw [e1] at ndq
 obtain ⟨zr,ndr⟩:=List.nodup_cons.mp ndq
 generalize hi:Aez S.lns z=i at e3 ⊢
 have ilt:i < S.lns.length:=(List.getElem?_eq_some_iff.mp e3).1
 have klt:k.toNat < S.hs.length:=by omega
 have ek:((k.toNat:Nat):Int)=k:=by omega
 have hkn:S.hs[k.toNat]?=some .non:=by
  unfold frB at fk
  rw [Bool.and_eq_true,decide_eq_true_eq,List.getD,List.getElem?_eq_getElem klt] at fk
  rw [List.getElem?_eq_getElem klt]
  exact congrArg some fk.1
 obtain ⟨w1,w2,w3⟩:=w.waits e3 (by rw [e4,e1]; exact List.mem_cons_self)
 intro j lm hj
 have hj:(S.lns.set i { Aaq ln "dials" with held:=ln.held++[((Str.ofString ""),k)] })[j]?=some lm:=hj
 rcases (Ab7 ilt).mp hj with ⟨rfl,rfl⟩ | ⟨ne,hj⟩
 ·refine ⟨rfl,.inr (.inr ⟨rfl,?_,k.toNat,?_,?_,?_⟩)⟩
  ·show ln.num ∉ r
   rw [e4]; exact zr
  ·show ln.held++[((Str.ofString ""),k)]=_
   rw [w2,ek]; rfl
  ·exact (Ab7 klt).mpr (.inl ⟨rfl,rfl⟩)
  ·intro k' h'
   rcases (Ab7 klt).mp h' with ⟨a,_⟩ | ⟨_,h'⟩
   ·exact a.symm
   ·exact absurd h' (w3 k')
 ·have lone:AqD S j→∀ k':Nat,(S.hs.set k.toNat (.int (i:Int)))[k']?≠some (.int (j:Int)):=fun l k' h'=>by
   rcases (Ab7 klt).mp h' with ⟨_,b⟩ | ⟨_,h'⟩
   ·exact Anh ne b
   ·exact l k' h'
  have nz:lm.num≠z:=fun x=>AhZ w.qok.num e3 hj ne (by rw [e4,x])
  obtain ⟨f,⟨a,b,c,d⟩ | ⟨a,b,c,d⟩ | ⟨a,c,k',b1,b2,b3⟩⟩:=w.ln j lm hj
  ·exact ⟨f,.inl ⟨a,b,fun m=>c (by rw [e1]; exact List.mem_cons_of_mem _ m),lone d⟩⟩
  ·refine ⟨f,.inr (.inl ⟨a,b,?_,lone d⟩)⟩
   rw [e1] at c
   exact (List.mem_cons.mp c).elim (fun x=>absurd x nz) id
  ·refine ⟨f,.inr (.inr ⟨a,fun m=>c (by rw [e1]; exact List.mem_cons_of_mem _ m),k',b1,(Ab7 klt).mpr (.inr ⟨fun x=>?_,b2⟩),fun k2 h2=>?_⟩)⟩
   ·rw [← x,hkn] at b2; cases b2
   ·rcases (Ab7 klt).mp h2 with ⟨_,b⟩ | ⟨_,h2⟩
    ·exact absurd b (Anh ne)
    ·exact b3 k2 h2
theorem WF.tonesF:∀ (n:Nat) {S:Aap},WF S→WF (tonesF n S).2
 | 0,_,w=>w
 | n + 1,S,w=>by
  unfold Lw.tonesF
  cases e:AeA S with
  | none=>exact w
  | some x=>exact WF.tonesF n (w.tone (t:=x.1) (S':=x.2) e)
theorem WF.tones {S:Aap} (w:WF S):WF (AbK S).2:=WF.tonesF _ w
local macro_rules | `(tactic| walk_at "st")=>`(tactic| repeat (first
 | refine ⟨_,rfl,?_⟩
 | refine ⟨_,_,rfl,rfl,?_⟩
 | refine ⟨_,_,rfl,?_⟩
 | refine Or.inl ⟨_,_,rfl,rfl,?_⟩
 | refine Or.inl ⟨rfl,?_⟩
 | refine ⟨rfl,?_⟩
 | refine Or.inl ⟨_,_,_,_,rfl,rfl,.of (by assumption),rfl,?_⟩
 | (refine And.intro (show Aeq _ _ from ?_) ?_; (first | exact Or.inr ⟨by omega,by omega⟩ | exact Or.inl ⟨by omega,by omega⟩))
 | (refine And.intro (show Ae4 _ _ from ?_) ?_; exact ⟨by omega,by omega⟩)
 | (refine And.intro (show (0:Int) < _ from ?_) ?_; first | decide | omega)))
theorem Ani {α:Type} [BEq α] [LawfulBEq α]:∀ {l m:List α},l.Nodup→(∀ x∈l,x∈m)→l.length≤m.length
 | [],_,_,_=>Nat.zero_le _
 | x :: l,m,nd,h=>by
  obtain ⟨nx,nd⟩:=List.nodup_cons.mp nd
  have mx:=h x List.mem_cons_self
  have:=Ani (l:=l) (m:=m.erase x) nd fun y hy=>(List.mem_erase_of_ne (fun z:y=x=>nx (z▸hy))).mpr (h y (List.mem_cons_of_mem _ hy))
  rw [List.length_erase_of_mem mx] at this
  have:0 < m.length:=List.length_pos_of_mem mx
  rw [List.length_cons]
  omega
theorem QOk.few' {S:Aap} (nd:S.q.Nodup) (h:∀ z∈S.q,∃ ln∈S.lns,ln.num=z∧ln.held=[]) (f:S.lns.length≤60):S.q.length≤60:=by
 have:=Ani (l:=S.q) (m:=S.lns.map (·.num)) nd fun z hz=>by
  obtain ⟨ln,ml,en,_⟩:=h z hz
  exact List.mem_map.mpr ⟨ln,ml,en⟩
 rw [List.length_map] at this
 omega
theorem WF.q60 {S:Aap} (w:WF S):S.q.length≤60:=QOk.few' w.qok.nd w.qok.ln w.few
theorem WF.dn {S:Aap} (w:WF S) {x:List V}:WF { S with dn:=x }:=⟨⟨w.qok.nd,w.qok.ln,w.qok.num,w.qok.m0,w.qok.m1,w.qok.pl,w.qok.few⟩,w.hs,w.few,w.ln⟩
theorem WF.jam {S:Aap} (w:WF S) {x:List Bool}:WF { S with js:=x }:=⟨⟨w.qok.nd,w.qok.ln,w.qok.num,w.qok.m0,w.qok.m1,w.qok.pl,w.qok.few⟩,w.hs,w.few,w.ln⟩
theorem AfB {S:Aap} (w:WF S) {i:Nat} {ln ln':LnS} (h:S.lns[i]?=some ln) (hh:ln'.held=[]∧ln'.num=ln.num) {y:Str} (hy:∃ lm∈S.lns,lm.num=y∧lm.held=[]):∃ lm∈S.lns.set i ln',lm.num=y∧lm.held=[]:=by
 obtain ⟨lm,ml,en,eh⟩:=hy
 obtain ⟨j,hj,ej⟩:=List.getElem_of_mem ml
 have hj':S.lns[j]?=some lm:=by rw [List.getElem?_eq_getElem hj,ej]
 have ilt:=(List.getElem?_eq_some_iff.mp h).1
 by_cases e:i=j
 ·subst e
  rw [h] at hj'; cases hj'
  exact ⟨ln',List.mem_of_getElem? ((Ab7 ilt).mpr (.inl ⟨rfl,rfl⟩)),by rw [hh.2,en],hh.1⟩
 ·exact ⟨lm,List.mem_of_getElem? ((Ab7 ilt).mpr (.inr ⟨e,hj'⟩)),en,eh⟩
theorem WF.lift {S:Aap} (w:WF S) {i:Nat} {ln:LnS} (h:S.lns[i]?=some ln) (hr:ln.st="rests"):WF { S with lns:=S.lns.set i (Aaq ln "waits"),q:=S.q++[ln.num] }:=by
 have ilt:=(List.getElem?_eq_some_iff.mp h).1
 have ⟨hh,hn,hl⟩:ln.held=[]∧ln.num ∉ S.q∧AqD S i:=by
  obtain ⟨_,⟨_,b,c,d⟩ | ⟨a,_⟩ | ⟨a,_⟩⟩:=w.ln i ln h
  ·exact ⟨b,c,d⟩
  ·rw [hr] at a; exact absurd a (by decide)
  ·rw [hr] at a; exact absurd a (by decide)
 have nd':(S.q++[ln.num]).Nodup:=List.nodup_append.mpr ⟨w.qok.nd,by simp,fun x hx y hy e=>by
  have hy:y=ln.num:=by simpa using hy
  exact hn (by rw [← hy,← e]; exact hx)⟩
 have lnq:∀ z∈S.q++[ln.num],∃ lm∈S.lns.set i (Aaq ln "waits"),lm.num=z∧lm.held=[]:=fun z hz=>by
  rcases List.mem_append.mp hz with m | m
  ·exact AfB (ln':=Aaq ln "waits") w h ⟨hh,rfl⟩ (w.qok.ln z m)
  ·have m:z=ln.num:=by simpa using m
   exact ⟨Aaq ln "waits",List.mem_of_getElem? ((Ab7 ilt).mpr (.inl ⟨rfl,rfl⟩)),m.symm,hh⟩
 have fw:(S.lns.set i (Aaq ln "waits")).length≤60:=by rw [List.length_set]; exact w.few
 refine ⟨⟨nd',lnq,?_,w.qok.m0,w.qok.m1,w.qok.pl,Nat.le_trans (QOk.few' (S:={ S with lns:=S.lns.set i (Aaq ln "waits"),q:=S.q++[ln.num] }) nd' lnq fw) (by decide)⟩,fun v mv=>?_,fw,fun j lm hj=>?_⟩
 ·show ((S.lns.set i _).map _).Nodup
  rw [Aax (f:=fun x:LnS=>x.num) (y:=Aaq ln "waits") h rfl]; exact w.qok.num
 ·rcases w.hs v mv with z | ⟨j,z,jl⟩
  ·exact .inl z
  ·exact .inr ⟨j,z,by show j < (S.lns.set i _).length; rw [List.length_set]; exact jl⟩
 ·have hj:(S.lns.set i (Aaq ln "waits"))[j]?=some lm:=hj
  rcases (Ab7 ilt).mp hj with ⟨rfl,rfl⟩ | ⟨ne,hj⟩
  ·exact ⟨rfl,.inr (.inl ⟨rfl,hh,List.mem_append_right _ (by simp [Aaq]),hl⟩)⟩
  ·have nz:lm.num≠ln.num:=fun x=>AhZ w.qok.num h hj ne x.symm
   have nin:lm.num ∉ S.q→lm.num ∉ S.q++[ln.num]:=fun n m=>(List.mem_append.mp m).elim n fun m=>nz (by simpa using m)
   obtain ⟨f,⟨a,b,c,d⟩ | ⟨a,b,c,d⟩ | ⟨a,c,d⟩⟩:=w.ln j lm hj
   ·exact ⟨f,.inl ⟨a,b,nin c,d⟩⟩
   ·exact ⟨f,.inr (.inl ⟨a,b,List.mem_append_left _ c,d⟩)⟩
   ·exact ⟨f,.inr (.inr ⟨a,nin c,d⟩)⟩
theorem WF.hang {S:Aap} (w:WF S) {i:Nat} {ln:LnS} (h:S.lns[i]?=some ln) (hr:ln.st="waits"∨ln.st="dials"):WF { S with lns:=S.lns.set i { Aaq ln "rests" with held:=[] },hs:=Age S.hs ln.held,q:=if ln.st="waits" then S.q.erase ln.num else S.q }:=by
 have ilt:=(List.getElem?_eq_some_iff.mp h).1
 have hnum:((S.lns.set i { Aaq ln "rests" with held:=[] }).map (·.num)).Nodup:=by
  rw [Aax (f:=fun x:LnS=>x.num) (y:={ Aaq ln "rests" with held:=[] }) h rfl]; exact w.qok.num
 have fw:(S.lns.set i { Aaq ln "rests" with held:=[] }).length≤60:=by rw [List.length_set]; exact w.few
 obtain ⟨_,⟨a,_⟩ | ⟨a,hh,hn,hl⟩ | ⟨a,hn,k,hh,hk,hu⟩⟩:=w.ln i ln h
 ·rcases hr with e | e <;> rw [a] at e <;> exact absurd e (by decide)
 ·rw [if_pos a,hh]
  have mer:∀ {y},y∈S.q.erase ln.num↔y≠ln.num∧y∈S.q:=fun {y}=>w.qok.nd.mem_erase_iff
  refine ⟨⟨w.qok.nd.erase _,fun z hz=>AfB (ln':={ Aaq ln "rests" with held:=[] }) w h ⟨rfl,rfl⟩ (w.qok.ln z (mer.mp hz).2),hnum,w.qok.m0,w.qok.m1,w.qok.pl,?_⟩,fun v mv=>?_,fw,fun j lm hj=>?_⟩
  ·show (S.q.erase ln.num).length≤100
   have:=w.q60
   have:=List.length_erase_le (a:=ln.num) (l:=S.q)
   omega
  ·rcases w.hs v mv with z | ⟨j,z,jl⟩
   ·exact .inl z
   ·exact .inr ⟨j,z,by show j < (S.lns.set i _).length; rw [List.length_set]; exact jl⟩
  ·have hj:(S.lns.set i { Aaq ln "rests" with held:=[] })[j]?=some lm:=hj
   rcases (Ab7 ilt).mp hj with ⟨rfl,rfl⟩ | ⟨ne,hj⟩
   ·exact ⟨rfl,.inl ⟨rfl,rfl,fun m=>(mer.mp m).1 rfl,hl⟩⟩
   ·have nz:lm.num≠ln.num:=fun x=>AhZ w.qok.num h hj ne x.symm
    obtain ⟨f,⟨a,b,c,d⟩ | ⟨a,b,c,d⟩ | ⟨a,c,d⟩⟩:=w.ln j lm hj
    ·exact ⟨f,.inl ⟨a,b,fun m=>c (mer.mp m).2,d⟩⟩
    ·exact ⟨f,.inr (.inl ⟨a,b,mer.mpr ⟨nz,c⟩,d⟩)⟩
    ·exact ⟨f,.inr (.inr ⟨a,fun m=>c (mer.mp m).2,d⟩)⟩
 ·have nw:ln.st≠"waits":=by rw [a]; decide
  rw [if_neg nw,hh]
  have klt:k < S.hs.length:=(List.getElem?_eq_some_iff.mp hk).1
  have ehs:Age S.hs [((Str.ofString ""),(k:Int))]=S.hs.set k .non:=by
   show S.hs.set ((k:Int)).toNat .non=_
   rw [Int.toNat_natCast]
  rw [ehs]
  refine ⟨⟨w.qok.nd,fun z hz=>AfB (ln':={ Aaq ln "rests" with held:=[] }) w h ⟨rfl,rfl⟩ (w.qok.ln z hz),hnum,w.qok.m0,by show S.mark≤((S.hs.set k .non).length:Nat); rw [List.length_set]; exact w.qok.m1,w.qok.pl,w.qok.few⟩,fun v mv=>?_,fw,fun j lm hj=>?_⟩
  ·have mv:v∈S.hs.set k .non:=mv
   rcases List.mem_or_eq_of_mem_set mv with m | m
   ·rcases w.hs v m with z | ⟨j,z,jl⟩
    ·exact .inl z
    ·exact .inr ⟨j,z,by show j < (S.lns.set i _).length; rw [List.length_set]; exact jl⟩
   ·exact .inl m
  ·have hj:(S.lns.set i { Aaq ln "rests" with held:=[] })[j]?=some lm:=hj
   have old:∀ {j' k':Nat},(S.hs.set k .non)[k']?=some (.int (j':Int))→k≠k'∧S.hs[k']?=some (.int (j':Int)):=fun {j' k'} h'=>by
    rcases (Ab7 klt).mp h' with ⟨_,b⟩ | b
    ·cases b
    ·exact b
   rcases (Ab7 ilt).mp hj with ⟨rfl,rfl⟩ | ⟨ne,hj⟩
   ·exact ⟨rfl,.inl ⟨rfl,rfl,hn,fun k' h'=>(old h').1 (hu k' (old h').2).symm⟩⟩
   ·obtain ⟨f,⟨a,b,c,d⟩ | ⟨a,b,c,d⟩ | ⟨a,c,k2,b1,b2,b3⟩⟩:=w.ln j lm hj
    ·exact ⟨f,.inl ⟨a,b,c,fun k' h'=>d k' (old h').2⟩⟩
    ·exact ⟨f,.inr (.inl ⟨a,b,c,fun k' h'=>d k' (old h').2⟩)⟩
    ·refine ⟨f,.inr (.inr ⟨a,c,k2,b1,(Ab7 klt).mpr (.inr ⟨fun x=>?_,b2⟩),fun k' h'=>b3 k' (old h').2⟩)⟩
     rw [← x,hk] at b2
     exact Anh ne (Option.some.inj b2)
local macro_rules | `(tactic| walk_at "st")=>`(tactic| repeat (first
 | refine ⟨_,rfl,?_⟩
 | refine ⟨_,_,rfl,rfl,?_⟩
 | refine ⟨_,_,rfl,?_⟩
 | refine Or.inl ⟨_,_,rfl,rfl,?_⟩
 | refine Or.inl ⟨rfl,?_⟩
 | refine ⟨rfl,?_⟩
 | refine Or.inl ⟨_,_,_,_,rfl,rfl,.of (by assumption),rfl,?_⟩
 | (refine And.intro (show Aeq _ _ from ?_) ?_; (first | exact Or.inr ⟨by omega,by omega⟩ | exact Or.inl ⟨by omega,by omega⟩))
 | (refine And.intro (show Ae4 _ _ from ?_) ?_; exact ⟨by omega,by omega⟩)
 | (refine And.intro (show (0:Int) < _ from ?_) ?_; first | decide | omega)))
theorem WF.deed {S:Aap} {d:Abj} (w:WF S) (ok:d.ok S):WF (d.next S):=by
 cases d with
 | jam b k=>exact w.jam
 | lift z =>
  obtain ⟨ln,e1,e2,e3,_⟩:=ok
  have:=w.lift e1 e3
  simp only [Abj.next,e1]
  rw [e2] at this
  exact this
 | hang z =>
  obtain ⟨ln,e1,e2,e3,_⟩:=ok
  have:=w.hang e1 e3
  simp only [Abj.next,e1]
  rw [e2] at this
  exact this
theorem WF.deedD {S:Aap} {d:Abj} {dd:Addr} (w:WF S) (ok:d.ok S):WF (Acn S d dd):=(w.deed ok).dn
theorem WF.ok_lift {S:Aap} (w:WF S) {z:Str} {ln:LnS} (e:S.lns[Aez S.lns z]?=some ln) (en:ln.num=z) (h:ln.st="rests"):Abj.ok S (.lift z):=⟨ln,e,en,h,Nat.lt_of_le_of_lt w.q60 (by decide)⟩
theorem WF.ok_hang {S:Aap} (w:WF S) {z:Str} {ln:LnS} (e:S.lns[Aez S.lns z]?=some ln) (en:ln.num=z) (h:ln.st≠"rests"):Abj.ok S (.hang z):=by
 obtain ⟨f,⟨a,_⟩ | ⟨a,hh,hn,hl⟩ | ⟨a,hn,k,hh,hk,hu⟩⟩:=w.ln _ ln e
 ·exact absurd a h
 ·exact ⟨ln,e,en,.inl a,by rw [hh]; trivial,f,fun _=>by rw [← en]; exact hn⟩
 ·refine ⟨ln,e,en,.inr a,?_,f,fun x=>by rw [a] at x; exact absurd x (by decide)⟩
  have klt:k < S.hs.length:=(List.getElem?_eq_some_iff.mp hk).1
  rw [hh]
  refine ⟨rfl,?_,?_,trivial⟩
  ·show (decide (0≤(k:Int)) && decide ((k:Int)≤(S.hs.length:Int) - 1))=true
   rw [decide_eq_true (by omega),decide_eq_true (by omega)]; rfl
  ·show S.hs.getD ((k:Int)).toNat .non≠.non
   rw [Int.toNat_natCast,List.getD,hk]
   intro x; cases x
def AjO (A:Aan) (B:StA):Prop:=∀ b∈B.ws,b ∉ A.ws∧b≠A.ld∧b≠A.sd
section
variable {K:PySem.W.Frag} {a:Adr} {H H':Hp} {A A':Aan} {B:StA} {S S':Aap}
theorem Aaw.h_ws (t:Aaw K a H A S):A.h ∉ A.ws:=fun m=>by
 have sk:=t.sek
 rcases List.mem_cons.mp m with z | m
 ·exact t.ni.2.2 z
 ·rcases List.mem_append.mp m with m | m
  ·simp only [Aan.lists,List.mem_cons,List.not_mem_nil,or_false] at m
   have k:∀ {b xs},A.h=b→H b=some (.lst xs)→False:=fun z e=>by rw [← z,t.hall] at e; cases e
   rcases m with z | z | z | z | z | z | z
   ·exact k z t.q
   ·exact k z t.dn
   ·exact k z sk.ha
   ·exact k z sk.hb
   ·exact k z sk.hc
   ·exact k z sk.hs_
   ·exact k z sk.hw
  ·rcases List.mem_append.mp m with m | m
   ·exact t.ni.1 m
   ·obtain ⟨lb,mb,eb⟩:=List.mem_map.mp m
    obtain ⟨j,hj,ej⟩:=List.getElem_of_mem mb
    have M:=t.ln j lb (S.lns[j]'(by rw [← t.len]; exact hj)) (by rw [List.getElem?_eq_getElem hj,ej]) (List.getElem?_eq_getElem _)
    have:=M.held
    rw [eb,t.hall] at this; cases this
theorem Aaw.frame (t:Aaw K a H A S) {ws:List Addr} (s:AaE ws H H') (ap:∀ b∈ws,b ∉ A.ws∧b≠A.ld∧b≠A.sd) (kd:∀ b∈ws,(∃ xs,H b=some (.lst xs))∨∃ kvs,H b=some (.dK kvs)):Aaw K a H' A S:=by
 have nI:∀ {b C d fs},H b=some (.ins C d fs)→H' b=some (.ins C d fs):=fun e=>s _ _ (fun m=>by rcases kd _ m with ⟨_,x⟩ | ⟨_,x⟩ <;> rw [e] at x <;> cases x) e
 have nT:∀ {b ys},H b=some (.tup ys)→H' b=some (.tup ys):=fun e=>s _ _ (fun m=>by rcases kd _ m with ⟨_,x⟩ | ⟨_,x⟩ <;> rw [e] at x <;> cases x) e
 have nW:∀ {b u},b∈A.ws→H b=some u→H' b=some u:=fun m e=>s _ _ (fun z=>(ap _ z).1 m) e
 have ml:∀ {b},b∈A.lists→b∈A.ws:=fun m=>List.mem_cons_of_mem _ (List.mem_append_left _ m)
 obtain ⟨sdx,se⟩:=t.sek.ins
 have sk:=t.sek
 refine ⟨nI t.hall,s _ _ (fun z=>(ap _ z).2.1 rfl) t.ld,s _ _ (fun z=>(ap _ z).2.2 rfl) t.sd,t.gk,nW (ml (by simp [Aan.lists])) t.q,nW (ml (by simp [Aan.lists])) t.dn,⟨⟨sdx,nI se⟩,sk.cs,nW (ml (by simp [Aan.lists])) sk.ha,nW (ml (by simp [Aan.lists])) sk.hb,nW (ml (by simp [Aan.lists])) sk.hc,nW (ml (by simp [Aan.lists])) sk.hs_,nW (ml (by simp [Aan.lists])) sk.hw,sk.ap,sk.lj,sk.lt,sk.ls,sk.lw,sk.z⟩,t.len,fun j lb lm hj hm=>?_,t.num,t.np,t.nl,t.ni⟩
 have M:=t.ln j lb lm hj hm
 exact ⟨nI M.ins,nW (Aan.h_ws hj) M.held,fun x m=>nT (M.lay x m),M.few,M.eh⟩
theorem StT.frame (t:StT H B S) (m:Mv A A' H H') (ap:AjO A B):StT H' B S:=by
 have k:∀ {b u},b∈B.ws→H b=some u→H' b=some u:=fun mb e=>m.fr _ _ (ap _ mb).1 e
 exact ⟨k (by simp [StA.ws]) t.d,k (by simp [StA.ws,StA.ls]) t.l,k (by simp [StA.ws,StA.ls]) t.q,k (by simp [StA.ws,StA.ls]) t.h,k (by simp [StA.ws,StA.ls]) t.u,k (by simp [StA.ws,StA.ls]) t.p,k (by simp [StA.ws,StA.ls]) t.t,k (by simp [StA.ws,StA.ls]) t.n,t.ap,t.lj,t.ls,t.lw,t.lt,t.pl⟩
theorem AjO.next {S2:Aap} (ap:AjO A B) (t:Aaw K a H A S) (t':Aaw K a H' A' S') (eh:A'.h=A.h) (m:Mv A A' H H') (st:StT H B S2):AjO A' B:=by
 have e:=m.fr _ _ t.h_ws t.hall
 have e':=t'.hall
 rw [eh,e] at e'
 have e2:HO.ins a.Hall A.dx (AhS S.long A.ld A.sd A.qa A.da)=HO.ins a.Hall A'.dx (AhS S'.long A'.ld A'.sd A'.qa A'.da):=Option.some.inj e'
 have e3:AhS S.long A.ld A.sd A.qa A.da=AhS S'.long A'.ld A'.sd A'.qa A'.da:=by injection e2
 have el:A.ld=A'.ld:=by
  have:=congrArg (fun l:List (Str×V)=>(l[1]?).map (·.2)) e3
  exact V.ref.inj (Option.some.inj this)
 have ed:A.sd=A'.sd:=by
  have:=congrArg (fun l:List (Str×V)=>(l[2]?).map (·.2)) e3
  exact V.ref.inj (Option.some.inj this)
 intro b mb
 obtain ⟨a1,a2,a3⟩:=ap b mb
 refine ⟨fun x=>(m.sub b x).elim a1 fun n=>st.fresh n mb,by rw [← el]; exact a2,by rw [← ed]; exact a3⟩
end
local macro_rules | `(tactic| walk_at "st")=>`(tactic| repeat (first
 | refine ⟨_,rfl,?_⟩
 | refine ⟨_,_,rfl,rfl,?_⟩
 | refine ⟨_,_,rfl,?_⟩
 | refine Or.inl ⟨_,_,rfl,rfl,?_⟩
 | refine Or.inl ⟨rfl,?_⟩
 | refine ⟨rfl,?_⟩
 | refine Or.inl ⟨_,_,_,_,rfl,rfl,.of (by assumption),rfl,?_⟩
 | (refine And.intro (show Aeq _ _ from ?_) ?_; (first | exact Or.inr ⟨by omega,by omega⟩ | exact Or.inl ⟨by omega,by omega⟩))
 | (refine And.intro (show Ae4 _ _ from ?_) ?_; exact ⟨by omega,by omega⟩)
 | (refine And.intro (show (0:Int) < _ from ?_) ?_; first | decide | omega)))
theorem Abj.next_dn {S:Aap} (d:Abj):(d.next S).dn=S.dn:=by
 cases d with
 | jam b k=>rfl
 | lift z=>simp only [Abj.next]; split <;> rfl
 | hang z=>simp only [Abj.next]; split <;> rfl
theorem Abj.next_num {S:Aap} (d:Abj):(d.next S).lns.map (·.num)=S.lns.map (·.num):=by
 cases d with
 | jam b k=>rfl
 | lift z =>
  simp only [Abj.next]
  split
  ·rfl
  ·rename_i ln e
   exact Aax (f:=fun x:LnS=>x.num) (y:=Aaq ln "waits") e rfl
 | hang z =>
  simp only [Abj.next]
  split
  ·rfl
  ·rename_i ln e
   exact Aax (f:=fun x:LnS=>x.num) (y:={ Aaq ln "rests" with held:=[] }) e rfl
theorem Abj.next_len {S:Aap} (d:Abj):(d.next S).hs.length=S.hs.length:=by
 cases d with
 | jam b k=>rfl
 | lift z=>simp only [Abj.next]; split <;> rfl
 | hang z =>
  simp only [Abj.next]
  split
  ·rfl
  ·exact AjK _ _
theorem StT.dn {H:Hp} {B:StA} {S:Aap} (t:StT H B S) {x:List V}:StT H B { S with dn:=x }:=⟨t.d,t.l,t.q,t.h,t.u,t.p,t.t,t.n,t.ap,t.lj,t.ls,t.lw,t.lt,t.pl⟩
theorem AgV:∀ (n:Nat) {S:Aap},WF S→(tonesF n S).2.lns.map (·.num)=S.lns.map (·.num)
 | 0,_,_=>rfl
 | n + 1,S,w=>by
  unfold tonesF
  cases e:AeA S with
  | none=>rfl
  | some x=>exact (AgV n (w.tone (t:=x.1) (S':=x.2) e)).trans (AgD w.qok (t:=x.1) (S':=x.2) e)
def vD:V→PyData
 | .str z=>.str z
 | .int i=>.int i
 | _=>.none
def ApR:V→Prop
 | .str z=>Asc z
 | .int _=>True
 | _=>False
theorem Ahm {K:PySem.W.Frag} {H:Hp}:∀ {vs:List V},(∀ v∈vs,ApR v)→IsAll K H vs (vs.map vD)
 | [],_=>.nil
 | v :: vs,h=>by
  have hv:=h v List.mem_cons_self
  have ih:=Ahm (K:=K) (H:=H) (vs:=vs) fun u hu=>h u (List.mem_cons_of_mem _ hu)
  cases v with
  | str z=>exact .cons (.str z) ih
  | int i=>exact .cons (.int i) ih
  | _=>exact hv.elim
theorem Ah0 {K:PySem.W.Frag} {H:Hp}:∀ {xs:List Addr} {vss:List (List V)},Tps H xs vss→(∀ vs∈vss,∀ v∈vs,ApR v)→IsAll K H (xs.map V.ref) (vss.map fun vs=>PyData.tuple (vs.map vD))
 | [],[],_,_=>.nil
 | [],_ :: _,t,_=>t.elim
 | _ :: _,[],t,_=>t.elim
 | x :: xs,vs :: vss,t,h=>.cons (.tup (.of t.1) (Ahm (h vs List.mem_cons_self))) (Ah0 t.2 fun u hu=>h u (List.mem_cons_of_mem _ hu))
theorem Anj:∀ {vs:List V},(∀ v∈vs,ApR v)→PyData.canLayAll0 (vs.map vD)=true∧PyData.depthAll (vs.map vD)≤1
 | [],_=>⟨rfl,by decide⟩
 | v :: vs,h=>by
  have hv:=h v List.mem_cons_self
  obtain ⟨i1,i2⟩:=Anj (vs:=vs) fun u hu=>h u (List.mem_cons_of_mem _ hu)
  have ⟨c1,c2⟩:PyData.canLay0 (vD v)=true∧PyData.depth (vD v)≤1:=by
   cases v with
   | str z=>exact ⟨AjN hv,by simp [vD,PyData.depth]⟩
   | int i=>exact ⟨rfl,by simp [vD,PyData.depth]⟩
   | _=>exact hv.elim
  refine ⟨?_,Nat.max_le.mpr ⟨c2,i2⟩⟩
  show (PyData.canLay0 (vD v) && PyData.canLayAll0 _)=true
  rw [c1,i1]; rfl
theorem Ank:∀ {vss:List (List V)},(∀ vs∈vss,∀ v∈vs,ApR v)→PyData.canLayAll0 (vss.map fun vs=>PyData.tuple (vs.map vD))=true∧PyData.depthAll (vss.map fun vs=>PyData.tuple (vs.map vD))≤2
 | [],_=>⟨rfl,by decide⟩
 | vs :: vss,h=>by
  obtain ⟨c1,c2⟩:=Anj (h vs List.mem_cons_self)
  obtain ⟨i1,i2⟩:=Ank (vss:=vss) fun u hu=>h u (List.mem_cons_of_mem _ hu)
  refine ⟨?_,Nat.max_le.mpr ⟨by rw [Ang]; omega,i2⟩⟩
  show (PyData.canLayAll0 (vs.map vD) && PyData.canLayAll0 _)=true
  rw [c1,i1]; rfl
theorem AjP:∀ (n:Nat) {S:Aap},WF S→∀ t∈(tonesF n S).1,t.1∈S.lns.map (·.num)
 | 0,_,_,t,m=>by cases m
 | n + 1,S,w,t,m=>by
  unfold tonesF at m
  cases e:AeA S with
  | none=>rw [e] at m; cases m
  | some x =>
   rw [e] at m
   have m:t∈x.1 :: (tonesF n x.2).1:=m
   obtain ⟨z,r,k,ln,e1,e2,e3,e4,e5,e6⟩:=AdW w.qok (t:=x.1) (S':=x.2) e
   rcases List.mem_cons.mp m with rfl | m
   ·rw [e5]
    exact List.mem_map.mpr ⟨ln,List.mem_of_getElem? e3,e4⟩
   ·rw [← AgD w.qok (t:=x.1) (S':=x.2) e]
    exact AjP n (w.tone (t:=x.1) (S':=x.2) e) t m
theorem Aop {S:Aap} {d:Abj} {dd:Addr} (w:WF S) (ok:d.ok S) (asc:∀ z∈S.lns.map (·.num),Asc z):∀ vs∈d.told++(AbK (Acn S d dd)).1.map AeT,∀ v∈vs,ApR v:=by
 intro vs m v mv
 have az:∀ {z:Str} {ln:LnS} {i:Nat},S.lns[i]?=some ln→ln.num=z→Asc z:=fun e en=>asc _ (List.mem_map.mpr ⟨_,List.mem_of_getElem? e,en⟩)
 rcases List.mem_append.mp m with m | m
 ·cases d with
  | jam b k=>cases m
  | lift z =>
   obtain ⟨ln,e1,e2,_⟩:=ok
   have m:vs=[.str "waits",.str z]:=by simpa [Abj.told] using m
   subst m
   rcases List.mem_cons.mp mv with rfl | mv
   ·intro c hc; revert c hc; decide
   ·have mv:v=.str z:=by simpa using mv
    subst mv; exact az e1 e2
  | hang z =>
   obtain ⟨ln,e1,e2,_⟩:=ok
   have m:vs=[.str "rests",.str z]:=by simpa [Abj.told] using m
   subst m
   rcases List.mem_cons.mp mv with rfl | mv
   ·intro c hc; revert c hc; decide
   ·have mv:v=.str z:=by simpa using mv
    subst mv; exact az e1 e2
 ·obtain ⟨t,mt,rfl⟩:=List.mem_map.mp m
  have ht:=AjP _ (w.deedD (dd:=dd) ok) t mt
  have ht':Asc t.1:=asc _ (by rw [← d.next_num]; exact ht)
  have mv:v∈[V.str "tone",.str t.1,.int t.2.1,.int t.2.2]:=mv
  simp only [List.mem_cons,List.not_mem_nil,or_false] at mv
  rcases mv with rfl | rfl | rfl | rfl
  ·intro c hc; revert c hc; decide
  ·exact ht'
  ·trivial
  ·trivial
local macro_rules | `(tactic| walk_at "st")=>`(tactic| repeat (first
 | refine ⟨_,rfl,?_⟩
 | refine ⟨_,_,rfl,rfl,?_⟩
 | refine ⟨_,_,rfl,?_⟩
 | refine Or.inl ⟨_,_,rfl,rfl,?_⟩
 | refine Or.inl ⟨rfl,?_⟩
 | refine ⟨rfl,?_⟩
 | refine Or.inl ⟨_,_,_,_,rfl,rfl,.of (by assumption),rfl,?_⟩
 | (refine And.intro (show Aeq _ _ from ?_) ?_; (first | exact Or.inr ⟨by omega,by omega⟩ | exact Or.inl ⟨by omega,by omega⟩))
 | (refine And.intro (show Ae4 _ _ from ?_) ?_; exact ⟨by omega,by omega⟩)
 | (refine And.intro (show (0:Int) < _ from ?_) ?_; first | decide | omega)))
def AaW (S:Aap) (d:Abj) (dd:Addr):Aap:=(AbK (Acn S d dd)).2
def Anl (K:PySem.W.Frag) (a:Adr):Sp:=fun vs H Q _=>∃ (A:Aan) (B:StA) (S:Aap) (d:Abj) (dd:Addr),vs=[.ref A.h,.ref B.d,.ref dd]∧Aaw K a H A S∧StT H B S∧AjO A B∧WF S∧(∀ z∈S.lns.map (·.num),Asc z)∧(∀ z∈S.lns.map (·.num),0 < z.length∧z.length≤1000)∧H dd=some (.tup d.vals)∧d.ok S∧0 < S.hs.length∧S.hs.length≤1000∧S.dn.length < 900 ∧
 ∀ H' A',A'.h=A.h→Aaw K a H' A' (AaW S d dd)→StT H' B (AaW S d dd)→AjO A' B→AaE (A.ws++B.ws) H H'→(∀ b∈A'.ws,b∈A.ws∨H b=none)→Q (.bl true) H'
theorem AfC {s t:TS} {D:AkN} {σ:St} {H:Hp} (h:∀ C:St→Hp→Prop,C=(fun σ' H'=>t D σ' H')→s { D with nx:=C } σ H):AqL s t D σ H:=h _ rfl
theorem Anm (z:Str) (ks:List Str):inV (.str z) (ks.map V.str)=decide (z∈ks):=by
 unfold inV
 rw [List.any_map,Bool.eq_iff_iff,List.any_eq_true,decide_eq_true_eq]
 constructor
 ·rintro ⟨k,hk,e⟩
  have e':decide (k=z)=true:=by simpa [eqV] using e
  rw [← of_decide_eq_true e']; exact hk
 ·exact fun h=>⟨z,h,by simp [eqV]⟩
theorem AjQ (zs:List Str):(zs.map V.str).all Afl=true:=by
 rw [List.all_eq_true]
 intro y my
 obtain ⟨_,_,rfl⟩:=List.mem_map.mp my
 rfl
theorem Ann {S:Aap} (ho:AlN S) (asc:∀ z∈S.lns.map (·.num),Asc z):∀ v∈Af0 S,ApR v:=by
 intro v mv
 obtain ⟨k,mk,rfl⟩:=List.mem_map.mp mv
 have hk:=List.mem_range.mp mk
 have ek:S.hs[k]?=some S.hs[k]:=List.getElem?_eq_getElem hk
 have gD:(S.hs.map (Ad1 S)).getD k .non=Ad1 S S.hs[k]:=by rw [List.getD,List.getElem?_map,ek]; rfl
 have mh:=ho _ (List.mem_of_getElem? ek)
 dsimp only
 rw [gD]
 generalize S.hs[k]=u at mh
 rcases mh with rfl | ⟨j,rfl,jl⟩
 ·rw [if_pos (show Ad1 S V.non=V.non from rfl)]
  split
  ·intro c hc; revert c hc; decide
  ·intro c hc; revert c hc; decide
 ·have ej:S.lns[j]?=some S.lns[j]:=List.getElem?_eq_getElem jl
  rw [AeU ej,if_neg (by intro z; cases z)]
  exact asc _ (List.mem_map.mpr ⟨_,List.mem_of_getElem? ej,rfl⟩)
theorem StT.lns {H:Hp} {B:StA} {S:Aap} (t:StT H B S) {lns':List LnS} (hn:lns'.map (·.num)=S.lns.map (·.num)):StT H B { S with lns:=lns' }:=by
 have el:(lns'.map fun ln=>V.str ln.num)=S.lns.map fun ln=>V.str ln.num:=by
  have:=congrArg (List.map V.str) hn
  rw [List.map_map,List.map_map] at this
  exact this
 have ll:lns'.length=S.lns.length:=by
  have:=congrArg List.length hn
  rw [List.length_map,List.length_map] at this
  exact this
 refine ⟨t.d,?_,t.q,?_,t.u,t.p,t.t,t.n,t.ap,t.lj,t.ls,t.lw,t.lt,?_⟩
 ·show _=some (HO.lst (lns'.map fun ln=>V.str ln.num))
  rw [el]; exact t.l
 ·show _=some (HO.lst (S.hs.map (Ad1 { S with lns:=lns' })))
  rw [List.map_congr_left (fun v _=>Ai2 (S:=S) (S':={ S with lns:=lns' }) hn v)]; exact t.h
 ·show S.places=(lns'.length:Int)
  rw [ll]; exact t.pl
section
variable {P:Program} {w:World} {K:PySem.W.Frag} {mg:Str→Option Value} {base:Heap} {a:Adr}
theorem Ah1:Aat ["hall","state","deed","told","paper","k"] ["hall","state","deed"] (Aaa (top 44)):=⟨rfl,rfl,rfl,by decide +kernel,rfl,by decide +kernel,by decide +kernel⟩
theorem AbW:Nm (Aaa (top 44)) "hall":=by walk_at "k"
theorem Aar:Nm (Aaa (top 44)) "state":=by walk_at "k"
theorem AaC:Nm (Aaa (top 44)) "deed":=by walk_at "k"
theorem Acr:Nm (Aaa (top 44)) "told":=by walk_at "k"
theorem Adf:Nm (Aaa (top 44)) "paper":=by walk_at "k"
theorem AeV:Nm (Aaa (top 44)) "k":=by walk_at "k"
theorem AgW:Gm (Aaa (top 44)) "tuple":=by walk_at "k"
theorem AgX:Gm (Aaa (top 44)) "range":=by walk_at "k"
theorem Ah2:Gm (Aaa (top 44)) "len":=by walk_at "k"
theorem Ah3:Gm (Aaa (top 44)) "int":=by walk_at "k"
theorem Afi:Gm (Aaa (top 44)) "_law_toned":=by walk_at "k"
theorem ApJ {f:Addr} {fd:FuncData} (F:Fun K "_law_done" "_law_done" (top 44) f fd) (T:TxtH P w K mg a) (D_do:AaJ P w K mg base (CXE P w) 7 a.Hall "do" ["self","deed"] (Art K a)) (D_law_toned:AgG P w K mg base CX0 1 "_law_toned" ["state"] AkH) (D_waiting:AaJ P w K mg base CX0 1 a.Hall "waiting" ["self"] (AgS K a)) (D_paper:AaJ P w K mg base (CXE P w) 2 a.Hall "paper" ["self","where"] (AkC K a)) (D_shares:AaJ P w K mg base (CXE P w) 2 a.Hall "shares" ["self","where"] (AhX K a)) (D_steps:AaJ P w K mg base CX0 2 a.Hall "steps" ["self"] (Ai0 K a)):Aco P w K mg base CX0 8 f fd ["hall","state","deed"] (Anl K a):=by
 refine F.ok Ah1 (fun vs H Q E h=>?_) (fun cdv A outer s H vs Q E hr h=>?_)
 ·obtain ⟨A,B,S,d,dd,rfl,_⟩:=h
  rfl
 ·obtain ⟨A0,B,S,d,dd,rfl,t,st,ap,wf,asc,lnz,hdd,ok,hp,hz,dz,q⟩:=h
  have hu:=hr.units
  have nd:=Ah1.nd
  have cls_do:=T.hc.cls
  have cls_waiting:=T.hc.cls
  have cls_paper:=T.hc.cls
  have cls_shares:=T.hc.cls
  have cls_steps:=T.hc.cls
  refine ⟨_,(@Aae _ _ _ _ _ (Abb 3 nd Acr (Aa6 Aaf))
    (Aae (AbC (AaB (Aea hu) (Abt AaT (pvN 2 AaC) Aal (fun _ _=>rfl)) Aak (AaY _)) (Aae (AaN (Aer PySem.F.plainAttrs_list PySem.F.slot_list_append PySem.F.type_list_append AbF (AaU (Nat.lt_of_le_of_lt (Nat.add_le_add_left (by decide) _) hu) (pvN 1 Aar) Aak (fun _ _=>rfl)) (Aac (Abt AaT (pvN 2 AaC) Aal (fun _ _=>rfl)) Aaf)))
     (Aag (Abb 3 nd Acr (Aa6 (Aac (Adh (Aac Aak (Aac (Abt AaT (pvN 2 AaC) Aal (fun _ _=>rfl)) Aaf))) Aaf))))) (Aag (AbC (AaB (Aea hu) (Abt AaT (pvN 2 AaC) Aal (fun _ _=>rfl)) Aak (AaY _)) (Aae (Abb 3 nd Acr (Aa6 (Aac (Adh (Aac Aak (Aac (Abt AaT (pvN 2 AaC) Aal (fun _ _=>rfl)) Aaf))) Aaf)))
      (Aag (AbC (AaB Aif (Abt AaT (pvN 2 AaC) Aal (fun _ _=>rfl)) (AaU (Nat.lt_of_le_of_lt (Nat.add_le_add_left (by decide) _) hu) (pvN 1 Aar) Aak (fun _ _=>rfl)) (by with_unfolding_all rfl)) (Aag (AaN (Aer PySem.F.plainAttrs_list PySem.F.slot_list_remove PySem.F.type_list_remove Ajv (AaU (Nat.lt_of_le_of_lt (Nat.add_le_add_left (by decide) _) hu) (pvN 1 Aar) Aak (fun _ _=>rfl)) (Aac (Abt AaT (pvN 2 AaC) Aal (fun _ _=>rfl)) Aaf)))) (Aag (AfW AcQ (Agi (AaU (Nat.lt_of_le_of_lt (Nat.add_le_add_left (by decide) _) hu) (pvN 1 Aar) Aak (fun _ _=>rfl)) (Aer PySem.F.plainAttrs_list PySem.F.slot_list_index PySem.F.type_list_index AhH (AaU (Nat.lt_of_le_of_lt (Nat.add_le_add_left (by decide) _) hu) (pvN 1 Aar) Aak (fun _ _=>rfl)) (Aac (Abt AaT (pvN 2 AaC) Aal (fun _ _=>rfl)) Aaf)) Ace)))))) (Aag (AfW (Aiy (Aea hu) (Abt AaT (pvN 2 AaC) Aal (fun _ _=>rfl)) Aak (AaY _)) (Agi (AaU (Nat.lt_of_le_of_lt (Nat.add_le_add_left (by decide) _) hu) (pvN 1 Aar) Aak (fun _ _=>rfl)) (Abt AaT (pvN 2 AaC) Aal (fun _ _=>rfl)) Ace))))))
    (Aae (AbC (AaB (Ahy hu) (AcC D_do cls_do (pvN 0 AbW) (hr.mono (by decide)) AiG (Aac (pvN 2 AaC) Aaf)) (AaD AbG (pvN 3 Acr) (Ad2 D_law_toned Afi (hr.mono (by decide)) AbO (Aac (pvN 1 Aar) Aaf))) (AaY _)) (Aag (AaL Aho)) AaF)
    (Aae (Abb 4 nd Adf (Aa6 Aaf))
    (Aae (Ae3 PassesOwn.never rfl (Ami AgX T.n_range (Aac (Ac3 AaP Ah2 T.n_len Ack (Aac (AaU (Nat.lt_of_le_of_lt (Nat.add_le_add_left (by decide) _) hu) (pvN 1 Aar) Aak (fun _ _=>rfl)) Aaf)) Aaf)) (AcB 5 nd AeV) (Aag (AaN (Aer PySem.F.plainAttrs_list PySem.F.slot_list_append PySem.F.type_list_append AbF (pvN 4 Adf) (Aac (Aqw (Abt AaT (AaU (Nat.lt_of_le_of_lt (Nat.add_le_add_left (by decide) _) hu) (pvN 1 Aar) Aak (fun _ _=>rfl)) (pvN 5 AeV) (fun _ _=>rfl)) (AlS (Abt AaT (Aa6 (Aac Aak (Aac Aak Aaf))) (Afa Amr Ah3 T.n_int Aqm (Aac (Abt AaT (AaU (Nat.lt_of_le_of_lt (Nat.add_le_add_left (by decide) _) hu) (pvN 1 Aar) Aak (fun _ _=>rfl)) (pvN 5 AeV) (fun _ _=>rfl)) Aaf)) (fun _ _=>rfl)))) Aaf)))))
    (Aae (AbC (PW.pt (Ans (AaB (Ahy hu) (AhE D_waiting cls_waiting (pvN 0 AbW) (hr.mono (by decide)) AbO) (AaU (Nat.lt_of_le_of_lt (Nat.add_le_add_left (by decide) _) hu) (pvN 1 Aar) Aak (fun _ _=>rfl)) (AaY _)) (AkO (AaB (Ahy hu) (AcC D_paper cls_paper (pvN 0 AbW) (hr.mono (by decide)) AiG (Aac Aak Aaf)) (Afa AdA AgW T.n_tuple Ahg (Aac (pvN 4 Adf) Aaf)) (AaY _))))) (Aag (AaL Aho)) AaF)
    (Aag (AaL (Aox (Aiy (Aea hu) (AcC D_shares cls_shares (pvN 0 AbW) (hr.mono (by decide)) AiG (Aac Aak Aaf)) (AaU (Nat.lt_of_le_of_lt (Nat.add_le_add_left (by decide) _) hu) (pvN 1 Aar) Aak (fun _ _=>rfl)) (AaY _)) (AlS (Aiy (Aea hu) (AhE D_steps cls_steps (pvN 0 AbW) (hr.mono (by decide)) AbO) (AaU (Nat.lt_of_le_of_lt (Nat.add_le_add_left (by decide) _) hu) (pvN 1 Aar) Aak (fun _ _=>rfl)) (AaY _)))))))))))),?_⟩
  have st0:AaV ["hall","state","deed","told","paper","k"] [V.ref A0.h,V.ref B.d,V.ref dd]=[some (.ref A0.h),some (.ref B.d),some (.ref dd),none,none,none]:=rfl
  simp only [st0,List.set_cons_succ,List.set_cons_zero]
  refine AfC fun C1 hC1=>?_
  refine ⟨(by show 0≤sizeLine; decide),fun r nr=>?_⟩
  show C1 [some (.ref A0.h),some (.ref B.d),some (.ref dd),some (.ref r),none,none] (upd H r (.lst []))
  rw [hC1]
  refine AfC fun C hC=>?_
  clear hC1 C1
  have s1:=(Aav.refl H).upd (o:=.lst []) nr
  have e1:(upd H r (.lst [])) r=some (.lst (([]:List Addr).map V.ref)):=Aad
  have n1:∀ b,(upd H r (.lst [])) b=none→H b=none:=fun b e=>Aai e
  generalize upd H r (.lst [])=H1 at s1 e1 n1 ⊢
  have rest:∀ (H2:Hp) (tl:Addr) (ys:List Addr),Aaw K a H2 A0 S→StT H2 B (d.next S)→AaE B.ws H H2→(∀ b,H2 b=none→H b=none)→H2 tl=some (.lst (ys.map V.ref))→tl ∉ A0.ws→tl ∉ B.ws→Tps H2 ys d.told→C [some (.ref A0.h),some (.ref B.d),some (.ref dd),some (.ref tl),none,none] H2:=by
   intro H2 tl ys t2 st2 sx2 n2 htl nt1 nt2 tp2
   rw [hC]
   have d2:=sx2 _ _ (st.tup hdd) hdd
   have wn:WF (Acn S d dd):=wf.deedD ok
   walk_at "st"
   refine ⟨A0.h,A0.dx,_,rfl,t2.hall,rfl,?_⟩
   walk_at "st"
   refine ⟨A0,S,d,dd,rfl,t2,d2,ok,wn.qok,(by rw [d.next_dn]; omega),fun H3 A3 r3 xs3 eA3 t3 m3 n3 e3 tp3=>?_⟩
   have st3:StT H3 B (Acn S d dd):=(st2.frame m3 ap).dn
   have asn:∀ z∈(Acn S d dd).lns.map (·.num),Asc z:=fun z hz=>asc z (by rw [← d.next_num]; exact hz)
   have hln:(Acn S d dd).hs.length=S.hs.length:=d.next_len
   have htl3:=m3.keep nt1 htl
   have tp3':Tps H3 ys d.told:=tp2.imp fun b zs e=>m3.tup t2 e
   have r3B:r3 ∉ B.ws:=st2.fresh n3
   walk_at "st"
   refine ⟨B,Acn S d dd,rfl,st3,wn.qok,wn.hs,asn,(by rw [hln]; exact hz),(by rw [hln]; exact hp),fun H4 r4 xs4 st4 x4 n4 nr4 e4 tp4=>?_⟩
   have t4:=t3.frame x4 (ap.next t2 t3 eA3 m3 st2) fun b mb=>st3.ws mb
   have htl4:=x4 _ _ nt2 htl3
   have tp4':Tps H4 ys d.told:=tp3'.imp fun b zs e=>x4 _ _ (st3.tup e) e
   have r34:=x4 _ _ r3B e3
   have tp34:Tps H4 xs3 _:=tp3.imp fun b zs e=>x4 _ _ (st3.tup e) e
   have lt4:=tp4.len
   have lt4':=tp4'.len
   walk_at "st"
   refine Or.inr (Or.inr ⟨tl,r4,_,_,rfl,rfl,htl4,e4,?_,fun p np=>?_⟩)
   ·have f2:=AeC (Acn S d dd).q.length (Acn S d dd)
    have f3:=wn.q60
    have f4:d.told.length≤1:=by cases d <;> simp [Abj.told]
    have f5:(AbK (Acn S d dd)).1.length≤60:=Nat.le_trans f2 f3
    rw [List.length_map,List.length_map,lt4,lt4',List.length_map,sizeLine_eq]
    omega
   rw [← List.map_append]
   have s5:=(Aav.refl H4).upd (o:=.lst ((ys++xs4).map V.ref)) np
   have e5:(upd H4 p (.lst ((ys++xs4).map V.ref))) p=some (.lst ((ys++xs4).map V.ref)):=Aad
   have n5:∀ b,(upd H4 p (.lst ((ys++xs4).map V.ref))) b=none→H4 b=none:=fun b e=>Aai e
   generalize upd H4 p (.lst ((ys++xs4).map V.ref))=H5 at s5 e5 n5 ⊢
   have tpA:=tp34.imp (H':=H5) fun b zs e=>s5 _ _ e
   have tpB:=(tp4'.app tp4).imp (H':=H5) fun b zs e=>s5 _ _ e
   have txt:=Aop (dd:=dd) wf ok asc
   obtain ⟨l1,l2⟩:=Ank txt
   have cl:PyData.canLay0 (.list ((d.told++(AbK (Acn S d dd)).1.map AeT).map fun vs=>PyData.tuple (vs.map vD)))=true:=l1
   walk_at "st"
   refine Or.inr ⟨.list ((d.told++(AbK (Acn S d dd)).1.map AeT).map fun vs=>PyData.tuple (vs.map vD)),.list ((d.told++(AbK (Acn S d dd)).1.map AeT).map fun vs=>PyData.tuple (vs.map vD)),.lst (.of (s5 _ _ r34)) (Ah0 tpA txt),.lst (.of e5) (Ah0 tpB txt),cl,cl,(by rw [AgU]; omega),?_⟩
   rw [SeqAt.eqv_refl _ cl]
   have wd:WF (AaW S d dd):=wn.tones
   have t5:=t4.same s5
   have st5:=st4.same s5
   have ap3:=ap.next t2 t3 eA3 m3 st2
   have fr5:AaE (A0.ws++B.ws) H H5:=fun b o hb e=>by
    have hb1:b ∉ A0.ws:=fun m=>hb (List.mem_append_left _ m)
    have hb2:b ∉ B.ws:=fun m=>hb (List.mem_append_right _ m)
    exact s5 _ _ (x4 _ _ hb2 (m3.keep hb1 (sx2 _ _ hb2 e)))
   have sub5:∀ b∈A3.ws,b∈A0.ws∨H b=none:=fun b mb=>(m3.sub b mb).imp id (n2 b)
   walk_at "st"
   refine AgH ?_
   walk_at "st"
   refine ⟨(by show 0≤sizeLine; decide),fun pp npp=>?_⟩
   have hl9:(AaW S d dd).hs.length≤1000:=t5.sek.z
   have hl9':(AbK (Acn S d dd)).2.hs.length≤1000:=hl9
   have n9:(AaW S d dd).lns.map (·.num)=S.lns.map (·.num):=(AgV _ wn).trans d.next_num
   have s6:=(Aav.refl H5).upd (o:=.lst []) npp
   walk_at "st"
   refine ⟨B.d,_,rfl,(st5.same s6).gHeld,?_⟩
   walk_at "st"
   refine Or.inr ⟨B.h,_,rfl,.inl (.of (st5.same s6).h),?_⟩
   rw [List.length_map]
   have pvd:∃ pv:Nat→V,pv=fun k=>if ((AaW S d dd).hs.map (Ad1 (AaW S d dd))).getD k .non=.non then (if decide ((k:Int)∈Afn (AaW S d dd).js (AaW S d dd).js.length)=true then V.str "stuck" else V.str "free") else ((AaW S d dd).hs.map (Ad1 (AaW S d dd))).getD k .non:=⟨_,rfl⟩
   obtain ⟨pv,hpv⟩:=pvd
   walk_at "st"
   refine ⟨by omega,by omega,Ahq (n:=(((AaW S d dd).hs.length:Int)).toNat) (fun i σ H7=>∃ x,σ=[some (.ref A0.h),some (.ref B.d),some (.ref dd),some (.ref tl),some (.ref pp),x]∧Aav H5 H7∧H7 pp=some (.lst ((List.range i).map pv))) ⟨none,rfl,s6,Aad⟩ ?_ ?_⟩
   ·rintro i σ H7 hi ⟨x,rfl,sm,hL⟩
    rw [Int.toNat_natCast] at hi
    simp only [Int.zero_add]
    have st7:=st5.same sm
    walk_at "st"
    refine ⟨.inl ⟨rfl,_,.of hL⟩,?_⟩
    walk_at "st"
    have ehs:(AaW S d dd).hs[i]?=some (AaW S d dd).hs[i]:=List.getElem?_eq_getElem hi
    have mhs:=wd.hs _ (List.mem_of_getElem? ehs)
    have ejs:(AaW S d dd).js[i]?=some ((AaW S d dd).js.getD i false):=by
     have:i < (AaW S d dd).js.length:=Nat.lt_of_lt_of_eq hi st5.lj.symm
     rw [List.getD,List.getElem?_eq_getElem this]; rfl
    generalize (AaW S d dd).hs[i]=v at ehs mhs
    have a1:atI ((AaW S d dd).hs.map (Ad1 (AaW S d dd))) (i:Int)=some (Ad1 (AaW S d dd) v):=Ac2 (by rw [List.getElem?_map,ehs]; rfl)
    have gD:((AaW S d dd).hs.map (Ad1 (AaW S d dd))).getD i .non=Ad1 (AaW S d dd) v:=by rw [List.getD,List.getElem?_map,ehs]; rfl
    have len:((List.range i).map pv).length < sizeLine:=by rw [List.length_map,List.length_range,sizeLine_eq]; omega
    have fin:∀ H8,Aav H7 H8→∃ x,[some (V.ref A0.h),some (.ref B.d),some (.ref dd),some (.ref tl),some (.ref pp),some (.int (i:Int))]=[some (V.ref A0.h),some (.ref B.d),some (.ref dd),some (.ref tl),some (.ref pp),x]∧Aav H5 (upd H8 pp (.lst ((List.range i).map pv++[pv i])))∧(upd H8 pp (.lst ((List.range i).map pv++[pv i]))) pp=some (.lst ((List.range (i + 1)).map pv)):=fun H8 s8=>⟨_,rfl,(sm.trans s8).updN npp,by rw [Aad,List.range_succ,List.map_append]; rfl⟩
    refine ⟨B.d,_,rfl,st7.gHeld,?_⟩
    walk_at "st"
    refine Or.inl ⟨B.h,_,_,_,rfl,rfl,.of st7.h,a1,?_⟩
    rcases mhs with rfl | ⟨j,rfl,jl⟩
    ·refine ⟨false,rfl,?_⟩
     refine AgH ?_
     refine ⟨(by show 2≤sizeLine; decide),fun fl nfl=>?_⟩
     have s8:=(Aav.refl H7).upd (o:=.lst [.str "free",.str "stuck"]) nfl
     have e8:(upd H7 fl (.lst [.str "free",.str "stuck"])) fl=some (.lst [.str "free",.str "stuck"]):=Aad
     generalize upd H7 fl (.lst [.str "free",.str "stuck"])=H8 at s8 e8 ⊢
     have st8:=st7.same s8
     have jlt:i < (AaW S d dd).js.length:=Nat.lt_of_lt_of_eq hi st5.lj.symm
     have ms:=AlI (js:=(AaW S d dd).js) (n:=(AaW S d dd).js.length) (k:=i) jlt
     have epv:pv i=if (AaW S d dd).js.getD i false=true then V.str "stuck" else V.str "free":=by
      rw [hpv]; dsimp only; rw [gD,if_pos (show Ad1 (AaW S d dd) V.non=V.non from rfl),ms]
     generalize (AaW S d dd).js.getD i false=jb at ejs epv
     have a2:atI ((AaW S d dd).js.map V.bl) (i:Int)=some (.bl jb):=Ac2 (by rw [List.getElem?_map,ejs]; rfl)
     walk_at "st"
     refine ⟨B.d,_,rfl,st8.gStuck,?_⟩
     walk_at "st"
     refine Or.inl ⟨B.u,_,_,_,rfl,rfl,.of st8.u,a2,?_⟩
     walk_at "st"
     refine .inl ⟨jb,rfl,?_⟩
     cases jb with
     | true =>
      refine Or.inl ⟨fl,_,1,.str "stuck",rfl,rfl,.of e8,Ac2 (j:=1) rfl,?_⟩
      walk_at "st"
      refine ⟨pp,_,_,rfl,rfl,s8 _ _ hL,len,?_⟩
      rw [show V.str (Str.ofString "stuck")=pv i from epv.symm]
      exact fin H8 s8
     | false =>
      refine Or.inl ⟨fl,_,0,.str "free",rfl,rfl,.of e8,Ac2 (j:=0) rfl,?_⟩
      walk_at "st"
      refine ⟨pp,_,_,rfl,rfl,s8 _ _ hL,len,?_⟩
      rw [show V.str (Str.ofString "free")=pv i from epv.symm]
      exact fin H8 s8
    ·have ej:(AaW S d dd).lns[j]?=some (AaW S d dd).lns[j]:=List.getElem?_eq_getElem jl
     rw [AeU ej] at gD ⊢
     generalize (AaW S d dd).lns[j]=lm at ej gD
     have zl:=lnz lm.num (by rw [← n9]; exact List.mem_map.mpr ⟨lm,List.mem_of_getElem? ej,rfl⟩)
     have epv:pv i=.str lm.num:=by rw [hpv]; dsimp only; rw [gD,if_neg (by intro z; cases z)]
     refine ⟨true,⟨(by rw [sizeLine_eq]; omega),?_⟩,?_⟩
     ·rw [bne_iff_ne.mpr (by omega)]
     refine AgI ?_
     walk_at "st"
     refine ⟨pp,_,_,rfl,rfl,hL,len,?_⟩
     rw [← epv]
     exact fin H7 (Aav.refl H7)
   ·rintro σ H7 ⟨x,rfl,sm,hL⟩
    rw [Int.toNat_natCast] at hL
    have t7:Aaw K a H7 A3 (AaW S d dd):=t5.same sm
    have st7:StT H7 B (AaW S d dd):=st5.same sm
    have ePp:(List.range (AaW S d dd).hs.length).map pv=Af0 (AaW S d dd):=by rw [hpv]; rfl
    rw [ePp] at hL
    have asd:∀ z∈(AaW S d dd).lns.map (·.num),Asc z:=fun z hz=>asc z (by rw [← n9]; exact hz)
    have q':=q H7 A3 eA3 t7 st7 ap3 (fun b o hb e=>sm _ _ (fr5 b o hb e)) sub5
    have qas:∀ z∈(AaW S d dd).q,Asc z:=fun z hz=>asd z (by
     obtain ⟨ln,ml,en,_⟩:=wd.qok.ln z hz
     exact List.mem_map.mpr ⟨ln,ml,en⟩)
    obtain ⟨ly,dp⟩:=Ai3 qas
    have cq:PyData.canLay0 (.list ((AaW S d dd).q.map PyData.str))=true:=ly
    have ptx:=Ann wd.hs asd
    obtain ⟨py,pd⟩:=Anj ptx
    have cp:PyData.canLay0 (.tuple ((Af0 (AaW S d dd)).map vD))=true:=py
    obtain ⟨ty,td⟩:=Ahl (AaW S d dd).ts
    have ct:PyData.canLay0 (.list ((AaW S d dd).ts.map PyData.int))=true:=ty
    obtain ⟨wy,wdp⟩:=Ahl (AaW S d dd).wt
    have cw:PyData.canLay0 (.list ((AaW S d dd).wt.map PyData.int))=true:=wy
    have qq:∀ H8,Aav H7 H8→∀ v,v=V.bl true→Q v H8:=fun H8 s8 v ev=>by
     rw [ev]
     exact q H8 A3 eA3 (t7.same s8) (st7.same s8) ap3 (fun b o hb e=>s8 _ _ (sm _ _ (fr5 b o hb e))) sub5
    clear q' hC fr5 sub5
    generalize hDS:AaW S d dd=DS at *
    rw [← eA3]
    walk_at "st"
    refine ⟨A3.h,A3.dx,_,rfl,t7.hall,rfl,?_⟩
    walk_at "st"
    refine ⟨A3,DS,rfl,t7,fun wl nwl=>?_⟩
    have s8:=(Aav.refl H7).upd (o:=.lst (DS.q.map V.str)) nwl
    have e8:(upd H7 wl (.lst (DS.q.map V.str))) wl=some (.lst (DS.q.map V.str)):=Aad
    generalize upd H7 wl (.lst (DS.q.map V.str))=H8 at s8 e8 ⊢
    have t8:=t7.same s8
    have st8:=st7.same s8
    walk_at "st"
    refine ⟨B.d,_,rfl,st8.gQueue,?_⟩
    walk_at "st"
    refine Or.inr ⟨.list (DS.q.map PyData.str),.list (DS.q.map PyData.str),.lst (.of e8) (AfH DS.q),.lst (.of st8.q) (AfH DS.q),cq,cq,(by rw [AgU]; omega),?_⟩
    rw [SeqAt.eqv_refl _ cq]
    walk_at "st"
    refine ⟨A3.h,A3.dx,_,rfl,t8.hall,rfl,?_⟩
    walk_at "st"
    refine ⟨A3,DS,rfl,t8,wd.hs,fun H9 tt s9 ntt e9=>?_⟩
    have s79:Aav H7 H9:=s8.trans s9
    have pp9:=s79 _ _ hL
    walk_at "st"
    refine ⟨pp,_,rfl,.inl ⟨.of pp9,fun tu ntu=>?_⟩⟩
    have s10:=(Aav.refl H9).upd (o:=.tup (Af0 DS)) ntu
    have e10:(upd H9 tu (.tup (Af0 DS))) tu=some (.tup (Af0 DS)):=Aad
    generalize upd H9 tu (.tup (Af0 DS))=H10 at s10 e10 ⊢
    walk_at "st"
    refine Or.inr ⟨.tuple ((Af0 DS).map vD),.tuple ((Af0 DS).map vD),.tup (.of (s10 _ _ e9)) (Ahm ptx),.tup (.of e10) (Ahm ptx),cp,cp,(by rw [Ang]; omega),?_⟩
    rw [SeqAt.eqv_refl _ cp]
    have s710:Aav H7 H10:=s79.trans s10
    have t10:=t7.same s710
    have st10:=st7.same s710
    walk_at "st"
    refine ⟨A3.h,A3.dx,_,rfl,t10.hall,rfl,?_⟩
    walk_at "st"
    refine ⟨A3,DS,rfl,t10,fun sl nsl=>?_⟩
    have s11:=(Aav.refl H10).upd (o:=.lst (DS.ts.map V.int)) nsl
    have e11:(upd H10 sl (.lst (DS.ts.map V.int))) sl=some (.lst (DS.ts.map V.int)):=Aad
    generalize upd H10 sl (.lst (DS.ts.map V.int))=H11 at s11 e11 ⊢
    have st11:=st10.same s11
    have t11:=t10.same s11
    walk_at "st"
    refine ⟨B.d,_,rfl,st11.gShares,?_⟩
    walk_at "st"
    refine Or.inr ⟨.list (DS.ts.map PyData.int),.list (DS.ts.map PyData.int),.lst (.of e11) (AdH DS.ts),.lst (.of st11.n) (AdH DS.ts),ct,ct,(by rw [AgU]; omega),?_⟩
    rw [SeqAt.eqv_refl _ ct]
    walk_at "st"
    refine ⟨A3.h,A3.dx,_,rfl,t11.hall,rfl,?_⟩
    walk_at "st"
    refine ⟨A3,DS,rfl,t11,fun wl2 nwl2=>?_⟩
    have s12:=(Aav.refl H11).upd (o:=.lst (DS.wt.map V.int)) nwl2
    have e12:(upd H11 wl2 (.lst (DS.wt.map V.int))) wl2=some (.lst (DS.wt.map V.int)):=Aad
    generalize upd H11 wl2 (.lst (DS.wt.map V.int))=H12 at s12 e12 ⊢
    have st12:=st11.same s12
    walk_at "st"
    refine ⟨B.d,_,rfl,st12.gSteps,?_⟩
    walk_at "st"
    refine Or.inr ⟨.list (DS.wt.map PyData.int),.list (DS.wt.map PyData.int),.lst (.of e12) (AdH DS.wt),.lst (.of st12.t) (AdH DS.wt),cw,cw,(by rw [AgU]; omega),?_⟩
    rw [SeqAt.eqv_refl _ cw]
    exact qq H12 (s710.trans (s11.trans s12)) _ rfl
  clear hC
  have t1:=t.same s1
  have st1:=st.same s1
  have d1:=s1 _ _ hdd
  cases d with
  | jam b k =>
   have hk:0≤k∧k < S.hs.length:=by
    have ok:(decide (0≤k) && decide (k≤(S.hs.length:Int) - 1))=true:=ok
    rw [Bool.and_eq_true,decide_eq_true_eq,decide_eq_true_eq] at ok
    omega
   have kd:∀ b∈B.ws,(∃ xs,H b=some (.lst xs))∨∃ kvs,H b=some (.dK kvs):=fun b mb=>st.ws mb
   have fin:StT (upd H1 B.u (.lst ((S.js.set k.toNat b).map V.bl))) B (Abj.next S (.jam b k))→C [some (.ref A0.h),some (.ref B.d),some (.ref dd),some (.ref r),none,none] (upd H1 B.u (.lst ((S.js.set k.toNat b).map V.bl))):=fun st2=>by
    have x2:AaE B.ws H (upd H1 B.u (.lst ((S.js.set k.toNat b).map V.bl))):=fun c o hc e=>(Aah (fun x=>hc (by rw [x]; simp [StA.ws,StA.ls]))).trans (s1 _ _ e)
    exact rest _ r [] (t.frame x2 ap kd) st2 x2 (fun c e=>n1 c (Aai e)) (by rw [Aah (fun x=>st.fresh nr (by rw [x]; simp [StA.ws,StA.ls]))]; exact e1) (t.fresh nr) (st.fresh nr) trivial
   have st2:=st1.setU (js':=S.js.set k.toNat b) (by rw [List.length_set])
   have fin:=fin st2
   cases b
   all_goals
    walk_at "st"
    refine Or.inr (Or.inl ⟨dd,_,_,_,rfl,rfl,.of d1,rfl,?_⟩)
    walk_at "st"
    refine Or.inr (Or.inl ⟨dd,_,_,_,rfl,rfl,.of d1,rfl,?_⟩)
    walk_at "st"
    refine Or.inr (Or.inl ⟨dd,_,_,_,rfl,rfl,.of d1,rfl,?_⟩)
    walk_at "st"
    refine ⟨B.d,_,rfl,st1.gStuck,?_⟩
    walk_at "st"
    refine Or.inr (Or.inl ⟨dd,_,_,_,rfl,rfl,.of d1,rfl,?_⟩)
    walk_at "st"
    refine ⟨B.u,_,k,_,rfl,rfl,st1.u,Aet hk.1 (by rw [List.length_map,st1.lj]; exact hk.2),?_⟩
   ·rw [show decide (V.str (ApQ false)=V.str (Str.ofString "stick"))=false by decide,show (S.js.map V.bl).set k.toNat (.bl false)=(S.js.set k.toNat false).map V.bl from (List.map_set ..).symm]
    exact fin
   ·rw [show decide (V.str (ApQ true)=V.str (Str.ofString "stick"))=true by decide,show (S.js.map V.bl).set k.toNat (.bl true)=(S.js.set k.toNat true).map V.bl from (List.map_set ..).symm]
    exact fin
  | lift z =>
   walk_at "st"
   refine Or.inr (Or.inl ⟨dd,_,_,_,rfl,rfl,.of d1,rfl,?_⟩)
   walk_at "st"
   refine ⟨B.d,_,rfl,st1.gQueue,?_⟩
   refine ⟨.inl ⟨rfl,_,.of st1.q⟩,?_⟩
   walk_at "st"
   refine Or.inr (Or.inl ⟨dd,_,_,_,rfl,rfl,.of d1,rfl,?_⟩)
   walk_at "st"
   refine ⟨B.q,_,_,rfl,rfl,st1.q,(by rw [List.length_map,sizeLine_eq]; have:=wf.q60; omega),?_⟩
   obtain ⟨ln,o1,o2,o3,o4⟩:=ok
   have en:Abj.next S (.lift z)={ S with lns:=S.lns.set (Aez S.lns z) (Aaq ln "waits"),q:=S.q++[z] }:=by simp only [Abj.next,o1]
   rw [show S.q.map V.str++[V.str z]=(S.q++[z]).map V.str by rw [List.map_append]; rfl]
   have st2:=(st1.setQ (q':=S.q++[z])).lns (lns':=S.lns.set (Aez S.lns z) (Aaq ln "waits")) (Aax (f:=fun x:LnS=>x.num) (y:=Aaq ln "waits") o1 rfl)
   have x2:AaE B.ws H (upd H1 B.q (.lst ((S.q++[z]).map V.str))):=fun b o hb e=>(Aah (fun x=>hb (by rw [x]; simp [StA.ws,StA.ls]))).trans (s1 _ _ e)
   have n2:∀ b,(upd H1 B.q (.lst ((S.q++[z]).map V.str))) b=none→H b=none:=fun b e=>n1 b (Aai e)
   generalize upd H1 B.q (.lst ((S.q++[z]).map V.str))=H2 at st2 x2 n2 ⊢
   have kd:∀ b∈B.ws,(∃ xs,H b=some (.lst xs))∨∃ kvs,H b=some (.dK kvs):=fun b mb=>st.ws mb
   have d2:=x2 _ _ (st.tup hdd) hdd
   walk_at "st"
   refine Or.inr (Or.inl ⟨dd,_,_,_,rfl,rfl,.of d2,rfl,?_⟩)
   walk_at "st"
   refine ⟨(by show 2≤sizeLine; decide),fun u nu=>?_⟩
   walk_at "st"
   refine ⟨(by show 1≤sizeLine; decide),fun tl ntl=>?_⟩
   have s3:Aav H2 (upd (upd H2 u (.tup [.str "waits",.str z])) tl (.lst [.ref u])):=((Aav.refl H2).upd nu).upd ntl
   have utl:u≠tl:=fun x=>by rw [← x,Aad] at ntl; cases ntl
   have ntl2:H2 tl=none:=Aai ntl
   refine rest _ tl [u] (t.frame (fun b o hb e=>s3 _ _ (x2 b o hb e)) ap kd) (by rw [en]; exact st2.same s3) (fun b o hb e=>s3 _ _ (x2 b o hb e)) (fun b e=>n2 b (Aai (Aai e))) Aad (t.fresh (n2 _ ntl2)) (st.fresh (n2 _ ntl2)) ⟨?_,trivial⟩
   rw [Aah utl,Aad]
  | hang z =>
   have kd:∀ b∈B.ws,(∃ xs,H b=some (.lst xs))∨∃ kvs,H b=some (.dK kvs):=fun b mb=>st.ws mb
   obtain ⟨ln,o1,o2,o3,o4,o5,o6⟩:=ok
   generalize hi:Aez S.lns z=i at o1
   have wl:=wf.ln i ln o1
   walk_at "st"
   refine Or.inr (Or.inl ⟨dd,_,_,_,rfl,rfl,.of d1,rfl,?_⟩)
   walk_at "st"
   refine Or.inr (Or.inl ⟨dd,_,_,_,rfl,rfl,.of d1,rfl,?_⟩)
   walk_at "st"
   refine Or.inr (Or.inl ⟨dd,_,_,_,rfl,rfl,.of d1,rfl,?_⟩)
   walk_at "st"
   refine ⟨(by show 2≤sizeLine; decide),fun u nu=>?_⟩
   walk_at "st"
   refine ⟨(by show 1≤sizeLine; decide),fun tl ntl=>?_⟩
   have s3:Aav H1 (upd (upd H1 u (.tup [.str "rests",.str z])) tl (.lst [.ref u])):=((Aav.refl H1).upd nu).upd ntl
   have utl:u≠tl:=fun x=>by rw [← x,Aad] at ntl; cases ntl
   have etl:(upd (upd H1 u (.tup [.str "rests",.str z])) tl (.lst [.ref u])) tl=some (.lst ([u].map V.ref)):=Aad
   have eu:(upd (upd H1 u (.tup [.str "rests",.str z])) tl (.lst [.ref u])) u=some (.tup [.str "rests",.str z]):=by rw [Aah utl,Aad]
   have n3:∀ b,(upd (upd H1 u (.tup [.str "rests",.str z])) tl (.lst [.ref u])) b=none→H b=none:=fun b e=>n1 b (Aai (Aai e))
   have ntlH:H tl=none:=n1 _ (Aai ntl)
   have nuH:H u=none:=n1 _ nu
   generalize upd (upd H1 u (.tup [.str "rests",.str z])) tl (.lst [.ref u])=H3 at s3 etl eu n3 ⊢
   have st3:=st1.same s3
   have d3:=s3 _ _ d1
   walk_at "st"
   refine Or.inr (Or.inl ⟨dd,_,_,_,rfl,rfl,.of d3,rfl,?_⟩)
   walk_at "st"
   refine ⟨B.d,_,rfl,st3.gQueue,?_⟩
   refine Or.inr ⟨B.q,_,rfl,.inl (.of st3.q),rfl,AjQ S.q,?_⟩
   rw [Anm]
   have fin:∀ H4,StT H4 B (Abj.next S (.hang z))→(∀ b o,b ∉ B.ws→H3 b=some o→H4 b=some o)→(∀ b,H4 b=none→H3 b=none)→C [some (.ref A0.h),some (.ref B.d),some (.ref dd),some (.ref tl),none,none] H4:=fun H4 st4 f4 g4=>by
    have x4:AaE B.ws H H4:=fun b o hb e=>f4 b o hb (s3 _ _ (s1 _ _ e))
    exact rest H4 tl [u] (t.frame x4 ap kd) st4 x4 (fun b e=>n3 b (g4 b e)) (f4 tl _ (st.fresh ntlH) etl) (t.fresh ntlH) (st.fresh ntlH) ⟨f4 u _ (st.fresh nuH) eu,trivial⟩
   have nm:(S.lns.set i { Aaq ln "rests" with held:=[] }).map (·.num)=S.lns.map (·.num):=Aax (f:=fun x:LnS=>x.num) (y:={ Aaq ln "rests" with held:=[] }) o1 rfl
   obtain ⟨f,⟨a1,_⟩ | ⟨a1,hh,hn,hl⟩ | ⟨a1,hn,k,hh,hk,hu'⟩⟩:=wl
   ·rcases o3 with e | e <;> rw [a1] at e <;> exact absurd e (by decide)
   ·have en:Abj.next S (.hang z)={ S with lns:=S.lns.set i { Aaq ln "rests" with held:=[] },q:=S.q.erase z }:=by
     simp only [Abj.next,hi,o1]
     rw [if_pos a1,hh]; rfl
    rw [o2] at hn
    rw [decide_eq_true hn]
    walk_at "st"
    refine ⟨B.d,_,rfl,st3.gQueue,?_⟩
    refine ⟨.inl ⟨rfl,_,.of st3.q⟩,?_⟩
    walk_at "st"
    refine Or.inr (Or.inl ⟨dd,_,_,_,rfl,rfl,.of d3,rfl,?_⟩)
    walk_at "st"
    refine Or.inr ⟨B.q,S.q,z,rfl,rfl,st3.q,hn,?_⟩
    exact fin _ (by rw [en]; exact (st3.setQ (q':=S.q.erase z)).lns nm) (fun b o hb e=>(Aah (fun x=>hb (by rw [x]; simp [StA.ws,StA.ls]))).trans e) (fun b e=>Aai e)
   ·have nw:ln.st≠"waits":=by rw [a1]; decide
    have klt:k < S.hs.length:=(List.getElem?_eq_some_iff.mp hk).1
    have en:Abj.next S (.hang z)={ S with lns:=S.lns.set i { Aaq ln "rests" with held:=[] },hs:=S.hs.set k .non }:=by
     simp only [Abj.next,hi,o1]
     rw [if_neg nw,hh]
     show ({ S with lns:=S.lns.set i { Aaq ln "rests" with held:=[] },hs:=S.hs.set ((k:Int)).toNat .non }:Aap)=_
     rw [Int.toNat_natCast]
    rw [o2] at hn
    rw [decide_eq_false hn]
    have gi:(S.hs.map (Ad1 S))[k]?=some (.str z):=by rw [List.getElem?_map,hk]; show some (Ad1 S (.int (i:Int)))=_; rw [AeU o1,o2]
    have gfl:(S.hs.map (Ad1 S)).all Afl=true:=by
     rw [List.all_eq_true]
     intro y my
     obtain ⟨v,mv,rfl⟩:=List.mem_map.mp my
     rcases wf.hs v mv with rfl | ⟨j,rfl,jl⟩
     ·rfl
     ·rw [AeU (List.getElem?_eq_getElem jl)]; rfl
    have gno:∀ (m:Nat) (y:V),m < k→(S.hs.map (Ad1 S))[m]?=some y→eqV y (.str z)=false:=fun m y hm hy=>by
     rw [List.getElem?_map] at hy
     obtain ⟨v,e1,rfl⟩:=Option.map_eq_some_iff.mp hy
     rcases wf.hs v (List.mem_of_getElem? e1) with rfl | ⟨j,rfl,jl⟩
     ·rfl
     ·have ej:S.lns[j]?=some S.lns[j]:=List.getElem?_eq_getElem jl
      rw [AeU ej,Ai4]
      refine decide_eq_false fun x=>?_
      by_cases ij:i=j
      ·subst ij
       have:=hu' m e1
       omega
      ·exact AhZ wf.qok.num o1 ej ij (by rw [o2,x])
    have gz:eqV (.str z) (.str z)=true:=by rw [Ai4]; exact decide_eq_true rfl
    walk_at "st"
    refine ⟨B.d,_,rfl,st3.gHeld,?_⟩
    walk_at "st"
    refine ⟨B.d,_,rfl,st3.gHeld,?_⟩
    refine ⟨.inl ⟨rfl,_,.of st3.h⟩,?_⟩
    walk_at "st"
    refine Or.inr (Or.inl ⟨dd,_,_,_,rfl,rfl,.of d3,rfl,?_⟩)
    walk_at "st"
    refine ⟨B.h,_,.str z,k,rfl,rfl,st3.h,rfl,gfl,⟨_,gi,gz⟩,gno,?_⟩
    walk_at "st"
    refine ⟨B.h,_,(k:Int),_,rfl,rfl,st3.h,Aet (by omega) (by rw [List.length_map]; omega),?_⟩
    have eh:(S.hs.map (Ad1 S)).set ((k:Int)).toNat .non=(S.hs.set k .non).map (Ad1 { S with lns:=S.lns.set i { Aaq ln "rests" with held:=[] } }):=by
     rw [Int.toNat_natCast,List.map_congr_left (fun v _=>Ai2 (S:=S) (S':={ S with lns:=S.lns.set i { Aaq ln "rests" with held:=[] } }) nm v),List.map_set]; rfl
    rw [eh]
    exact fin _ (by rw [en]; exact st3.setH (by rw [List.length_set]) nm) (fun b o hb e=>(Aah (fun x=>hb (by rw [x]; simp [StA.ws,StA.ls]))).trans e) (fun b e=>Aai e)
end
local macro_rules | `(tactic| walk_at "st")=>`(tactic| repeat (first
 | refine ⟨_,rfl,?_⟩
 | refine ⟨_,_,rfl,rfl,?_⟩
 | refine ⟨_,_,rfl,?_⟩
 | refine Or.inl ⟨_,_,rfl,rfl,?_⟩
 | refine Or.inl ⟨rfl,?_⟩
 | refine ⟨rfl,?_⟩
 | refine Or.inl ⟨_,_,_,_,rfl,rfl,.of (by assumption),rfl,?_⟩
 | (refine And.intro (show Aeq _ _ from ?_) ?_; (first | exact Or.inr ⟨by omega,by omega⟩ | exact Or.inl ⟨by omega,by omega⟩))
 | (refine And.intro (show Ae4 _ _ from ?_) ?_; exact ⟨by omega,by omega⟩)
 | (refine And.intro (show (0:Int) < _ from ?_) ?_; first | decide | omega)))
theorem Arv:∀ n:Nat,n < 1000→100≤n→(Str.ofString (toString (n:Int))).length=3∧∀ c∈(Str.ofString (toString (n:Int))).cps.toList,48≤c∧c≤57:=by decide +kernel
def ArM (z:Str):Nat:=z.cps.toList.foldl (fun b c=>10 * b + (c - 48)) 0
theorem AoK:∀ n:Nat,n < 1000→ArM (Str.ofString (toString (n:Int)))=n:=by decide +kernel
def lnZ (c:Int) (k:Nat):Str:=Str.ofString (toString (100 + (7 * (k:Int) + c) % 900))
theorem AkI (c:Int) (k:Nat):∃ n:Nat,100≤n∧n < 1000∧(n:Int)=100 + (7 * (k:Int) + c) % 900∧lnZ c k=Str.ofString (toString (n:Int)):=by
 refine ⟨(100 + (7 * (k:Int) + c) % 900).toNat,by omega,by omega,by omega,?_⟩
 unfold lnZ
 rw [show (((100 + (7 * (k:Int) + c) % 900).toNat:Nat):Int)=100 + (7 * (k:Int) + c) % 900 by omega]
theorem AqE (c:Int) (k:Nat):(lnZ c k).length=3∧Dig (lnZ c k):=by
 obtain ⟨n,h1,h2,_,e⟩:=AkI c k
 rw [e]
 exact Arv n h2 h1
theorem AqF {c:Int} {i j:Nat} (h:i < j) (hj:j < 60):lnZ c i≠lnZ c j:=fun e=>by
 obtain ⟨n,n1,n2,n3,n4⟩:=AkI c i
 obtain ⟨m,m1,m2,m3,m4⟩:=AkI c j
 rw [n4,m4] at e
 have:=congrArg ArM e
 rw [AoK n n2,AoK m m2] at this
 omega
def AoL (c:Int) (many:Nat):List Str:=(List.range many).map (lnZ c)
theorem ApK (c:Int) {many:Nat} (h:many≤60):(AoL c many).Nodup :=
 List.pairwise_map.mpr (List.Pairwise.imp_of_mem (fun {i j} _ hj lt=>AqF lt (by have:=List.mem_range.mp hj; omega)) List.pairwise_lt_range)
theorem Aoq {c:Int} {many:Nat} {z:Str} (m:z∈AoL c many):z.length=3∧Dig z:=by
 obtain ⟨k,_,rfl⟩:=List.mem_map.mp m
 exact AqE c k
theorem Aor (c:Int) (many:Nat):(AoL c many).length=many:=by unfold AoL; rw [List.length_map,List.length_range]
theorem AdZ:∀ (n:Nat) {S:Aap},WF S→(tonesF n S).2.hs.length=S.hs.length∧(tonesF n S).2.dn=S.dn∧∀ (i:Nat) (ln:LnS),S.lns[i]?=some ln→ln.st="rests"→(tonesF n S).2.lns[i]?=some ln
 | 0,_,_=>⟨rfl,rfl,fun _ _ h _=>h⟩
 | n + 1,S,w=>by
  unfold tonesF
  cases e:AeA S with
  | none=>exact ⟨rfl,rfl,fun _ _ h _=>h⟩
  | some x =>
   obtain ⟨i1,i2,i3⟩:=AdZ n (w.tone (t:=x.1) (S':=x.2) e)
   obtain ⟨z,r,k,lm,e1,e2,e3,e4,e5,e6⟩:=AdW w.qok (t:=x.1) (S':=x.2) e
   have hl:x.2.hs.length=S.hs.length:=by rw [e6]; exact List.length_set
   have hd:x.2.dn=S.dn:=by rw [e6]
   refine ⟨i1.trans hl,i2.trans hd,fun i ln h hr=>i3 i ln ?_ hr⟩
   have hw:=w.waits e3 (by rw [e4,e1]; exact List.mem_cons_self)
   have ne:Aez S.lns z≠i:=fun x=>by
    rw [x,h] at e3
    cases e3
    rw [hw.1] at hr
    exact absurd hr (by decide)
   rw [e6]
   show (S.lns.set (Aez S.lns z) _)[i]?=some ln
   rw [List.getElem?_set_ne ne]
   exact h
theorem Aos {S:Aap} {d:Abj} {dd:Addr} (w:WF S) (ok:d.ok S):(AaW S d dd).hs.length=S.hs.length:=(AdZ _ (w.deedD (dd:=dd) ok)).1.trans d.next_len
theorem ApL {S:Aap} {d:Abj} {dd:Addr} (w:WF S) (ok:d.ok S):(AaW S d dd).dn.length=S.dn.length + 1:=by
 have:=(AdZ (Acn S d dd).q.length (w.deedD (dd:=dd) ok)).2.1
 show (tonesF (Acn S d dd).q.length (Acn S d dd)).2.dn.length=_
 rw [this]
 show ((d.next S).dn++[V.ref dd]).length=_
 rw [d.next_dn,List.length_append]; rfl
theorem Aot {S:Aap} {d:Abj} {dd:Addr} (w:WF S) (ok:d.ok S):(AaW S d dd).lns.map (·.num)=S.lns.map (·.num):=(AgV _ (w.deedD (dd:=dd) ok)).trans d.next_num
theorem ApM {S:Aap} {d:Abj} {dd:Addr} (w:WF S) (ok:d.ok S):WF (AaW S d dd):=(w.deedD (dd:=dd) ok).tones
theorem AlL {S:Aap} {z:Str} {dd:Addr} (w:WF S) (ok:Abj.ok S (.lift z)) {i:Nat} {ln:LnS} (h:S.lns[i]?=some ln) (ne:ln.num≠z) (hr:ln.st="rests"):(AaW S (.lift z) dd).lns[i]?=some ln:=by
 refine (AdZ _ (w.deedD (dd:=dd) ok)).2.2 i ln ?_ hr
 obtain ⟨lm,o1,o2,_⟩:=ok
 show (Abj.next S (.lift z)).lns[i]?=some ln
 simp only [Abj.next,o1]
 have:Aez S.lns z≠i:=fun x=>by rw [x,h] at o1; cases o1; exact ne o2
 rw [List.getElem?_set_ne this]
 exact h
theorem Ano {S:Aap} {b:Bool} {k:Int} {dd:Addr} (w:WF S) (ok:Abj.ok S (.jam b k)) {i:Nat} {ln:LnS} (h:S.lns[i]?=some ln) (hr:ln.st="rests"):(AaW S (.jam b k) dd).lns[i]?=some ln :=
 (AdZ _ (w.deedD (dd:=dd) ok)).2.2 i ln h hr
theorem Alb {long:Int} {zs:List Str} {n i:Nat} {ln:LnS} (h:(AjL long zs n).lns[i]?=some ln):∃ z,zs[i]?=some z∧ln=ln0 z:=by
 have h:(zs.map ln0)[i]?=some ln:=h
 rw [List.getElem?_map] at h
 obtain ⟨z,e1,e2⟩:=Option.map_eq_some_iff.mp h
 exact ⟨z,e1,e2.symm⟩
theorem AjR (long:Int) (zs:List Str) (n:Nat):(AjL long zs n).lns.map (·.num)=zs:=by
 show (zs.map ln0).map (·.num)=zs
 rw [List.map_map,show ((fun x:LnS=>x.num)∘ln0)=id from rfl,List.map_id]
theorem Aou {long:Int} {zs:List Str} {n:Nat} (nd:zs.Nodup) (z0:0 < zs.length) (z1:zs.length≤60):WF (AjL long zs n):=by
 refine ⟨⟨List.nodup_nil,fun z m=>(by cases m),by rw [AjR]; exact nd,Int.le_refl 0,by show (0:Int)≤_; omega,by show (0:Int) < (zs.length:Int); omega,Nat.zero_le _⟩,fun v m=>.inl (List.eq_of_mem_replicate m),by show (zs.map ln0).length≤60; rw [List.length_map]; exact z1,fun i ln h=>?_⟩
 obtain ⟨z,e1,rfl⟩:=Alb h
 refine ⟨rfl,.inl ⟨rfl,rfl,fun m=>(by cases m),fun k e=>?_⟩⟩
 have e:(List.replicate n V.non)[k]?=some (.int i):=e
 have:=List.eq_of_mem_replicate (List.mem_of_getElem? e)
 cases this
local macro_rules | `(tactic| walk_at "st")=>`(tactic| repeat (first
 | refine ⟨_,rfl,?_⟩
 | refine ⟨_,_,rfl,rfl,?_⟩
 | refine ⟨_,_,rfl,?_⟩
 | refine Or.inl ⟨_,_,rfl,rfl,?_⟩
 | refine Or.inl ⟨rfl,?_⟩
 | refine ⟨rfl,?_⟩
 | refine Or.inl ⟨_,_,_,_,rfl,rfl,.of (by assumption),rfl,?_⟩
 | (refine And.intro (show Aeq _ _ from ?_) ?_; (first | exact Or.inr ⟨by omega,by omega⟩ | exact Or.inl ⟨by omega,by omega⟩))
 | (refine And.intro (show Ae4 _ _ from ?_) ?_; exact ⟨by omega,by omega⟩)
 | (refine And.intro (show (0:Int) < _ from ?_) ?_; first | decide | omega)))
structure Afj (K:PySem.W.Frag) (a:Adr) (H:Hp) (A:Aan) (B:StA) (zs:List Str) (n m:Nat) (S:Aap):Prop where
 t:Aaw K a H A S
 st:StT H B S
 ap:AjO A B
 wf:WF S
 num:S.lns.map (·.num)=zs
 len:S.hs.length=n
 dn:S.dn.length≤m
def Kp (H:Hp) (A:Aan) (B:StA) (b:Addr) (o:HO):Prop:=H b=some o∧b ∉ A.ws∧b ∉ B.ws
def Ks (K:PySem.W.Frag) (H:Hp) (A:Aan) (B:StA) (p:Addr) (xs:List V):Prop:=(∀ H',SqL K H' p xs)∨∃ o,Kp H A B p o∧∀ H',H' p=some o→SqL K H' p xs
structure AqG (A A':Aan) (B:StA) (H H':Hp):Prop where
 h:A'.h=A.h
 fr:AaE (A.ws++B.ws) H H'
 sub:∀ b∈A'.ws,b∈A.ws∨H b=none
section
variable {K:PySem.W.Frag} {a:Adr} {H H':Hp} {A A':Aan} {B:StA} {zs:List Str} {n m:Nat} {S:Aap} {p b:Addr} {xs:List V} {o:HO}
theorem Kp.same (k:Kp H A B b o) (s:Aav H H'):Kp H' A B b o:=⟨s _ _ k.1,k.2⟩
theorem Kp.next (k:Kp H A B b o) (g:AqG A A' B H H'):Kp H' A' B b o:=by
 refine ⟨g.fr b o (fun m=>(List.mem_append.mp m).elim k.2.1 k.2.2) k.1,fun m=>?_,k.2.2⟩
 rcases g.sub b m with m | e
 ·exact k.2.1 m
 ·rw [k.1] at e; cases e
theorem Ks.same (k:Ks K H A B p xs) (s:Aav H H'):Ks K H' A B p xs:=k.imp id fun ⟨o,k,f⟩=>⟨o,k.same s,f⟩
theorem Ks.next (k:Ks K H A B p xs) (g:AqG A A' B H H'):Ks K H' A' B p xs:=k.imp id fun ⟨o,k,f⟩=>⟨o,k.next g,f⟩
theorem Ks.sq (k:Ks K H A B p xs):SqL K H p xs:=k.elim (fun f=>f H) fun ⟨_,k,f⟩=>f H k.1
theorem Afj.same (g:Afj K a H A B zs n m S) (s:Aav H H'):Afj K a H' A B zs n m S:=⟨g.t.same s,g.st.same s,g.ap,g.wf,g.num,g.len,g.dn⟩
theorem Afj.asc (g:Afj K a H A B zs n m S) (zo:∀ z∈zs,z.length=3∧Dig z):∀ z∈S.lns.map (·.num),Asc z:=fun z m=>(zo z (by rw [← g.num]; exact m)).2.asc
theorem Afj.lnz (g:Afj K a H A B zs n m S) (zo:∀ z∈zs,z.length=3∧Dig z):∀ z∈S.lns.map (·.num),0 < z.length∧z.length≤1000:=fun z m=>by have:=(zo z (by rw [← g.num]; exact m)).1; omega
theorem Afj.nxt (g:Afj K a H A B zs n m S) {d:Abj} {dd:Addr} (ok:d.ok S) (t':Aaw K a H' A' (AaW S d dd)) (st':StT H' B (AaW S d dd)) (ap':AjO A' B):Afj K a H' A' B zs n (m + 1) (AaW S d dd) :=
 ⟨t',st',ap',ApM g.wf ok,(Aot g.wf ok).trans g.num,(Aos g.wf ok).trans g.len,by rw [ApL g.wf ok]; exact Nat.succ_le_succ g.dn⟩
theorem Afj.at (g:Afj K a H A B zs n m S) {i:Nat} {z:Str} (h:zs[i]?=some z):∃ ln,S.lns[i]?=some ln∧ln.num=z∧Aez S.lns z=i:=by
 rw [← g.num,List.getElem?_map] at h
 obtain ⟨ln,e1,e2⟩:=Option.map_eq_some_iff.mp h
 refine ⟨ln,e1,e2,?_⟩
 obtain ⟨lm,f1,f2⟩:=Ana (lns:=S.lns) (z:=z) (List.mem_map.mpr ⟨ln,List.mem_of_getElem? e1,e2⟩)
 by_cases e:Aez S.lns z=i
 ·exact e
 ·exact absurd (f2.trans e2.symm) (AhZ g.wf.qok.num f1 e1 e)
theorem Afj.sees (g:Afj K a H A B zs n m S) {i:Nat} {z:Str} {ln:LnS} (e:S.lns[i]?=some ln) (en:ln.num=z):(ln.st="rests"↔¬ (z∈S.q∨V.str z∈S.hs.map (Ad1 S))):=by
 have w:=g.wf.ln i ln e
 have hold:V.str z∈S.hs.map (Ad1 S)→∃ k:Nat,S.hs[k]?=some (.int i):=fun mm=>by
  obtain ⟨v,mv,ev⟩:=List.mem_map.mp mm
  rcases g.wf.hs v mv with rfl | ⟨j,rfl,jl⟩
  ·cases ev
  ·have ej:S.lns[j]?=some S.lns[j]:=List.getElem?_eq_getElem jl
   rw [AeU ej] at ev
   have ev:=V.str.inj ev
   obtain ⟨k,hk,ek⟩:=List.getElem_of_mem mv
   refine ⟨k,?_⟩
   by_cases ij:i=j
   ·rw [ij,List.getElem?_eq_getElem hk,ek]
   ·exact absurd (en.trans ev.symm) (AhZ g.wf.qok.num e ej ij)
 obtain ⟨f,⟨a1,_,a2,a3⟩ | ⟨a1,_,a2,_⟩ | ⟨a1,a2,k,_,a3,_⟩⟩:=w
 ·refine ⟨fun _ mm=>mm.elim (fun x=>a2 (by rw [en]; exact x)) fun x=>?_,fun _=>a1⟩
  obtain ⟨k,hk⟩:=hold x
  exact a3 k hk
 ·refine ⟨fun x=>by rw [a1] at x; exact absurd x (by decide),fun x=>absurd (.inl (by rw [← en]; exact a2)) x⟩
 ·refine ⟨fun x=>by rw [a1] at x; exact absurd x (by decide),fun x=>absurd (.inr ?_) x⟩
  refine List.mem_map.mpr ⟨.int i,List.mem_of_getElem? a3,?_⟩
  rw [AeU e,en]
end
local macro_rules | `(tactic| walk_at "st")=>`(tactic| repeat (first
 | refine ⟨_,rfl,?_⟩
 | refine ⟨_,_,rfl,rfl,?_⟩
 | refine ⟨_,_,rfl,?_⟩
 | refine Or.inl ⟨_,_,rfl,rfl,?_⟩
 | refine Or.inl ⟨rfl,?_⟩
 | refine ⟨rfl,?_⟩
 | refine Or.inl ⟨_,_,_,_,rfl,rfl,.of (by assumption),rfl,?_⟩
 | (refine And.intro (show Aeq _ _ from ?_) ?_; (first | exact Or.inr ⟨by omega,by omega⟩ | exact Or.inl ⟨by omega,by omega⟩))
 | (refine And.intro (show Ae4 _ _ from ?_) ?_; exact ⟨by omega,by omega⟩)
 | (refine And.intro (show (0:Int) < _ from ?_) ?_; first | decide | omega)))
structure ArN (P:Program) (w:World) (K:PySem.W.Frag) (mg:Str→Option Value) (a:Adr):Prop extends TxtH P w K mg a where
 n_str:mg "str"=none
theorem Arw {xs:List Int} {i:Int} (h0:0≤i) (h1:i < xs.length):∃ z,atI (xs.map V.int) i=some (.int z)∧z∈xs:=by
 obtain ⟨v,e1,e2⟩:=Aju (xs:=xs.map V.int) h0 (by rw [List.length_map]; exact h1)
 rw [List.getElem?_map] at e2
 cases q:xs[i.toNat]? with
 | none=>rw [q] at e2; cases e2
 | some z=>rw [q] at e2; cases e2; exact ⟨z,e1,List.mem_of_getElem? q⟩
theorem AeW {i:Nat} {x:V} {σ:St} {H:Hp} {Q:St→Hp→Prop} (h:Q (σ.set i (some x)) H):AjW i x σ H Q:=h
def chT (K:PySem.W.Frag) (a:Addr) (all:List V) (g:TG) (tb:TS) (D:AkN):List V→St→Hp→Prop
 | [],σ,H=>SqT K H a all∧D.nx σ H
 | x :: xs,σ,H=>SqT K H a all∧g x σ H fun σ2 H2=>tb { D with nx:=chT K a all g tb D xs,ct:=chT K a all g tb D xs,bk:=D.nx } σ2 H2
theorem AqH {K:PySem.W.Frag} {a:Addr} {all:List V} {g:TG} {tb:TS} {D:AkN}:∀ {xs:List V} {σ:St} {H:Hp},chT K a all g tb D xs σ H→SqT K H a all
 | [],_,_,h=>h.1
 | _ :: _,_,_,h=>h.1
theorem AlM {K:PySem.W.Frag} {a:Addr} {xs:List V} {g:TG} {tb:TS} {D:AkN} {σ:St} {H:Hp} (h0:chT K a xs g tb D xs σ H) :
  ∃ W:Nat→Nat→St→Hp→Prop,(∃ m,W 0 m σ H)∧∀ i m σ H,W i m σ H →
   ((Itt K a).stop i H∧D.nx σ H)∨((Itt K a).go i H∧∃ N:St→Hp→Prop,(∀ σ' H',N σ' H'→∃ m',m' < m∧W (i + 1) m' σ' H')∧∀ x H',(Itt K a).yld i H x H'→g x σ H' fun σ2 H2=>tb { D with nx:=N,ct:=N,bk:=D.nx } σ2 H2):=by
 refine AoS (fun i σ H=>chT K a xs g tb D (xs.drop i) σ H) h0 (fun i σ H _ h=>AqH h) (fun i x σ H hx h=>?_) (fun σ H h=>?_)
 ·have il:i < xs.length:=(List.getElem?_eq_some_iff.mp hx).1
  have e:xs.drop i=x :: xs.drop (i + 1):=by
   rw [List.drop_eq_getElem_cons il]
   rw [List.getElem?_eq_getElem il] at hx
   rw [Option.some.inj hx]
  have h:chT K a xs g tb D (xs.drop i) σ H:=h
  rw [e] at h
  exact h.2
 ·have h:chT K a xs g tb D (xs.drop xs.length) σ H:=h
  rw [List.drop_length] at h
  exact h.2
theorem Aiv {n:Nat} {k:Int} (h:k∈AaM 0 (n:Int)):0≤k∧k < n:=by
 unfold AaM at h
 obtain ⟨j,hj,rfl⟩:=List.mem_map.mp h
 have:=List.mem_range.mp hj
 omega
theorem Anp (n:Nat):(AaM 0 (n:Int)).Nodup:=by
 unfold AaM
 refine List.pairwise_map.mpr (List.Pairwise.imp_of_mem (fun {i j} _ _ lt=>?_) List.pairwise_lt_range)
 omega
theorem AqI {a b:TS} {D:AkN} {σ:St} {H:Hp} (h:a { D with nx:=b D } σ H):AqL a b D σ H:=h
theorem Alc {S:Aap} (h:AlN S):∀ y∈S.hs.map (Ad1 S),y=.non∨∃ z,y=.str z:=fun y my=>by
 obtain ⟨v,mv,rfl⟩:=List.mem_map.mp my
 rcases h v mv with rfl | ⟨j,rfl,jl⟩
 ·exact .inl rfl
 ·exact .inr ⟨_,AeU (List.getElem?_eq_getElem jl)⟩
theorem Aov {S:Aap} (h:AlN S):(S.hs.map (Ad1 S)).all Afl=true:=by
 rw [List.all_eq_true]
 intro y my
 rcases Alc h y my with rfl | ⟨_,rfl⟩ <;> rfl
theorem ApN {S:Aap} (h:AlN S) {z:Str}:inV (.str z) (S.hs.map (Ad1 S))=decide (V.str z∈S.hs.map (Ad1 S)):=by
 have k:=Alc h
 generalize S.hs.map (Ad1 S)=ys at k
 unfold inV
 rw [Bool.eq_iff_iff,List.any_eq_true,decide_eq_true_eq]
 constructor
 ·rintro ⟨y,hy,e⟩
  rcases k y hy with rfl | ⟨s,rfl⟩
  ·cases e
  ·have e':decide (s=z)=true:=by simpa [eqV] using e
   rw [← of_decide_eq_true e']; exact hy
 ·exact fun h=>⟨_,h,by simp [eqV]⟩
def Aow (K:PySem.W.Frag):Sp:=fun vs H Q _=>∃ (p:Addr) (ns:List Int),vs=[.ref p]∧SqL K H p (ns.map V.int)∧ns.length≤63∧∀ H',Q (.bl true) H'
section
variable {P:Program} {w:World} {K:PySem.W.Frag} {mg:Str→Option Value} {base:Heap} {a:Adr}
theorem AoM:Aat ["script","plan","draws","many","seekers","lines","hall","state","word","k","draw","way","line","deed"] ["script"] (Aaa (top 45)):=⟨rfl,rfl,rfl,by decide +kernel,rfl,by decide +kernel,by decide +kernel⟩
theorem AeX:Nm (Aaa (top 45)) "script":=by walk_at "k"
theorem AeY:NmC (Aaa (top 45)) "plan":=by walk_at "k"
theorem AfD:Nm (Aaa (top 45)) "draws":=by walk_at "k"
theorem AeZ:Nm (Aaa (top 45)) "many":=by walk_at "k"
theorem AbA:Nm (Aaa (top 45)) "seekers":=by walk_at "k"
theorem Adn:Nm (Aaa (top 45)) "lines":=by walk_at "k"
theorem Ae0:Nm (Aaa (top 45)) "hall":=by walk_at "k"
theorem Acd:Nm (Aaa (top 45)) "state":=by walk_at "k"
theorem Ah4:Nm (Aaa (top 45)) "word":=by walk_at "k"
theorem AfI:Nm (Aaa (top 45)) "k":=by walk_at "k"
theorem Ae1:Nm (Aaa (top 45)) "draw":=by walk_at "k"
theorem AfJ:Nm (Aaa (top 45)) "way":=by walk_at "k"
theorem Ad0:Nm (Aaa (top 45)) "line":=by walk_at "k"
theorem Ae2:Nm (Aaa (top 45)) "deed":=by walk_at "k"
theorem Adg:Gm (Aaa (top 45)) "_law_draws":=by walk_at "k"
theorem Adv:Gm (Aaa (top 45)) "_law_done":=by walk_at "k"
theorem AeK:Gm (Aaa (top 45)) "_law_order":=by walk_at "k"
theorem AkJ:Gm (Aaa (top 45)) "Hall":=by walk_at "k"
theorem AkK:Gm (Aaa (top 45)) "Plan":=by walk_at "k"
theorem Ai5:Gm (Aaa (top 45)) "sorted":=by walk_at "k"
theorem AjS:Gm (Aaa (top 45)) "range":=by walk_at "k"
def AgF:Scope:={ kind:=.function,names:=[(".0",.local),("k",.local),("str",.globalImplicit),("plan",.free)],isGenerator:=false,isCoroutine:=false,more:=[] }
theorem Ald:Abc AgF (Aaa (top 45)) ["k","plan"] ["script","plan","draws","many","seekers","lines","hall","state","word","k","draw","way","line","deed"] [none,some 1]:=Abc.mk' rfl (by decide +kernel) (by decide +kernel) (by decide +kernel) (by decide +kernel) rfl (by decide +kernel)
theorem Ah5:Nm AgF "k":=by walk_at "k"
theorem Aia:NmR AgF "plan":=by walk_at "k"
theorem Ai6:Gm AgF "str":=by walk_at "k"
theorem AqJ {f:Addr} {fd:FuncData} (F:Fun K "law" "law" (top 45) f fd) (T:ArN P w K mg a) (D_law_draws:AgG P w K mg base CX0 2 "_law_draws" ["script","k","many","base"] (Akn K)) (D_law_order:AgG P w K mg base CX0 1 "_law_order" ["draws","many"] AkE) (D_law_done:AgG P w K mg base CX0 8 "_law_done" ["hall","state","deed"] (Anl K a))
  (M_Hall:Amo P w K mg base CX0 4 a.Hall "Hall" ["self","plan"] (AkA K a)) (M_Plan:Amo P w K mg base (CXE P w) 3 a.Plan "Plan" ["self","long","lines","seekers","groups"] (Akv a K)) (pc:PlC K a.Plan):Aco P w K mg base CX0 9 f fd ["script"] (Aow K):=by
 refine F.ok AoM (fun vs H Q E h=>?_) (fun cdv A outer s H vs Q E hr h=>?_)
 ·obtain ⟨p,ns,rfl,_⟩:=h
  rfl
 ·obtain ⟨ps,ns,rfl,hS,hn,q⟩:=h
  have hu:=hr.units
  have nd:=AoM.nd
  refine ⟨_,(@Aae _ _ _ _ _ (Amq 1 nd AeY (Ad2 D_law_draws Adg (hr.mono (by decide)) AbO (Aac (pvN 0 AeX) (Aac Aal (Aac Aal (Aac Aal Aaf))))))
    (Aae (Abb 2 nd AfD (Ad2 D_law_draws Adg (hr.mono (by decide)) AbO (Aac (pvN 0 AeX) (Aac Aal (Aac Aal (Aac Aal Aaf))))))
    (Aae (Abb 3 nd AeZ (AaD AbG Aal (AaD Ab1 (Abt AaT (pvC 1 AeY) Aal (fun _ _=>rfl)) (Abt AaT (Aa6 (Aac Aal (Aac Aal Aaf))) (AaD Ab1 (Abt AaT (pvC 1 AeY) Aal (fun _ _=>rfl)) Aal) (fun _ _=>rfl)))))
    (Aae (Abb 4 nd AbA (AaD AbG Aal (AaD Ab1 (Abt AaT (pvC 1 AeY) Aal (fun _ _=>rfl)) Aal)))
    (Aae (Abb 5 nd Adn (Ac3 Ag0 Ai5 T.n_sorted Ahz (Aac (Aj3 rfl Ald (Ami AjS T.n_range (Aac (pvN 3 AeZ) Aaf)) (fun cl C fp pins s₂ H₂=>(AcB 0 Ald.nd Ah5.comp)) (fun cl C fp pins s₂ H₂=>Af5) (fun cl C fp pins s₂ H₂=>(Afa Ajd Ai6.comp T.n_str Aqn (Aac (AaD AbG Aal (AaD Ab1 (AaD AbG (AaD Abw Aal (pvN 0 Ah5.comp)) (Abt (AiO K rfl) (pvF 1 Aia.comp) Aal (fun _ _=>rfl))) Aal)) Aaf)))) Aaf)))
    (Aae (Abb 6 nd Ae0 (Amp M_Hall AkJ (hr.mono (by decide)) AbO (Aac (Amp M_Plan AkK (hr.mono (by decide)) AiG (Aac Aal (Aac (pvN 5 Adn) (Aac (pvN 4 AbA) (Aac (Aa6 Aaf) Aaf))))) Aaf)))
    (Aae (Abb 7 nd Acd (Apl (Agn Aak (pvN 5 Adn) (Agn Aak (Aa6 Aaf) (Agn Aak Aal (Agn Aak (AaD Abw (Aa6 (Aac AcQ Aaf)) (pvN 4 AbA)) (Agn Aak (AaD Abw (Aa6 (Aac Aho Aaf)) (pvN 4 AbA)) Apk))))) rfl rfl (by simp) (by decide)))
    (Aae (Ae3 PassesOwn.never rfl (Aoz (Adh (Aac Aak (Aac Aak (Aac Aak Aaf))))) (AcB 8 nd Ah4) (Aag (Aka (Nat.lt_of_le_of_lt (Nat.add_le_add_left (by decide) _) hu) (pvN 7 Acd) (pvN 8 Ah4) (AaD Abw (Aa6 (Aac Aal Aaf)) (pvN 4 AbA)) rfl)))
    (Aae (Ae3 PassesOwn.never rfl (Aeh (Ad2 D_law_order AeK (hr.mono (by decide)) AbO (Aac (pvN 2 AfD) (Aac (pvN 4 AbA) Aaf)))) (AcB 9 nd AfI) (Aag (AbC (Aep (Ad9 (Ad2 D_law_done Adv (hr.mono (by decide)) AbO (Aac (pvN 6 Ae0) (Aac (pvN 7 Acd) (Aac (Adh (Aac Aak (Aac Aak (Aac (pvN 9 AfI) Aaf)))) Aaf)))))) (Aag (AaL Aho)) AaF)))
    (Aae (Ae3 PassesOwn.never rfl (Aeh (Ad2 D_law_order AeK (hr.mono (by decide)) AbO (Aac (AnF Ar5 (pvN 2 AfD) (Ao3 Aal) Ao2) (Aac (pvN 3 AeZ) Aaf)))) (AcB 9 nd AfI) (Aag (AbC (Aep (Ad9 (Ad2 D_law_done Adv (hr.mono (by decide)) AbO (Aac (pvN 6 Ae0) (Aac (pvN 7 Acd) (Aac (Adh (Aac Aak (Aac (Abt AaT (pvN 5 Adn) (pvN 9 AfI) (fun _ _=>rfl)) Aaf))) Aaf)))))) (Aag (AaL Aho)) AaF)))
    (Aae (Ae3 PassesOwn.never rfl (Aeh (Ad2 D_law_draws Adg (hr.mono (by decide)) AbO (Aac (pvN 0 AeX) (Aac Aal (Aac Aal (Aac (AaD Abw Aal Aal) Aaf)))))) (AcB 10 nd Ae1) (Aae (Abb 11 nd AfJ (AaD Ab1 (pvN 10 Ae1) Aal))
     (Aae (Abb 9 nd AfI (AaD Ab1 (AaD Ahr (pvN 10 Ae1) Aal) (pvN 4 AbA)))
     (Aae (Abb 12 nd Ad0 (Abt AaT (pvN 5 Adn) (AaD Ab1 (AaD Ahr (pvN 10 Ae1) Aal) (pvN 3 AeZ)) (fun _ _=>rfl)))
     (Aae (Abb 13 nd Ae2 (Adh (Aac (Abt AaT (Aa6 (AhB rfl)) (AaD Ab1 (pvN 11 AfJ) Aal) (fun _ _=>rfl)) (Aac Aak (Aac (pvN 9 AfI) Aaf)))))
     (Aae (AbC (PW.pt (AlR (AaB Anv (pvN 11 AfJ) Aal (AaY _)) (AjV (PW.pt (Ans (AaB Aif (pvN 12 Ad0) (AaU (Nat.lt_of_le_of_lt (Nat.add_le_add_left (by decide) _) hu) (pvN 7 Acd) Aak (fun _ _=>rfl)) (by with_unfolding_all rfl)) (AkO (AaB Aif (pvN 12 Ad0) (AaU (Nat.lt_of_le_of_lt (Nat.add_le_add_left (by decide) _) hu) (pvN 7 Acd) Aak (fun _ _=>rfl)) (by with_unfolding_all rfl)))))))) (Aag (Abb 13 nd Ae2 (Adh (Aac Aak (Aac (pvN 12 Ad0) Aaf))))) (Aag (AbC (AaB Anv (pvN 11 AfJ) Aal (AaY _)) (Aag (Abb 13 nd Ae2 (Adh (Aac Aak (Aac (pvN 12 Ad0) Aaf))))) AaF)))
     (Aag (AbC (Aep (Ad9 (Ad2 D_law_done Adv (hr.mono (by decide)) AbO (Aac (pvN 6 Ae0) (Aac (pvN 7 Acd) (Aac (pvN 13 Ae2) Aaf)))))) (Aag (AaL Aho)) AaF))))))))
    (Aag (AaL Aho))))))))))))),?_⟩
  have st0:AaV ["script","plan","draws","many","seekers","lines","hall","state","word","k","draw","way","line","deed"] [V.ref ps]=[some (.ref ps),none,none,none,none,none,none,none,none,none,none,none,none,none]:=rfl
  simp only [st0,List.set_cons_succ,List.set_cons_zero]
  walk_at "st"
  refine ⟨ps,ns,0,_,_,rfl,hS,by decide,by decide,hn,by decide,by decide,by decide,by decide,fun r row H1 s1 nr hR hlen hrow=>?_⟩
  obtain ⟨v0,v1,v2,v3,v4,rfl⟩:∃ v0 v1 v2 v3 v4,row=[v0,v1,v2,v3,v4]:=by
   match row,hlen with
   | [v0,v1,v2,v3,v4],_=>exact ⟨v0,v1,v2,v3,v4,rfl⟩
  have b0:=hrow v0 (by simp)
  have b1:=hrow v1 (by simp)
  have b2:=hrow v2 (by simp)
  have b3:=hrow v3 (by simp)
  walk_at "st"
  refine ⟨ps,ns,1,_,_,rfl,s1.seq hS,by decide,by decide,hn,by decide,by decide,by decide,by decide,fun dl drs H2 s2 ndl hD dlen hdrs=>?_⟩
  have dlen:drs.length=60:=dlen
  have hR2:=s2 _ _ hR
  walk_at "st"
  refine ⟨(by show 2≤sizeLine; decide),fun l1 n1=>?_⟩
  have t3:=(Aav.refl H2).upd (o:=.lst [V.int 8,V.int 60]) n1
  have hR3:=t3 _ _ hR2
  have hD3:=t3 _ _ hD
  obtain ⟨mo,ep,mp⟩:=Arw (xs:=[8,60]) (i:=v1 % 2) (by omega) (by show v1 % 2 < 2; omega)
  have hmo:mo=8∨mo=60:=by
   simp only [List.mem_cons,List.not_mem_nil,or_false] at mp
   exact mp
  walk_at "st"
  refine Or.inl ⟨l1,_,_,_,rfl,rfl,.of Aad,ep,?_⟩
  generalize upd H2 l1 (.lst [V.int 8,V.int 60])=H3 at t3 hR3 hD3 ⊢
  clear ep mp
  have m0:0 < mo:=by omega
  have x0:=Int.emod_nonneg v0 (show mo≠0 by omega)
  have x1:=Int.emod_lt_of_pos v0 m0
  obtain ⟨many,em⟩:∃ many:Nat,(many:Int)=1 + v0 % mo:=⟨(1 + v0 % mo).toNat,by omega⟩
  have hmany:1≤many∧many≤60:=by omega
  obtain ⟨n,en⟩:∃ n:Nat,(n:Int)=1 + v2 % 12:=⟨(1 + v2 % 12).toNat,by omega⟩
  have hnn:1≤n∧n≤12:=by omega
  refine ⟨_,_,rfl,rfl,?_⟩
  refine And.intro m0 ?_
  walk_at "st"
  rw [← em,← en]
  have s3:=s1.trans (s2.trans t3)
  refine ⟨by omega,by omega,fun D nD=>?_⟩
  have emn:((many:Int)).toNat=many:=Int.toNat_natCast many
  refine Aih (lo:=0) (n:=((many:Int)).toNat) (fun i σ H'=>∃ x,σ=[x,some (.ref r)]∧Aav H3 H'∧H' D=some (.lst (((List.range i).map (lnZ v3)).map V.str))) ⟨none,rfl,(Aav.refl H3).upd nD,Aad⟩ ?_ ?_
  ·rintro i σ H' hi ⟨x,rfl,sm,hL⟩
   rw [emn] at hi
   simp only [Int.zero_add]
   have hR4:=sm _ _ hR3
   walk_at "st"
   refine ⟨?_,?_⟩
   ·have:(100 + (7 * (i:Int) + v3) % 900).natAbs < 1000:=by omega
    exact Nat.lt_of_le_of_lt (Nat.log2_le_self _) (by omega)
   walk_at "st"
   refine ⟨_,hL,(by rw [List.length_map,List.length_map,List.length_range,sizeLine_eq]; omega),_,rfl,sm.updN nD,?_⟩
   rw [Aad,List.range_succ,List.map_append,List.map_append]
   rfl
  ·rintro σ H4 ⟨x,rfl,s4,hL⟩
   rw [emn] at hL
   clear x
   have hR4:=s4 _ _ hR3
   have hD4:=s4 _ _ hD3
   have zl:(AoL v3 many).length=many:=Aor v3 many
   have zn:=ApK v3 hmany.2
   have zo:∀ z∈AoL v3 many,z.length=3∧Dig z:=fun z m=>Aoq m
   have hL:H4 D=some (.lst ((AoL v3 many).map V.str)):=hL
   generalize AoL v3 many=zs at hL zl zn zo
   walk_at "st"
   refine ⟨D,zs,rfl,.of hL,by omega,fun ll zs' nll pz wz=>?_⟩
   have zl':zs'.length=many:=pz.length_eq.trans zl
   have zn':zs'.Nodup:=pz.nodup_iff.mpr zn
   have zo':∀ z∈zs',z.length=3∧Dig z:=fun z m=>zo z (pz.mem_iff.mp m)
   have t5:=(Aav.refl H4).upd (o:=.lst (zs'.map V.str)) nll
   have hl5:(upd H4 ll (.lst (zs'.map V.str))) ll=some (.lst (zs'.map V.str)):=Aad
   generalize upd H4 ll (.lst (zs'.map V.str))=H5 at t5 hl5 ⊢
   have hD5:=t5 _ _ hD4
   have dll:dl≠ll:=Aaj hD4 nll
   have s5:=s3.trans (s4.trans t5)
   clear hL pz zl zn zo hR hR2 hR3 hD hD3 hD4
   clear zs
   walk_at "st"
   refine ⟨(by show 0≤sizeLine; decide),fun gl ngl=>?_⟩
   have t6:=(Aav.refl H5).upd (o:=.lst []) ngl
   have hg6:(upd H5 gl (.lst [])) gl=some (.lst (([]:List Pr).map prV)):=Aad
   generalize upd H5 gl (.lst [])=H6 at t6 hg6 ⊢
   have hl6:=t6 _ _ hl5
   walk_at "st"
   intro pp pdx npp npdx ndd
   have t7:Aav H6 (upd (upd H6 pdx (.own pp)) pp (.ins a.Plan pdx [])):=((Aav.refl H6).upd npdx).upd (by rw [Aah ndd.symm]; exact npp)
   have e7:(upd (upd H6 pdx (.own pp)) pp (.ins a.Plan pdx [])) pp=some (.ins a.Plan pdx []):=Aad
   generalize upd (upd H6 pdx (.own pp)) pp (.ins a.Plan pdx [])=H7 at t7 e7 ⊢
   have hl7:=t7 _ _ hl6
   have good:Arq 3 (n:Int) zs' []:=⟨⟨by omega,by omega,by omega,by omega⟩,⟨⟨by omega,by omega⟩,fun z m=>⟨by have:=(zo' z m).1; omega,(zo' z m).2⟩,zn'⟩,by simp,fun t m=>absurd m (by simp),List.nodup_nil⟩
   refine ⟨pp,3,ll,(n:Int),gl,a.Plan,pdx,zs',[],rfl,e7,pc,⟨hl7,t7 _ _ hg6,fun t m=>absurd m (by simp),fun z m=>⟨(zo' z m).2.asc,by have:=(zo' z m).1; omega⟩,fun t m=>absurd m (by simp),by omega,by simp⟩,fun _ H8 lt gt zs2 ts2 x8 hp8 hlt hgt pz2 wz2 pt2 _=>⟨rfl,?_⟩,fun ng=>absurd good ng⟩
   obtain rfl:=Alw pz2 wz2 wz
   obtain rfl:=List.perm_nil.mp pt2
   clear pz2 wz2 pt2
   have t68:Aav H6 H8:=fun b o e=>x8 b o (fun z=>by rw [List.mem_singleton.mp z,npp] at e; cases e) (t7 _ _ e)
   walk_at "st"
   intro hh hdx nhh nhdx nhd
   have t9:Aav H8 (upd (upd H8 hdx (.own hh)) hh (.ins a.Hall hdx [])):=((Aav.refl H8).upd nhdx).upd (by rw [Aah nhd.symm]; exact nhh)
   have e9:(upd (upd H8 hdx (.own hh)) hh (.ins a.Hall hdx [])) hh=some (.ins a.Hall hdx []):=Aad
   have n9:∀ b,(upd (upd H8 hdx (.own hh)) hh (.ins a.Hall hdx [])) b=none→H8 b=none:=fun b e=>Aai (Aai e)
   generalize upd (upd H8 hdx (.own hh)) hh (.ins a.Hall hdx [])=H9 at t9 e9 n9 ⊢
   refine ⟨hh,hdx,pp,pdx,lt,gt,3,(n:Int),zs2,rfl,e9,pc,t9 _ _ hp8,t9 _ _ hlt,t9 _ _ hgt,zn',by omega,by omega,by omega,fun H10 A0 eA t10 x10 f10 n10=>⟨rfl,?_⟩⟩
   rw [Int.toNat_natCast] at t10
   have t810:Aav H8 H10:=fun b o e=>x10 b o (fun z=>by rw [List.mem_singleton.mp z,nhh] at e; cases e) (t9 _ _ e)
   have t510:Aav H5 H10:=t6.trans (t68.trans t810)
   have hl10:=t510 _ _ hl5
   have hD10:=t510 _ _ hD5
   have f10':∀ b∈A0.ws,H5 b=none:=fun b m=>by
    have e:=n9 b (f10 b m)
    cases h:H5 b with
    | none=>rfl
    | some o=>rw [(t6.trans t68) b o h] at e; cases e
   clear hl6 hl7 hg6 e7 hp8 hlt hgt e9
   refine AeW ?_
   simp only [List.set_cons_succ,List.set_cons_zero]
   refine AfC fun C hC=>?_
   intro d ndd'
   have u1:=(Aav.refl H10).upd (o:=.dK []) ndd'
   have d1:(upd H10 d (.dK [])) d=some (.dK []):=Aad
   have z1:∀ b,(upd H10 d (.dK [])) b=none→H10 b=none:=fun b e=>Aai e
   generalize upd H10 d (.dK [])=G1 at u1 d1 z1 ⊢
   walk_at "st"
   refine ⟨(by show 0≤sizeLine; decide),fun qa nqa=>?_⟩
   have u2:=(Aav.refl G1).upd (o:=.lst []) nqa
   have q2:(upd G1 qa (.lst [])) qa=some (.lst (([]:List Str).map V.str)):=Aad
   have z2:∀ b,(upd G1 qa (.lst [])) b=none→G1 b=none:=fun b e=>Aai e
   generalize upd G1 qa (.lst [])=G2 at u2 q2 z2 ⊢
   refine And.intro (show 1≤sizeLine by decide) fun lx1 nlx1=>?_
   walk_at "st"
   refine Or.inr (Or.inr ⟨lx1,(n:Int),[.non],rfl,rfl,Aad,by omega,by omega,(by rw [List.length_singleton,sizeLine_eq]; omega),fun ha nha=>?_⟩)
   rw [AdC,Int.toNat_natCast]
   have u3:Aav G2 (upd (upd G2 lx1 (.lst [.non])) ha (.lst (List.replicate n V.non))):=((Aav.refl _).upd nlx1).upd nha
   have q3:(upd (upd G2 lx1 (.lst [.non])) ha (.lst (List.replicate n V.non))) ha=some (.lst (List.replicate n V.non)):=Aad
   have z3:∀ b,(upd (upd G2 lx1 (.lst [.non])) ha (.lst (List.replicate n V.non))) b=none→G2 b=none:=fun b e=>Aai (Aai e)
   have nha2:G2 ha=none:=Aai nha
   generalize upd (upd G2 lx1 (.lst [.non])) ha (.lst (List.replicate n V.non))=G3 at u3 q3 z3 ⊢
   refine And.intro (show 1≤sizeLine by decide) fun lx2 nlx2=>?_
   walk_at "st"
   refine Or.inr (Or.inr ⟨lx2,(n:Int),[.bl false],rfl,rfl,Aad,by omega,by omega,(by rw [List.length_singleton,sizeLine_eq]; omega),fun ua nua=>?_⟩)
   rw [AdC,Int.toNat_natCast]
   have u4:Aav G3 (upd (upd G3 lx2 (.lst [.bl false])) ua (.lst (List.replicate n (V.bl false)))):=((Aav.refl _).upd nlx2).upd nua
   have q4:(upd (upd G3 lx2 (.lst [.bl false])) ua (.lst (List.replicate n (V.bl false)))) ua=some (.lst (List.replicate n (V.bl false))):=Aad
   have z4:∀ b,(upd (upd G3 lx2 (.lst [.bl false])) ua (.lst (List.replicate n (V.bl false)))) b=none→G3 b=none:=fun b e=>Aai (Aai e)
   have nua3:G3 ua=none:=Aai nua
   generalize upd (upd G3 lx2 (.lst [.bl false])) ua (.lst (List.replicate n (V.bl false)))=G4 at u4 q4 z4 ⊢
   have d4:=(u2.trans (u3.trans u4)) _ _ d1
   refine ⟨d4,[(.inr "lines",.ref ll),(.inr "queue",.ref qa),(.inr "mark",.int 0),(.inr "held",.ref ha),(.inr "stuck",.ref ua)],rfl,(by show 5≤15; decide),?_⟩
   refine AeW ?_
   rw [show Aii [] [((.inr "lines":Key),V.ref ll),(.inr "queue",.ref qa),(.inr "mark",.int 0),(.inr "held",.ref ha),(.inr "stuck",.ref ua)]=[((.inr "lines":Key),V.ref ll),(.inr "queue",.ref qa),(.inr "mark",.int 0),(.inr "held",.ref ha),(.inr "stuck",.ref ua)] from rfl]
   have x5:AaE [d] G4 (upd G4 d (.dK [((.inr "lines":Key),V.ref ll),(.inr "queue",.ref qa),(.inr "mark",.int 0),(.inr "held",.ref ha),(.inr "stuck",.ref ua)])):=AaE.at
   have d5:(upd G4 d (.dK [((.inr "lines":Key),V.ref ll),(.inr "queue",.ref qa),(.inr "mark",.int 0),(.inr "held",.ref ha),(.inr "stuck",.ref ua)])) d=some (.dK [((.inr "lines":Key),V.ref ll),(.inr "queue",.ref qa),(.inr "mark",.int 0),(.inr "held",.ref ha),(.inr "stuck",.ref ua)]):=Aad
   have z5:∀ b,(upd G4 d (.dK [((.inr "lines":Key),V.ref ll),(.inr "queue",.ref qa),(.inr "mark",.int 0),(.inr "held",.ref ha),(.inr "stuck",.ref ua)])) b=none→G4 b=none:=fun b e=>Aai e
   generalize upd G4 d (.dK [((.inr "lines":Key),V.ref ll),(.inr "queue",.ref qa),(.inr "mark",.int 0),(.inr "held",.ref ha),(.inr "stuck",.ref ua)])=G5 at x5 d5 z5 ⊢
   show C [some (.ref ps),some (.ref r),some (.ref dl),some (.int many),some (.int n),some (.ref ll),some (.ref hh),some (.ref d),none,none,none,none,none,none] G5
   rw [hC]
   clear hC C
   refine AfC fun C hC=>?_
   walk_at "st"
   refine ⟨(by show 3≤sizeLine; decide),fun wt nwt=>?_⟩
   have u6:=(Aav.refl G5).upd (o:=.tup [.str "spots",.str "steps",.str "shares"]) nwt
   have w6:(upd G5 wt (.tup [.str "spots",.str "steps",.str "shares"])) wt=some (.tup [.str "spots",.str "steps",.str "shares"]):=Aad
   have z6:∀ b,(upd G5 wt (.tup [.str "spots",.str "steps",.str "shares"])) b=none→G5 b=none:=fun b e=>Aai e
   generalize upd G5 wt (.tup [.str "spots",.str "steps",.str "shares"])=G6 at u6 w6 z6 ⊢
   walk_at "st"
   refine ⟨⟨_,.of w6⟩,AlM (xs:=[.str "spots",.str "steps",.str "shares"]) ?_⟩
   refine ⟨.of w6,?_⟩
   refine AeW ?_
   simp only [List.set_cons_succ,List.set_cons_zero]
   refine And.intro (show 1≤sizeLine by decide) fun ly0 nly0=>?_
   walk_at "st"
   refine Or.inr (Or.inr ⟨ly0,(n:Int),[.int 0],rfl,rfl,Aad,by omega,by omega,(by rw [List.length_singleton,sizeLine_eq]; omega),fun pa npa=>?_⟩)
   rw [AdC,Int.toNat_natCast]
   have ua0:Aav G6 (upd (upd G6 ly0 (.lst [.int 0])) pa (.lst (List.replicate n (V.int 0)))):=((Aav.refl _).upd nly0).upd npa
   have qa0:(upd (upd G6 ly0 (.lst [.int 0])) pa (.lst (List.replicate n (V.int 0)))) pa=some (.lst (List.replicate n (V.int 0))):=Aad
   have za0:∀ b,(upd (upd G6 ly0 (.lst [.int 0])) pa (.lst (List.replicate n (V.int 0)))) b=none→G6 b=none:=fun b e=>Aai (Aai e)
   have nnpa:G6 pa=none:=Aai npa
   generalize upd (upd G6 ly0 (.lst [.int 0])) pa (.lst (List.replicate n (V.int 0)))=G7 at ua0 qa0 za0 ⊢
   walk_at "st"
   refine ⟨d,_,rfl,.inl ⟨[((.inr "lines":Key),V.ref ll),(.inr "queue",.ref qa),(.inr "mark",.int 0),(.inr "held",.ref ha),(.inr "stuck",.ref ua)],.inr "spots",ua0 _ _ (u6 _ _ d5),rfl,(by show 5 < sizeLine; decide),rfl⟩,?_⟩
   rw [show AfX [((.inr "lines":Key),V.ref ll),(.inr "queue",.ref qa),(.inr "mark",.int 0),(.inr "held",.ref ha),(.inr "stuck",.ref ua)] (.inr "spots") (V.ref pa)=[((.inr "lines":Key),V.ref ll),(.inr "queue",.ref qa),(.inr "mark",.int 0),(.inr "held",.ref ha),(.inr "stuck",.ref ua),(.inr "spots",.ref pa)] from rfl]
   have xb0:AaE [d] G7 (upd G7 d (.dK [((.inr "lines":Key),V.ref ll),(.inr "queue",.ref qa),(.inr "mark",.int 0),(.inr "held",.ref ha),(.inr "stuck",.ref ua),(.inr "spots",.ref pa)])):=AaE.at
   have db0:(upd G7 d (.dK [((.inr "lines":Key),V.ref ll),(.inr "queue",.ref qa),(.inr "mark",.int 0),(.inr "held",.ref ha),(.inr "stuck",.ref ua),(.inr "spots",.ref pa)])) d=some (.dK [((.inr "lines":Key),V.ref ll),(.inr "queue",.ref qa),(.inr "mark",.int 0),(.inr "held",.ref ha),(.inr "stuck",.ref ua),(.inr "spots",.ref pa)]):=Aad
   have zb0:∀ b,(upd G7 d (.dK [((.inr "lines":Key),V.ref ll),(.inr "queue",.ref qa),(.inr "mark",.int 0),(.inr "held",.ref ha),(.inr "stuck",.ref ua),(.inr "spots",.ref pa)])) b=none→G7 b=none:=fun b e=>Aai e
   generalize upd G7 d (.dK [((.inr "lines":Key),V.ref ll),(.inr "queue",.ref qa),(.inr "mark",.int 0),(.inr "held",.ref ha),(.inr "stuck",.ref ua),(.inr "spots",.ref pa)])=G8 at xb0 db0 zb0 ⊢
   have wb0:=xb0 _ _ (by simpa using AaI (ua0 _ _ w6) (ua0 _ _ (u6 _ _ d5)) (by intro z; cases z)) (ua0 _ _ w6)
   refine ⟨.of wb0,?_⟩
   refine AeW ?_
   simp only [List.set_cons_succ,List.set_cons_zero]
   refine And.intro (show 1≤sizeLine by decide) fun ly1 nly1=>?_
   walk_at "st"
   refine Or.inr (Or.inr ⟨ly1,(n:Int),[.int 0],rfl,rfl,Aad,by omega,by omega,(by rw [List.length_singleton,sizeLine_eq]; omega),fun ta nta=>?_⟩)
   rw [AdC,Int.toNat_natCast]
   have ua1:Aav G8 (upd (upd G8 ly1 (.lst [.int 0])) ta (.lst (List.replicate n (V.int 0)))):=((Aav.refl _).upd nly1).upd nta
   have qa1:(upd (upd G8 ly1 (.lst [.int 0])) ta (.lst (List.replicate n (V.int 0)))) ta=some (.lst (List.replicate n (V.int 0))):=Aad
   have za1:∀ b,(upd (upd G8 ly1 (.lst [.int 0])) ta (.lst (List.replicate n (V.int 0)))) b=none→G8 b=none:=fun b e=>Aai (Aai e)
   have nnta:G8 ta=none:=Aai nta
   generalize upd (upd G8 ly1 (.lst [.int 0])) ta (.lst (List.replicate n (V.int 0)))=G9 at ua1 qa1 za1 ⊢
   walk_at "st"
   refine ⟨d,_,rfl,.inl ⟨[((.inr "lines":Key),V.ref ll),(.inr "queue",.ref qa),(.inr "mark",.int 0),(.inr "held",.ref ha),(.inr "stuck",.ref ua),(.inr "spots",.ref pa)],.inr "steps",ua1 _ _ db0,rfl,(by show 6 < sizeLine; decide),rfl⟩,?_⟩
   rw [show AfX [((.inr "lines":Key),V.ref ll),(.inr "queue",.ref qa),(.inr "mark",.int 0),(.inr "held",.ref ha),(.inr "stuck",.ref ua),(.inr "spots",.ref pa)] (.inr "steps") (V.ref ta)=[((.inr "lines":Key),V.ref ll),(.inr "queue",.ref qa),(.inr "mark",.int 0),(.inr "held",.ref ha),(.inr "stuck",.ref ua),(.inr "spots",.ref pa),(.inr "steps",.ref ta)] from rfl]
   have xb1:AaE [d] G9 (upd G9 d (.dK [((.inr "lines":Key),V.ref ll),(.inr "queue",.ref qa),(.inr "mark",.int 0),(.inr "held",.ref ha),(.inr "stuck",.ref ua),(.inr "spots",.ref pa),(.inr "steps",.ref ta)])):=AaE.at
   have db1:(upd G9 d (.dK [((.inr "lines":Key),V.ref ll),(.inr "queue",.ref qa),(.inr "mark",.int 0),(.inr "held",.ref ha),(.inr "stuck",.ref ua),(.inr "spots",.ref pa),(.inr "steps",.ref ta)])) d=some (.dK [((.inr "lines":Key),V.ref ll),(.inr "queue",.ref qa),(.inr "mark",.int 0),(.inr "held",.ref ha),(.inr "stuck",.ref ua),(.inr "spots",.ref pa),(.inr "steps",.ref ta)]):=Aad
   have zb1:∀ b,(upd G9 d (.dK [((.inr "lines":Key),V.ref ll),(.inr "queue",.ref qa),(.inr "mark",.int 0),(.inr "held",.ref ha),(.inr "stuck",.ref ua),(.inr "spots",.ref pa),(.inr "steps",.ref ta)])) b=none→G9 b=none:=fun b e=>Aai e
   generalize upd G9 d (.dK [((.inr "lines":Key),V.ref ll),(.inr "queue",.ref qa),(.inr "mark",.int 0),(.inr "held",.ref ha),(.inr "stuck",.ref ua),(.inr "spots",.ref pa),(.inr "steps",.ref ta)])=G10 at xb1 db1 zb1 ⊢
   have wb1:=xb1 _ _ (by simpa using AaI (ua1 _ _ wb0) (ua1 _ _ db0) (by intro z; cases z)) (ua1 _ _ wb0)
   refine ⟨.of wb1,?_⟩
   refine AeW ?_
   simp only [List.set_cons_succ,List.set_cons_zero]
   refine And.intro (show 1≤sizeLine by decide) fun ly2 nly2=>?_
   walk_at "st"
   refine Or.inr (Or.inr ⟨ly2,(n:Int),[.int 0],rfl,rfl,Aad,by omega,by omega,(by rw [List.length_singleton,sizeLine_eq]; omega),fun na nna=>?_⟩)
   rw [AdC,Int.toNat_natCast]
   have ua2:Aav G10 (upd (upd G10 ly2 (.lst [.int 0])) na (.lst (List.replicate n (V.int 0)))):=((Aav.refl _).upd nly2).upd nna
   have qa2:(upd (upd G10 ly2 (.lst [.int 0])) na (.lst (List.replicate n (V.int 0)))) na=some (.lst (List.replicate n (V.int 0))):=Aad
   have za2:∀ b,(upd (upd G10 ly2 (.lst [.int 0])) na (.lst (List.replicate n (V.int 0)))) b=none→G10 b=none:=fun b e=>Aai (Aai e)
   have nnna:G10 na=none:=Aai nna
   generalize upd (upd G10 ly2 (.lst [.int 0])) na (.lst (List.replicate n (V.int 0)))=G11 at ua2 qa2 za2 ⊢
   walk_at "st"
   refine ⟨d,_,rfl,.inl ⟨[((.inr "lines":Key),V.ref ll),(.inr "queue",.ref qa),(.inr "mark",.int 0),(.inr "held",.ref ha),(.inr "stuck",.ref ua),(.inr "spots",.ref pa),(.inr "steps",.ref ta)],.inr "shares",ua2 _ _ db1,rfl,(by show 7 < sizeLine; decide),rfl⟩,?_⟩
   rw [show AfX [((.inr "lines":Key),V.ref ll),(.inr "queue",.ref qa),(.inr "mark",.int 0),(.inr "held",.ref ha),(.inr "stuck",.ref ua),(.inr "spots",.ref pa),(.inr "steps",.ref ta)] (.inr "shares") (V.ref na)=[((.inr "lines":Key),V.ref ll),(.inr "queue",.ref qa),(.inr "mark",.int 0),(.inr "held",.ref ha),(.inr "stuck",.ref ua),(.inr "spots",.ref pa),(.inr "steps",.ref ta),(.inr "shares",.ref na)] from rfl]
   have xb2:AaE [d] G11 (upd G11 d (.dK [((.inr "lines":Key),V.ref ll),(.inr "queue",.ref qa),(.inr "mark",.int 0),(.inr "held",.ref ha),(.inr "stuck",.ref ua),(.inr "spots",.ref pa),(.inr "steps",.ref ta),(.inr "shares",.ref na)])):=AaE.at
   have db2:(upd G11 d (.dK [((.inr "lines":Key),V.ref ll),(.inr "queue",.ref qa),(.inr "mark",.int 0),(.inr "held",.ref ha),(.inr "stuck",.ref ua),(.inr "spots",.ref pa),(.inr "steps",.ref ta),(.inr "shares",.ref na)])) d=some (.dK [((.inr "lines":Key),V.ref ll),(.inr "queue",.ref qa),(.inr "mark",.int 0),(.inr "held",.ref ha),(.inr "stuck",.ref ua),(.inr "spots",.ref pa),(.inr "steps",.ref ta),(.inr "shares",.ref na)]):=Aad
   have zb2:∀ b,(upd G11 d (.dK [((.inr "lines":Key),V.ref ll),(.inr "queue",.ref qa),(.inr "mark",.int 0),(.inr "held",.ref ha),(.inr "stuck",.ref ua),(.inr "spots",.ref pa),(.inr "steps",.ref ta),(.inr "shares",.ref na)])) b=none→G11 b=none:=fun b e=>Aai e
   generalize upd G11 d (.dK [((.inr "lines":Key),V.ref ll),(.inr "queue",.ref qa),(.inr "mark",.int 0),(.inr "held",.ref ha),(.inr "stuck",.ref ua),(.inr "spots",.ref pa),(.inr "steps",.ref ta),(.inr "shares",.ref na)])=G12 at xb2 db2 zb2 ⊢
   have wb2:=xb2 _ _ (by simpa using AaI (ua2 _ _ wb1) (ua2 _ _ db1) (by intro z; cases z)) (ua2 _ _ wb1)
   refine ⟨.of wb2,?_⟩
   show C [some (.ref ps),some (.ref r),some (.ref dl),some (.int many),some (.int n),some (.ref ll),some (.ref hh),some (.ref d),some (.str "shares"),none,none,none,none,none] G12
   rw [hC]
   clear hC C
   have y10:AaE [d] G10 G12:=(AaE.of ua2).tr xb2
   have y8:AaE [d] G8 G12:=(AaE.of ua1).tr (xb1.tr y10)
   have y6:AaE [d] G6 G12:=(AaE.of ua0).tr (xb0.tr y8)
   have y4:AaE [d] G4 G12:=x5.tr ((AaE.of u6).tr y6)
   have y0:AaE [d] H10 G12:=(AaE.of (u1.trans (u2.trans (u3.trans u4)))).tr y4
   have sH:Aav H10 G12:=fun b o e=>y0 b o (fun z=>by rw [List.mem_singleton.mp z,ndd'] at e; cases e) e
   have off:∀ {b xs},G12 b=some (.lst xs)→b ∉ [d]:=fun e=>by simpa using AaI e db2 (by intro z; cases z)
   have nd1:∀ {b xs},G4 b=some (.lst xs)→b ∉ [d]:=fun e=>by simpa using AaI e d4 (by intro z; cases z)
   have ll4:=(u1.trans (u2.trans (u3.trans u4))) _ _ hl10
   have qa4:=(u3.trans u4) _ _ q2
   have ha4:=u4 _ _ q3
   have ll12:=y4 _ _ (nd1 ll4) ll4
   have qa12:=y4 _ _ (nd1 qa4) qa4
   have ha12:=y4 _ _ (nd1 ha4) ha4
   have ua12:=y4 _ _ (nd1 q4) q4
   have nd7:∀ {b xs},G7 b=some (.lst xs)→b ∉ [d]:=fun e=>by simpa using AaI e (ua0 _ _ (u6 _ _ d5)) (by intro z; cases z)
   have nd9:∀ {b xs},G9 b=some (.lst xs)→b ∉ [d]:=fun e=>by simpa using AaI e (ua1 _ _ db0) (by intro z; cases z)
   have nd11:∀ {b xs},G11 b=some (.lst xs)→b ∉ [d]:=fun e=>by simpa using AaI e (ua2 _ _ db1) (by intro z; cases z)
   have pa8:=xb0 _ _ (nd7 qa0) qa0
   have pa10:=xb1 _ _ (nd9 (ua1 _ _ pa8)) (ua1 _ _ pa8)
   have pa12:=xb2 _ _ (nd11 (ua2 _ _ pa10)) (ua2 _ _ pa10)
   have ta10:=xb1 _ _ (nd9 qa1) qa1
   have ta12:=xb2 _ _ (nd11 (ua2 _ _ ta10)) (ua2 _ _ ta10)
   have na12:=xb2 _ _ (nd11 qa2) qa2
   have k6:∀ {b xs},G4 b=some (.lst xs)→G6 b=some (.lst xs):=fun e=>u6 _ _ (x5 _ _ (nd1 e) e)
   have k8:∀ {b xs},G4 b=some (.lst xs)→G8 b=some (.lst xs):=fun e=>xb0 _ _ (nd7 (ua0 _ _ (k6 e))) (ua0 _ _ (k6 e))
   have k10:∀ {b xs},G4 b=some (.lst xs)→G10 b=some (.lst xs):=fun e=>xb1 _ _ (nd9 (ua1 _ _ (k8 e))) (ua1 _ _ (k8 e))
   have dif:∀ {b xs},G4 b=some (.lst xs)→b≠pa∧b≠ta∧b≠na:=fun e=>⟨Aaj (k6 e) nnpa,Aaj (k8 e) nnta,Aaj (k10 e) nnna⟩
   have apB:(⟨d,ll,qa,ha,ua,pa,ta,na⟩:StA).ls.Nodup:=by
    obtain ⟨a1,a2,a3⟩:=dif ll4
    obtain ⟨b1,b2,b3⟩:=dif qa4
    obtain ⟨c1,c2,c3⟩:=dif ha4
    obtain ⟨e1,e2,e3⟩:=dif q4
    have f1:ll≠qa:=Aaj (u1 _ _ hl10) nqa
    have f2:ll≠ha:=Aaj ((u1.trans u2) _ _ hl10) nha2
    have f3:ll≠ua:=Aaj ((u1.trans (u2.trans u3)) _ _ hl10) nua3
    have f4:qa≠ha:=Aaj q2 nha2
    have f5:qa≠ua:=Aaj (u3 _ _ q2) nua3
    have f6:ha≠ua:=Aaj q3 nua3
    have f7:pa≠ta:=Aaj pa8 nnta
    have f8:pa≠na:=Aaj pa10 nnna
    have f9:ta≠na:=Aaj ta10 nnna
    simp only [StA.ls,List.nodup_cons,List.mem_cons,List.not_mem_nil,or_false,not_or,not_false_eq_true,List.nodup_nil,and_true]
    exact ⟨⟨f1,f2,f3,a1,a2,a3⟩,⟨f4,f5,b1,b2,b3⟩,⟨f6,c1,c2,c3⟩,⟨e1,e2,e3⟩,⟨f7,f8⟩,f9⟩
   have back:∀ {X:Hp} {b:Addr},Aav H10 X→X b=none→H10 b=none:=fun {X b} s e=>by
    cases h:H10 b with
    | none=>rfl
    | some o=>rw [s b o h] at e; cases e
   have s6:Aav H10 G6:=fun b o e=>u6 _ _ (x5 b o (fun z=>by rw [List.mem_singleton.mp z,ndd'] at e; cases e) ((u1.trans (u2.trans (u3.trans u4))) _ _ e))
   have s8:Aav H10 G8:=fun b o e=>xb0 b o (fun z=>by rw [List.mem_singleton.mp z,ndd'] at e; cases e) (ua0 _ _ (s6 _ _ e))
   have s10:Aav H10 G10:=fun b o e=>xb1 b o (fun z=>by rw [List.mem_singleton.mp z,ndd'] at e; cases e) (ua1 _ _ (s8 _ _ e))
   have newB:∀ b∈(⟨d,ll,qa,ha,ua,pa,ta,na⟩:StA).ws,b=ll∨H10 b=none:=fun b m=>by
    simp only [StA.ws,StA.ls,List.mem_cons,List.not_mem_nil,or_false] at m
    rcases m with z | z | z | z | z | z | z | z
    ·exact .inr (by rw [z]; exact ndd')
    ·exact .inl z
    ·exact .inr (by rw [z]; exact back u1 nqa)
    ·exact .inr (by rw [z]; exact back (u1.trans u2) nha2)
    ·exact .inr (by rw [z]; exact back (u1.trans (u2.trans u3)) nua3)
    ·exact .inr (by rw [z]; exact back s6 nnpa)
    ·exact .inr (by rw [z]; exact back s8 nnta)
    ·exact .inr (by rw [z]; exact back s10 nnna)
   have t12:=t10.same sH
   have wf0:WF (AjL 3 zs2 n):=Aou zn' (by omega) (by omega)
   have g0:Afj K a G12 A0 ⟨d,ll,qa,ha,ua,pa,ta,na⟩ zs2 n 0 (AjL 3 zs2 n):=by
    refine ⟨t12,⟨db2,?_,qa12,?_,?_,?_,?_,?_,apB,?_,?_,?_,?_,?_⟩,fun b m=>?_,wf0,AjR ..,List.length_replicate,Nat.zero_le _⟩
    ·show _=some (HO.lst ((zs2.map ln0).map fun ln=>V.str ln.num))
     rw [List.map_map]; exact ll12
    ·show _=some (HO.lst ((List.replicate n V.non).map _))
     rw [List.map_replicate]; exact ha12
    ·show _=some (HO.lst ((List.replicate n false).map _))
     rw [List.map_replicate]; exact ua12
    ·show _=some (HO.lst ((List.replicate n (0:Int)).map _))
     rw [List.map_replicate]; exact pa12
    ·show _=some (HO.lst ((List.replicate n (0:Int)).map _))
     rw [List.map_replicate]; exact ta12
    ·show _=some (HO.lst ((List.replicate n (0:Int)).map _))
     rw [List.map_replicate]; exact na12
    ·show (List.replicate n false).length=(List.replicate n V.non).length
     rw [List.length_replicate,List.length_replicate]
    ·show (List.replicate n (0:Int)).length=(List.replicate n V.non).length
     rw [List.length_replicate,List.length_replicate]
    ·show (List.replicate n (0:Int)).length=(List.replicate n V.non).length
     rw [List.length_replicate,List.length_replicate]
    ·show (List.replicate n (0:Int)).length=(List.replicate n V.non).length
     rw [List.length_replicate,List.length_replicate]
    ·show (zs2.length:Int)=((zs2.map ln0).length:Int)
     rw [List.length_map]
    ·rcases newB b m with rfl | e
     ·refine ⟨fun m=>?_,AaI hl10 t10.ld (by intro z; cases z),AaI hl10 t10.sd (by intro z; cases z)⟩
      have:=f10' _ m
      rw [hl5] at this; cases this
     ·exact ⟨t10.fresh e,(Aaj t10.ld e).symm,(Aaj t10.sd e).symm⟩
   have old5:∀ {b o},b≠ll→H5 b=some o→Kp G12 A0 ⟨d,ll,qa,ha,ua,pa,ta,na⟩ b o:=fun {b o} nb e=>by
    refine ⟨sH _ _ (t510 _ _ e),fun m=>(by rw [f10' b m] at e; cases e),fun m=>?_⟩
    rcases newB b m with z | z
    ·exact nb z
    ·rw [t510 _ _ e] at z; cases z
   have kd0:=old5 dll hD5
   have psl:∀ {o},H ps=some o→ps≠ll:=fun h=>Aaj ((s3.trans s4) _ _ h) nll
   have ks0:Ks K G12 A0 ⟨d,ll,qa,ha,ua,pa,ta,na⟩ ps (ns.map V.int):=by
    rcases hS with (h | ⟨o,h⟩) | h
    ·exact .inr ⟨_,old5 (psl h) (s5 _ _ h),fun H' e=>.inl (.inl e)⟩
    ·exact .inr ⟨_,old5 (psl h) (s5 _ _ h),fun H' e=>.inl (.inr ⟨o,e⟩)⟩
    ·exact .inl fun H'=>.inr h
   have r0:∀ (j:Nat) (ln:LnS),(AjL 3 zs2 n).lns[j]?=some ln→ln.st="rests":=fun j ln h=>by
    obtain ⟨z,_,rfl⟩:=Alb h
    rfl
   clear y10 y8 y6 y4 y0 sH off nd1 ll4 qa4 ha4 ll12 qa12 ha12 ua12 nd7 nd9 nd11 pa8 pa10 pa12 ta10 ta12 na12 k6 k8 k10 dif apB back s6 s8 s10 newB t12 wf0 old5 psl
   clear xb0 xb1 xb2 db0 db1 db2 zb0 zb1 zb2 wb0 wb1 wb2 ua0 ua1 ua2 qa0 qa1 qa2 za0 za1 za2 nnpa nnta nnna npa nta nna nly0 nly1 nly2
   clear u1 u2 u3 u4 u6 x5 d1 d4 d5 q2 q3 q4 w6 z1 z2 z3 z4 z5 z6 nqa nha nha2 nua nua3 nwt nlx1 nlx2 ndd' t10 x10 f10 n10 t810 t510 hl10 hD10 f10' t9 n9 nhh nhdx nhd t68 x8 t7 npp npdx ndd t6 ngl hl5 t5 nll hD5 dll s5 s4 s3 hR4 hrow b0 b1 b2 b3 hmo m0 x0 x1 good
   generalize hB:(⟨d,ll,qa,ha,ua,pa,ta,na⟩:StA)=B at g0 kd0 ks0
   have ed:B.d=d:=by rw [← hB]
   have el:B.l=ll:=by rw [← hB]
   clear hB
   subst ed
   subst el
   generalize AjL 3 zs2 n=S0 at g0 r0
   walk_at "st"
   refine ⟨dl,drs,n,rfl,kd0.1,by omega,by omega,fun v hv=>by have:=hdrs v hv; omega,by omega,fun ol ord G13 s13 nol hol pm=>?_⟩
   walk_at "st"
   refine ⟨⟨_,.of hol⟩,AeL (K:=K) (a:=ol) (xs:=ord.map V.int) (fun i σ H'=>∃ A S x,σ=[some (.ref ps),some (.ref r),some (.ref dl),some (.int many),some (.int n),some (.ref B.l),some (.ref hh),some (.ref B.d),some (.str "shares"),x,none,none,none,none]∧A.h=hh∧Afj K a H' A B zs2 n i S∧Kp H' A B ol (.lst (ord.map V.int))∧Kp H' A B dl (.lst (drs.map V.int))∧Ks K H' A B ps (ns.map V.int)∧∀ (j:Nat) (ln:LnS),S.lns[j]?=some ln→ln.st="rests")
    ⟨A0,S0,none,rfl,eA,g0.same s13,⟨hol,g0.t.fresh nol,g0.st.fresh nol⟩,kd0.same s13,ks0.same s13,r0⟩ (fun i σ H' _ ⟨_,_,_,_,_,_,k,_⟩=>.of k.1) ?_ ?_⟩
   ·rintro i y σ H' hi ⟨A1,S1,x,rfl,hA1,g1,ko1,kd1,ks1,r1⟩
    have ilt:i < ord.length:=by have:=(List.getElem?_eq_some_iff.mp hi).1; rwa [List.length_map] at this
    rw [List.getElem?_map,List.getElem?_eq_getElem ilt] at hi
    cases hi
    have mk:=Aiv (pm.mem_iff.mp (List.getElem_mem ilt))
    have olen:ord.length=n:=by rw [pm.length_eq,Abk]; omega
    generalize ord[i]=k at mk
    subst hA1
    walk_at "st"
    refine ⟨(by show 3≤sizeLine; decide),fun dd ndd=>?_⟩
    have s2:=(Aav.refl H').upd (o:=.tup (Abj.vals (.jam true k))) ndd
    have e2:(upd H' dd (.tup (Abj.vals (.jam true k)))) dd=some (.tup (Abj.vals (.jam true k))):=Aad
    have okd:Abj.ok S1 (.jam true k):=by
     show (decide (0≤k) && decide (k≤(S1.hs.length:Int) - 1))=true
     rw [g1.len,decide_eq_true mk.1,decide_eq_true (by omega)]; rfl
    have gg:=g1.same s2
    refine ⟨A1,B,S1,.jam true k,dd,rfl,gg.t,gg.st,gg.ap,gg.wf,gg.asc zo',gg.lnz zo',e2,okd,by rw [gg.len]; omega,by rw [gg.len]; omega,Nat.lt_of_le_of_lt gg.dn (by omega),fun H2 A2 eA2 t2 st2 ap2 fr2 sub2=>?_⟩
    have g2:=gg.nxt okd t2 st2 ap2
    have go2:AqG A1 A2 B _ H2:=⟨eA2,fr2,sub2⟩
    walk_at "st"
    refine ⟨A2,_,_,rfl,go2.h,g2,(ko1.same s2).next go2,(kd1.same s2).next go2,(ks1.same s2).next go2,fun j ln h=>?_⟩
    have lj:j < S1.lns.length:=by
     have e:=congrArg List.length (g2.num.trans g1.num.symm)
     rw [List.length_map,List.length_map] at e
     rw [← e]; exact (List.getElem?_eq_some_iff.mp h).1
    have ej:S1.lns[j]?=some S1.lns[j]:=List.getElem?_eq_getElem lj
    have rj:=r1 j _ ej
    rw [Ano g1.wf okd ej rj] at h
    cases h
    exact rj
   ·rintro σ H' ⟨A1,S1,x,rfl,hA1,g1,ko1,kd1,ks1,r1⟩
    rw [List.length_map] at g1
    have olen:ord.length=n:=by rw [pm.length_eq,Abk]; omega
    rw [olen] at g1
    clear ko1 g0 kd0 ks0 r0 s13 nol hol pm olen eA
    walk_at "st"
    have cut:ApO (drs.map V.int) (some 7) none=(drs.drop 7).map V.int:=by
     unfold ApO
     rw [show HT.sIx (drs.map V.int).length 0 (some 7)=7 by rw [List.length_map,dlen]; rfl,show HT.sIx (drs.map V.int).length (drs.map V.int).length none=60 by rw [List.length_map,dlen]; rfl,List.take_of_length_le (by rw [List.length_drop,List.length_map]; omega),List.map_drop]
    refine .inr ⟨dl,drs.map V.int,rfl,.of kd1.1,fun sl nsl=>?_⟩
    rw [cut]
    have s2:=(Aav.refl H').upd (o:=.lst ((drs.drop 7).map V.int)) nsl
    have e2:(upd H' sl (.lst ((drs.drop 7).map V.int))) sl=some (.lst ((drs.drop 7).map V.int)):=Aad
    generalize upd H' sl (.lst ((drs.drop 7).map V.int))=H2 at s2 e2 ⊢
    have dl7:(drs.drop 7).length=53:=by rw [List.length_drop]; omega
    walk_at "st"
    refine ⟨sl,drs.drop 7,many,rfl,e2,by omega,by omega,fun v hv=>by have:=hdrs v (List.mem_of_mem_drop hv); omega,by omega,fun ol ord H3 s3 nol hol pm=>?_⟩
    have g3:=(g1.same s2).same s3
    have ks3:=(ks1.same s2).same s3
    have ndp:ord.Nodup:=pm.nodup_iff.mpr (Anp many)
    have olen:ord.length=many:=by rw [pm.length_eq,Abk]; omega
    have ko3:Kp H3 A1 B ol (.lst (ord.map V.int)):=⟨hol,(g1.same s2).t.fresh nol,(g1.same s2).st.fresh nol⟩
    clear kd1 ks1 s2 e2 nsl cut s3 nol hol dl7
    walk_at "st"
    refine ⟨⟨_,.of ko3.1⟩,AeL (K:=K) (a:=ol) (xs:=ord.map V.int) (fun i σ H'=>∃ A S x,σ=[some (.ref ps),some (.ref r),some (.ref dl),some (.int many),some (.int n),some (.ref B.l),some (.ref hh),some (.ref B.d),some (.str "shares"),x,none,none,none,none]∧A.h=hh∧Afj K a H' A B zs2 n (n + i) S∧Kp H' A B ol (.lst (ord.map V.int))∧Ks K H' A B ps (ns.map V.int)∧∀ (j:Nat) (ln:LnS),S.lns[j]?=some ln→(j:Int)∈ord.drop i→ln.st="rests")
     ⟨A1,S1,_,rfl,hA1,g3,ko3,ks3,fun j ln h _=>r1 j ln h⟩ (fun i σ H' _ ⟨_,_,_,_,_,_,k,_⟩=>.of k.1) ?_ ?_⟩
    ·clear g3 ko3 ks3 g1 r1 hA1
     clear A1 S1
     rintro i y σ H' hi ⟨A1,S1,x,rfl,hA1,g1,ko1,ks1,r1⟩
     have ilt:i < ord.length:=by have:=(List.getElem?_eq_some_iff.mp hi).1; rwa [List.length_map] at this
     rw [List.getElem?_map,List.getElem?_eq_getElem ilt] at hi
     cases hi
     have mk:=Aiv (pm.mem_iff.mp (List.getElem_mem ilt))
     have hdrop:ord.drop i=ord[i] :: ord.drop (i + 1):=List.drop_eq_getElem_cons ilt
     have hnin:ord[i] ∉ ord.drop (i + 1):=by
      have:=(List.drop_sublist i ord).nodup ndp
      rw [hdrop] at this
      exact (List.nodup_cons.mp this).1
     generalize ord[i]=k at mk hdrop hnin
     have klt:k.toNat < zs2.length:=by omega
     have ez:zs2[k.toNat]?=some zs2[k.toNat]:=List.getElem?_eq_getElem klt
     generalize zs2[k.toNat]=z at ez
     obtain ⟨ln,e1,en,ei⟩:=g1.at ez
     have rl:=r1 k.toNat ln e1 (by rw [hdrop,show ((k.toNat:Nat):Int)=k by omega]; exact List.mem_cons_self)
     have az:atI (S1.lns.map fun ln=>V.str ln.num) k=some (.str z):=by
      rw [show k=((k.toNat:Nat):Int) by omega]
      exact Ac2 (by rw [List.getElem?_map,e1,← en]; rfl)
     subst hA1
     walk_at "st"
     refine Or.inl ⟨B.l,_,_,_,rfl,rfl,.of g1.st.l,az,?_⟩
     refine ⟨(by show 2≤sizeLine; decide),fun dd ndd=>?_⟩
     have s2:=(Aav.refl H').upd (o:=.tup (Abj.vals (.lift z))) ndd
     have e2:(upd H' dd (.tup (Abj.vals (.lift z)))) dd=some (.tup (Abj.vals (.lift z))):=Aad
     have okd:Abj.ok S1 (.lift z):=g1.wf.ok_lift (by rw [ei]; exact e1) en rl
     have gg:=g1.same s2
     refine ⟨A1,B,S1,.lift z,dd,rfl,gg.t,gg.st,gg.ap,gg.wf,gg.asc zo',gg.lnz zo',e2,okd,by rw [gg.len]; omega,by rw [gg.len]; omega,Nat.lt_of_le_of_lt gg.dn (by omega),fun H2 A2 eA2 t2 st2 ap2 fr2 sub2=>?_⟩
     have g2:=gg.nxt okd t2 st2 ap2
     have go2:AqG A1 A2 B _ H2:=⟨eA2,fr2,sub2⟩
     walk_at "st"
     refine ⟨A2,_,_,rfl,go2.h,g2,(ko1.same s2).next go2,(ks1.same s2).next go2,fun j lm h mj=>?_⟩
     have lj:j < S1.lns.length:=by
      have e:=congrArg List.length (g2.num.trans g1.num.symm)
      rw [List.length_map,List.length_map] at e
      rw [← e]; exact (List.getElem?_eq_some_iff.mp h).1
     have ej:S1.lns[j]?=some S1.lns[j]:=List.getElem?_eq_getElem lj
     have rj:=r1 j _ ej (by rw [hdrop]; exact List.mem_cons_of_mem _ mj)
     have jk:k.toNat≠j:=fun x=>hnin (by rw [show k=(j:Int) by omega]; exact mj)
     have nz:S1.lns[j].num≠z:=fun x=>AhZ g1.wf.qok.num e1 ej jk (by rw [en,x])
     rw [AlL g1.wf okd ej nz rj] at h
     cases h
     exact rj
    ·clear g3 ko3 ks3 g1 r1 hA1
     clear A1 S1
     rintro σ H' ⟨A1,S1,x,rfl,hA1,g1,ko1,ks1,r1⟩
     rw [List.length_map,olen] at g1
     clear ko1 r1 ndp olen pm
     walk_at "st"
     refine ⟨ps,ns,2,_,_,rfl,ks1.sq,by decide,by decide,hn,by decide,by decide,by decide,by decide,fun el ds H2 s2 nel hel elen hds=>?_⟩
     have elen:ds.length=60:=elen
     have hds:∀ v∈ds,0≤v∧v < 768398400:=hds
     have ke2:Kp H2 A1 B el (.lst (ds.map V.int)):=⟨hel,g1.t.fresh nel,g1.st.fresh nel⟩
     have g2:=g1.same s2
     clear s2 nel hel ks1 g1
     walk_at "st"
     refine ⟨⟨_,.of ke2.1⟩,AeL (K:=K) (a:=el) (xs:=ds.map V.int) (fun i σ H'=>∃ A S x9 x10 x11 x12 x13,σ=[some (.ref ps),some (.ref r),some (.ref dl),some (.int many),some (.int n),some (.ref B.l),some (.ref hh),some (.ref B.d),some (.str "shares"),x9,x10,x11,x12,x13]∧A.h=hh∧Afj K a H' A B zs2 n (n + many + i) S∧Kp H' A B el (.lst (ds.map V.int)))
      ⟨A1,S1,_,_,_,_,_,rfl,hA1,g2,ke2⟩ (fun i σ H' _ ⟨_,_,_,_,_,_,_,_,_,_,k⟩=>.of k.1) ?_ ?_⟩
     ·clear g2 ke2 hA1
      clear A1 S1
      rintro i y σ H' hi ⟨A1,S1,x9,x10,x11,x12,x13,rfl,hA1,g1,ke1⟩
      have ilt:i < ds.length:=by have:=(List.getElem?_eq_some_iff.mp hi).1; rwa [List.length_map] at this
      rw [List.getElem?_map,List.getElem?_eq_getElem ilt] at hi
      cases hi
      have hd:=hds _ (List.getElem_mem ilt)
      generalize ds[i]=draw at hd
      subst hA1
      have c1:=Int.emod_nonneg (draw / 7) (show (n:Int)≠0 by omega)
      have c2:=Int.emod_lt_of_pos (draw / 7) (show (0:Int) < n by omega)
      have c3:=Int.emod_nonneg (draw / 7) (show (many:Int)≠0 by omega)
      have c4:=Int.emod_lt_of_pos (draw / 7) (show (0:Int) < many by omega)
      walk_at "st"
      simp only [List.set_cons_succ,List.set_cons_zero]
      generalize hk:draw / 7 % (n:Int)=k at c1 c2
      generalize hj:draw / 7 % (many:Int)=j at c3 c4
      obtain ⟨jn,rfl⟩:∃ jn:Nat,j=(jn:Int):=⟨j.toNat,by omega⟩
      have jlt:jn < zs2.length:=by omega
      have ez:zs2[jn]?=some zs2[jn]:=List.getElem?_eq_getElem jlt
      generalize zs2[jn]=z at ez
      obtain ⟨ln,e1,en,ei⟩:=g1.at ez
      have az:atI (S1.lns.map fun ln=>V.str ln.num) (jn:Int)=some (.str z):=Ac2 (by rw [List.getElem?_map,e1,← en]; rfl)
      have sees:=g1.sees e1 en
      have wl:0≤draw % 7∧draw % 7 < 7:=by omega
      generalize draw % 7=way at wl
      clear hk hj hd jlt ez hds
      refine Or.inl ⟨B.l,_,_,_,rfl,rfl,.of g1.st.l,az,?_⟩
      refine AeW ?_
      simp only [List.set_cons_succ,List.set_cons_zero]
      refine AqI ?_
      refine And.intro (show 4≤sizeLine by decide) fun wd nwd=>?_
      have s2:=(Aav.refl H').upd (o:=.lst [.str "stick",.str "mend",.str "mend",.str "mend"]) nwd
      have e2:(upd H' wd (.lst [.str "stick",.str "mend",.str "mend",.str "mend"])) wd=some (.lst [.str "stick",.str "mend",.str "mend",.str "mend"]):=Aad
      obtain ⟨b,ab⟩:∃ b:Bool,atI [V.str "stick",.str "mend",.str "mend",.str "mend"] (way % 4)=some (.str (ApQ b)):=by
       have:way % 4=0∨way % 4=1∨way % 4=2∨way % 4=3:=by omega
       rcases this with h | h | h | h <;> rw [h]
       ·exact ⟨true,rfl⟩
       ·exact ⟨false,rfl⟩
       ·exact ⟨false,rfl⟩
       ·exact ⟨false,rfl⟩
      generalize upd H' wd (.lst [.str "stick",.str "mend",.str "mend",.str "mend"])=H2 at s2 e2 ⊢
      walk_at "st"
      refine Or.inl ⟨wd,_,_,_,rfl,rfl,.of e2,ab,?_⟩
      walk_at "st"
      refine ⟨(by show 3≤sizeLine; decide),fun dd ndd=>?_⟩
      have s3:=(Aav.refl H2).upd (o:=.tup (Abj.vals (.jam b k))) ndd
      have e3:(upd H2 dd (.tup (Abj.vals (.jam b k)))) dd=some (.tup (Abj.vals (.jam b k))):=Aad
      have n3:∀ c,(upd H2 dd (.tup (Abj.vals (.jam b k)))) c=none→H2 c=none:=fun c e=>Aai e
      refine AeW ?_
      simp only [List.set_cons_succ,List.set_cons_zero]
      show AqL _ _ _ _ (upd H2 dd (.tup (Abj.vals (.jam b k))))
      generalize upd H2 dd (.tup (Abj.vals (.jam b k)))=H3 at s3 e3 n3 ⊢
      refine AfC fun C hC=>?_
      have s13:=s2.trans s3
      have rest:∀ (H4:Hp) (d:Abj) (dd:Addr),Aav H' H4→H4 dd=some (.tup d.vals)→d.ok S1→C [some (.ref ps),some (.ref r),some (.ref dl),some (.int many),some (.int n),some (.ref B.l),some (.ref A1.h),some (.ref B.d),some (.str "shares"),some (.int k),some (.int draw),some (.int way),some (.str z),some (.ref dd)] H4:=by
       intro H4 d dd s4 e4 okd
       rw [hC]
       have gg:=g1.same s4
       walk_at "st"
       refine ⟨A1,B,S1,d,dd,rfl,gg.t,gg.st,gg.ap,gg.wf,gg.asc zo',gg.lnz zo',e4,okd,by rw [gg.len]; omega,by rw [gg.len]; omega,Nat.lt_of_le_of_lt gg.dn (by omega),fun H5 A5 eA5 t5 st5 ap5 fr5 sub5=>?_⟩
       have go5:AqG A1 A5 B _ H5:=⟨eA5,fr5,sub5⟩
       walk_at "st"
       exact ⟨A5,_,_,_,_,_,_,rfl,eA5,gg.nxt okd t5 st5 ap5,(ke1.same s4).next go5⟩
      clear hC
      have okj:Abj.ok S1 (.jam b k):=by
       show (decide (0≤k) && decide (k≤(S1.hs.length:Int) - 1))=true
       rw [g1.len,decide_eq_true c1,decide_eq_true (by omega)]; rfl
      have st3:=g1.st.same s13
      have nw:∀ (H4:Hp) (d:Abj),Aav H' H4→d.ok S1→∀ dd,H4 dd=none→C [some (.ref ps),some (.ref r),some (.ref dl),some (.int many),some (.int n),some (.ref B.l),some (.ref A1.h),some (.ref B.d),some (.str "shares"),some (.int k),some (.int draw),some (.int way),some (.str z),some (.ref dd)] (upd H4 dd (.tup d.vals)):=fun H4 d s4 okd dd ndd=>rest _ d dd (s4.trans ((Aav.refl H4).upd ndd)) Aad okd
      by_cases hw:way > 3
      ·walk_at "st"
       rw [decide_eq_true (show 3 < way from hw)]
       refine AgI ?_
       walk_at "st"
       refine ⟨B.d,_,rfl,st3.gQueue,?_⟩
       refine Or.inr ⟨B.q,_,rfl,.inl (.of st3.q),rfl,AjQ S1.q,?_⟩
       rw [Anm]
       by_cases hq:z∈S1.q
       ·rw [decide_eq_true hq]
        walk_at "st"
        refine ⟨(by show 2≤sizeLine; decide),fun d2 nd2=>?_⟩
        exact nw H3 (.hang z) s13 (g1.wf.ok_hang (by rw [ei]; exact e1) en fun x=>sees.mp x (.inl hq)) d2 nd2
       ·rw [decide_eq_false hq]
        walk_at "st"
        refine ⟨B.d,_,rfl,st3.gHeld,?_⟩
        refine Or.inr ⟨B.h,_,rfl,.inl (.of st3.h),rfl,Aov g1.wf.hs,?_⟩
        rw [ApN g1.wf.hs]
        by_cases hv:V.str z∈S1.hs.map (Ad1 S1)
        ·rw [decide_eq_true hv]
         walk_at "st"
         refine ⟨(by show 2≤sizeLine; decide),fun d2 nd2=>?_⟩
         exact nw H3 (.hang z) s13 (g1.wf.ok_hang (by rw [ei]; exact e1) en fun x=>sees.mp x (.inr hv)) d2 nd2
        ·rw [decide_eq_false hv]
         walk_at "st"
         rw [decide_eq_true (show 3 < way from hw)]
         walk_at "st"
         refine ⟨(by show 2≤sizeLine; decide),fun d2 nd2=>?_⟩
         exact nw H3 (.lift z) s13 (g1.wf.ok_lift (by rw [ei]; exact e1) en (sees.mpr fun x=>x.elim hq hv)) d2 nd2
      ·walk_at "st"
       rw [decide_eq_false (show ¬ 3 < way from hw)]
       walk_at "st"
       rw [decide_eq_false (show ¬ 3 < way from hw)]
       walk_at "st"
       exact rest H3 (.jam b k) dd s13 e3 okj
     ·rintro σ H' ⟨A1,S1,x9,x10,x11,x12,x13,rfl,hA1,g1,ke1⟩
      walk_at "st"
      exact q _
end
open PySem PySem.Spec PyProof.Rows L2
theorem Ai7 {P:Program} {w:World} {K:PySem.W.Frag} {mg:Str→Option Value} {base:Heap} {CX:CXT} {k:Nat} {f:Addr} {fd:FuncData} {ps:List Str}:Aco P w K mg base CX k f fd ps Agf:=⟨fun _ _ _ _ h=>h.elim,fun _ _ _ _ _ _ _ _ _ _ _ _ _ h=>h.elim⟩
theorem all_mk {l:PySem.W.OpenLaw} {w:World} {K:PySem.W.Frag} {h:Heap} {mg:Str→Option Value} {fa:Addr} (X:K.In h) (G:h.Ns mainGlobals mg) (hfa:mg "law"=some (.ref fa))
  {faa fab fac fad fae faf fag fah fai faj fak fal fam fan fao fap faq far fas fat fau fav faw fax fay faz fba fbb fbc fbd fbe fbf fbg fbh fbi fbj fbk fbl fbm fbn fbo fbp fbq fbr fbs fbt:Addr} {odaa anaa odab anab odac anac odad anad odae anae odaf anaf odag anag odah anah odai anai odaj anaj odak anak odal anal odam anam odan anan odao anao odap anap odaq anaq odar anar odas anas odat anat odau anau odav anav odaw anaw odax anax oday anay odaz anaz odba anba odbb anbb odbc anbc odbd anbd odbe anbe odbf anbf odbg anbg odbh anbh odbi anbi odbj anbj odbk anbk odbl anbl odbm anbm odbn anbn odbo anbo odbp anbp odbq anbq odbr anbr odbs anbs odbt anbt:Option Addr} {slaa slab slac slad slae slaf slag slah slai slaj slak slal slam slan slao slap slaq slar slas slat slau slav slaw slax slay slaz slba slbb slbc slbd slbe slbf slbg slbh slbi slbj slbk slbl slbm slbn slbo slbp slbq slbr slbs slbt:Array (Option Value)} {ocaa kVaa dcaa pmaa cdaa ctaa ocab kVab dcab pmab cdab ctab ocac kVac dcac pmac cdac ctac ocad kVad dcad pmad cdad ctad ocae kVae dcae pmae cdae ctae ocaf kVaf dcaf pmaf cdaf ctaf ocag kVag dcag pmag cdag ctag ocah kVah dcah pmah cdah ctah ocai kVai dcai pmai cdai ctai ocaj kVaj dcaj pmaj cdaj ctaj ocak kVak dcak pmak cdak ctak ocal kVal dcal pmal cdal ctal ocam kVam dcam pmam cdam ctam ocan kVan dcan pman cdan ctan ocao kVao dcao pmao cdao ctao ocap kVap dcap pmap cdap ctap ocaq kVaq dcaq pmaq cdaq ctaq ocar kVar dcar pmar cdar ctar ocas kVas dcas pmas cdas ctas ocat kVat dcat pmat cdat ctat ocau kVau dcau pmau cdau ctau ocav kVav dcav pmav cdav ctav ocaw kVaw dcaw pmaw cdaw ctaw ocax kVax dcax pmax cdax ctax ocay kVay dcay pmay cday ctay ocaz kVaz dcaz pmaz cdaz ctaz ocba kVba dcba pmba cdba ctba ocbb kVbb dcbb pmbb cdbb ctbb ocbc kVbc dcbc pmbc cdbc ctbc ocbd kVbd dcbd pmbd cdbd ctbd ocbe kVbe dcbe pmbe cdbe ctbe ocbf kVbf dcbf pmbf cdbf ctbf ocbg kVbg dcbg pmbg cdbg ctbg ocbh kVbh dcbh pmbh cdbh ctbh ocbi kVbi dcbi pmbi cdbi ctbi ocbj kVbj dcbj pmbj cdbj ctbj ocbk kVbk dcbk pmbk cdbk ctbk ocbl kVbl dcbl pmbl cdbl ctbl ocbm kVbm dcbm pmbm cdbm ctbm ocbn kVbn dcbn pmbn cdbn ctbn ocbo kVbo dcbo pmbo cdbo ctbo ocbp kVbp dcbp pmbp cdbp ctbp ocbq kVbq dcbq pmbq cdbq ctbq ocbr kVbr dcbr pmbr cdbr ctbr ocbs kVbs dcbs pmbs cdbs ctbs ocbt kVbt dcbt pmbt cdbt ctbt:Value}
  {a_HallError a_BadPlan a_NoSwitch a_NoLine a_NotSo a_Plan a_Seekers a_Switches a_Group a_Line a_Hall a_WAYS t1 t2 t3 t4:Addr} {tk_SIGNS tk_LEAST_LONG tk_MOST_LONG tk_MOST_LINES tk_MOST_SEEKERS tk_MOST_GROUPS tk_MOST_SWITCHES tk_AT_SEEKERS:Tok} {esW:Array DictEntry} {nW n1 n4:Nat} {its1 its4:Array Value} {od1 od4:Option Addr} {sl1 sl4:Array (Option Value)}
  (g_HallError:PySem.W.nsIn K mainGlobals "HallError"=some (some (.ref a_HallError))) (g_BadPlan:PySem.W.nsIn K mainGlobals "BadPlan"=some (some (.ref a_BadPlan))) (g_NoSwitch:PySem.W.nsIn K mainGlobals "NoSwitch"=some (some (.ref a_NoSwitch))) (g_NoLine:PySem.W.nsIn K mainGlobals "NoLine"=some (some (.ref a_NoLine))) (g_NotSo:PySem.W.nsIn K mainGlobals "NotSo"=some (some (.ref a_NotSo))) (g_Plan:PySem.W.nsIn K mainGlobals "Plan"=some (some (.ref a_Plan))) (g_Seekers:PySem.W.nsIn K mainGlobals "Seekers"=some (some (.ref a_Seekers))) (g_Switches:PySem.W.nsIn K mainGlobals "Switches"=some (some (.ref a_Switches))) (g_Group:PySem.W.nsIn K mainGlobals "Group"=some (some (.ref a_Group))) (g_Line:PySem.W.nsIn K mainGlobals "Line"=some (some (.ref a_Line))) (g_Hall:PySem.W.nsIn K mainGlobals "Hall"=some (some (.ref a_Hall))) (g_WAYS:PySem.W.nsIn K mainGlobals "WAYS"=some (some (.ref a_WAYS)))
  (v_SIGNS:PySem.W.nsIn K mainGlobals "SIGNS"=some (some (.str "0123456789" tk_SIGNS))) (v_LEAST_LONG:PySem.W.nsIn K mainGlobals "LEAST_LONG"=some (some (.int 2 tk_LEAST_LONG))) (v_MOST_LONG:PySem.W.nsIn K mainGlobals "MOST_LONG"=some (some (.int 4 tk_MOST_LONG))) (v_MOST_LINES:PySem.W.nsIn K mainGlobals "MOST_LINES"=some (some (.int 60 tk_MOST_LINES))) (v_MOST_SEEKERS:PySem.W.nsIn K mainGlobals "MOST_SEEKERS"=some (some (.int 60 tk_MOST_SEEKERS))) (v_MOST_GROUPS:PySem.W.nsIn K mainGlobals "MOST_GROUPS"=some (some (.int 40 tk_MOST_GROUPS))) (v_MOST_SWITCHES:PySem.W.nsIn K mainGlobals "MOST_SWITCHES"=some (some (.int 10 tk_MOST_SWITCHES))) (v_AT_SEEKERS:PySem.W.nsIn K mainGlobals "AT_SEEKERS"=some (some (.str "" tk_AT_SEEKERS)))
  (aaa:PySem.W.nsIn K mainGlobals "within"=some (some (.ref faa))) (laa:K.lookup faa=some ⟨ocaa,odaa,.func (PySem.W.fnOf "within" "within" (Aao (top 10)) (Aam (top 10)) (Aaa (top 10)) .none kVaa dcaa pmaa anaa cdaa ctaa),slaa⟩) (caa:PySem.W.codeIn K cdaa "within"=true) (kaa:PySem.W.keepIn K (.ref faa)=true)
  (aab:PySem.W.nsIn K mainGlobals "are_figures"=some (some (.ref fab))) (lab:K.lookup fab=some ⟨ocab,odab,.func (PySem.W.fnOf "are_figures" "are_figures" (Aao (top 11)) (Aam (top 11)) (Aaa (top 11)) .none kVab dcab pmab anab cdab ctab),slab⟩) (cab:PySem.W.codeIn K cdab "are_figures"=true) (kab:PySem.W.keepIn K (.ref fab)=true)
  (aac:PySem.W.nsIn K mainGlobals "paper_of"=some (some (.ref fac))) (lac:K.lookup fac=some ⟨ocac,odac,.func (PySem.W.fnOf "paper_of" "paper_of" (Aao (top 17)) (Aam (top 17)) (Aaa (top 17)) .none kVac dcac pmac anac cdac ctac),slac⟩) (cac:PySem.W.codeIn K cdac "paper_of"=true) (kac:PySem.W.keepIn K (.ref fac)=true)
  (aad:PySem.W.nsIn K mainGlobals "check_counts"=some (some (.ref fad))) (lad:K.lookup fad=some ⟨ocad,odad,.func (PySem.W.fnOf "check_counts" "check_counts" (Aao (top 36)) (Aam (top 36)) (Aaa (top 36)) .none kVad dcad pmad anad cdad ctad),slad⟩) (cad:PySem.W.codeIn K cdad "check_counts"=true) (kad:PySem.W.keepIn K (.ref fad)=true)
  (aae:PySem.W.nsIn K mainGlobals "check_lines"=some (some (.ref fae))) (lae:K.lookup fae=some ⟨ocae,odae,.func (PySem.W.fnOf "check_lines" "check_lines" (Aao (top 37)) (Aam (top 37)) (Aaa (top 37)) .none kVae dcae pmae anae cdae ctae),slae⟩) (cae:PySem.W.codeIn K cdae "check_lines"=true) (kae:PySem.W.keepIn K (.ref fae)=true)
  (aaf:PySem.W.nsIn K mainGlobals "check_groups"=some (some (.ref faf))) (laf:K.lookup faf=some ⟨ocaf,odaf,.func (PySem.W.fnOf "check_groups" "check_groups" (Aao (top 38)) (Aam (top 38)) (Aaa (top 38)) .none kVaf dcaf pmaf anaf cdaf ctaf),slaf⟩) (caf:PySem.W.codeIn K cdaf "check_groups"=true) (kaf:PySem.W.keepIn K (.ref faf)=true)
  (aag:PySem.W.nsIn K mainGlobals "_law_cell"=some (some (.ref fag))) (lag:K.lookup fag=some ⟨ocag,odag,.func (PySem.W.fnOf "_law_cell" "_law_cell" (Aao (top 40)) (Aam (top 40)) (Aaa (top 40)) .none kVag dcag pmag anag cdag ctag),slag⟩) (cag:PySem.W.codeIn K cdag "_law_cell"=true) (kag:PySem.W.keepIn K (.ref fag)=true)
  (aah:PySem.W.nsIn K mainGlobals "_law_draws"=some (some (.ref fah))) (lah:K.lookup fah=some ⟨ocah,odah,.func (PySem.W.fnOf "_law_draws" "_law_draws" (Aao (top 41)) (Aam (top 41)) (Aaa (top 41)) .none kVah dcah pmah anah cdah ctah),slah⟩) (cah:PySem.W.codeIn K cdah "_law_draws"=true) (kah:PySem.W.keepIn K (.ref fah)=true)
  (aai:PySem.W.nsIn K mainGlobals "_law_order"=some (some (.ref fai))) (lai:K.lookup fai=some ⟨ocai,odai,.func (PySem.W.fnOf "_law_order" "_law_order" (Aao (top 42)) (Aam (top 42)) (Aaa (top 42)) .none kVai dcai pmai anai cdai ctai),slai⟩) (cai:PySem.W.codeIn K cdai "_law_order"=true) (kai:PySem.W.keepIn K (.ref fai)=true)
  (aaj:PySem.W.nsIn K mainGlobals "_law_toned"=some (some (.ref faj))) (laj:K.lookup faj=some ⟨ocaj,odaj,.func (PySem.W.fnOf "_law_toned" "_law_toned" (Aao (top 43)) (Aam (top 43)) (Aaa (top 43)) .none kVaj dcaj pmaj anaj cdaj ctaj),slaj⟩) (caj:PySem.W.codeIn K cdaj "_law_toned"=true) (kaj:PySem.W.keepIn K (.ref faj)=true)
  (aak:PySem.W.nsIn K mainGlobals "_law_done"=some (some (.ref fak))) (lak:K.lookup fak=some ⟨ocak,odak,.func (PySem.W.fnOf "_law_done" "_law_done" (Aao (top 44)) (Aam (top 44)) (Aaa (top 44)) .none kVak dcak pmak anak cdak ctak),slak⟩) (cak:PySem.W.codeIn K cdak "_law_done"=true) (kak:PySem.W.keepIn K (.ref fak)=true)
  (aal:PySem.W.nsIn K mainGlobals "law"=some (some (.ref fal))) (lal:K.lookup fal=some ⟨ocal,odal,.func (PySem.W.fnOf "law" "law" (Aao (top 45)) (Aam (top 45)) (Aaa (top 45)) .none kVal dcal pmal anal cdal ctal),slal⟩) (cal:PySem.W.codeIn K cdal "law"=true) (kal:PySem.W.keepIn K (.ref fal)=true)
  (aam:PySem.W.findIn K (.ref a_Seekers) "first_free"=some (some (.ref fam))) (iam:PySem.W.isFn K (.ref fam)=true) (lam:K.lookup fam=some ⟨ocam,odam,.func (PySem.W.fnOf "first_free" "Switches.first_free" (Aao (Aab (top 16) 1)) (Aam (Aab (top 16) 1)) (Aaa (Aab (top 16) 1)) .none kVam dcam pmam anam cdam ctam),slam⟩) (cam:PySem.W.codeIn K cdam "Switches.first_free"=true) (kam:PySem.W.keepIn K (.ref fam)=true)
  (aan:PySem.W.findIn K (.ref a_Seekers) "hold"=some (some (.ref fan))) (ian:PySem.W.isFn K (.ref fan)=true) (lan:K.lookup fan=some ⟨ocan,odan,.func (PySem.W.fnOf "hold" "Switches.hold" (Aao (Aab (top 16) 2)) (Aam (Aab (top 16) 2)) (Aaa (Aab (top 16) 2)) .none kVan dcan pman anan cdan ctan),slan⟩) (can:PySem.W.codeIn K cdan "Switches.hold"=true) (kan:PySem.W.keepIn K (.ref fan)=true)
  (aao:PySem.W.findIn K (.ref a_Seekers) "free"=some (some (.ref fao))) (iao:PySem.W.isFn K (.ref fao)=true) (lao:K.lookup fao=some ⟨ocao,odao,.func (PySem.W.fnOf "free" "Switches.free" (Aao (Aab (top 16) 3)) (Aam (Aab (top 16) 3)) (Aaa (Aab (top 16) 3)) .none kVao dcao pmao anao cdao ctao),slao⟩) (cao:PySem.W.codeIn K cdao "Switches.free"=true) (kao:PySem.W.keepIn K (.ref fao)=true)
  (aap:PySem.W.findIn K (.ref a_Seekers) "stick"=some (some (.ref fap))) (iap:PySem.W.isFn K (.ref fap)=true) (lap:K.lookup fap=some ⟨ocap,odap,.func (PySem.W.fnOf "stick" "Switches.stick" (Aao (Aab (top 16) 4)) (Aam (Aab (top 16) 4)) (Aaa (Aab (top 16) 4)) .none kVap dcap pmap anap cdap ctap),slap⟩) (cap:PySem.W.codeIn K cdap "Switches.stick"=true) (kap:PySem.W.keepIn K (.ref fap)=true)
  (aaq:PySem.W.findIn K (.ref a_Seekers) "mend"=some (some (.ref faq))) (iaq:PySem.W.isFn K (.ref faq)=true) (laq:K.lookup faq=some ⟨ocaq,odaq,.func (PySem.W.fnOf "mend" "Switches.mend" (Aao (Aab (top 16) 5)) (Aam (Aab (top 16) 5)) (Aaa (Aab (top 16) 5)) .none kVaq dcaq pmaq anaq cdaq ctaq),slaq⟩) (caq:PySem.W.codeIn K cdaq "Switches.mend"=true) (kaq:PySem.W.keepIn K (.ref faq)=true)
  (aar:PySem.W.findIn K (.ref a_Seekers) "check"=some (some (.ref far))) (iar:PySem.W.isFn K (.ref far)=true) (lar:K.lookup far=some ⟨ocar,odar,.func (PySem.W.fnOf "check" "Switches.check" (Aao (Aab (top 16) 6)) (Aam (Aab (top 16) 6)) (Aaa (Aab (top 16) 6)) .none kVar dcar pmar anar cdar ctar),slar⟩) (car:PySem.W.codeIn K cdar "Switches.check"=true) (kar:PySem.W.keepIn K (.ref far)=true)
  (aas:PySem.W.findIn K (.ref a_Seekers) "holders"=some (some (.ref fas))) (ias:PySem.W.isFn K (.ref fas)=true) (las:K.lookup fas=some ⟨ocas,odas,.func (PySem.W.fnOf "holders" "Switches.holders" (Aao (Aab (top 16) 7)) (Aam (Aab (top 16) 7)) (Aaa (Aab (top 16) 7)) .none kVas dcas pmas anas cdas ctas),slas⟩) (cas:PySem.W.codeIn K cdas "Switches.holders"=true) (kas:PySem.W.keepIn K (.ref fas)=true)
  (aat:PySem.W.findIn K (.ref a_Seekers) "stuck"=some (some (.ref fat))) (iat:PySem.W.isFn K (.ref fat)=true) (lat:K.lookup fat=some ⟨ocat,odat,.func (PySem.W.fnOf "stuck" "Switches.stuck" (Aao (Aab (top 16) 8)) (Aam (Aab (top 16) 8)) (Aaa (Aab (top 16) 8)) .none kVat dcat pmat anat cdat ctat),slat⟩) (cat:PySem.W.codeIn K cdat "Switches.stuck"=true) (kat:PySem.W.keepIn K (.ref fat)=true)
  (aau:PySem.W.findIn K (.ref a_Seekers) "shares"=some (some (.ref fau))) (iau:PySem.W.isFn K (.ref fau)=true) (lau:K.lookup fau=some ⟨ocau,odau,.func (PySem.W.fnOf "shares" "Switches.shares" (Aao (Aab (top 16) 9)) (Aam (Aab (top 16) 9)) (Aaa (Aab (top 16) 9)) .none kVau dcau pmau anau cdau ctau),slau⟩) (cau:PySem.W.codeIn K cdau "Switches.shares"=true) (kau:PySem.W.keepIn K (.ref fau)=true)
  (aav:PySem.W.findIn K (.ref a_Seekers) "__init__"=some (some (.ref fav))) (iav:PySem.W.isFn K (.ref fav)=true) (lav:K.lookup fav=some ⟨ocav,odav,.func (PySem.W.fnOf "__init__" "Seekers.__init__" (Aao (Aab (top 23) 0)) (Aam (Aab (top 23) 0)) (Aaa (Aab (top 23) 0)) .none kVav dcav pmav anav cdav ctav),slav⟩) (cav:PySem.W.codeIn K cdav "Seekers.__init__"=true) (kav:PySem.W.keepIn K (.ref fav)=true)
  (aaw:PySem.W.findIn K (.ref a_Seekers) "take"=some (some (.ref faw))) (iaw:PySem.W.isFn K (.ref faw)=true) (law:K.lookup faw=some ⟨ocaw,odaw,.func (PySem.W.fnOf "take" "Seekers.take" (Aao (Aab (top 23) 1)) (Aam (Aab (top 23) 1)) (Aaa (Aab (top 23) 1)) .none kVaw dcaw pmaw anaw cdaw ctaw),slaw⟩) (caw:PySem.W.codeIn K cdaw "Seekers.take"=true) (kaw:PySem.W.keepIn K (.ref faw)=true)
  (aax:PySem.W.findIn K (.ref a_Seekers) "steps"=some (some (.ref fax))) (iax:PySem.W.isFn K (.ref fax)=true) (lax:K.lookup fax=some ⟨ocax,odax,.func (PySem.W.fnOf "steps" "Seekers.steps" (Aao (Aab (top 23) 3)) (Aam (Aab (top 23) 3)) (Aaa (Aab (top 23) 3)) .none kVax dcax pmax anax cdax ctax),slax⟩) (cax:PySem.W.codeIn K cdax "Seekers.steps"=true) (kax:PySem.W.keepIn K (.ref fax)=true)
  (aay:PySem.W.findIn K (.ref a_Line) "__init__"=some (some (.ref fay))) (iay:PySem.W.isFn K (.ref fay)=true) (lay:K.lookup fay=some ⟨ocay,oday,.func (PySem.W.fnOf "__init__" "Line.__init__" (Aao (Aab (top 21) 0)) (Aam (Aab (top 21) 0)) (Aaa (Aab (top 21) 0)) .none kVay dcay pmay anay cday ctay),slay⟩) (cay:PySem.W.codeIn K cday "Line.__init__"=true) (kay:PySem.W.keepIn K (.ref fay)=true)
  (aaz:PySem.W.findIn K (.ref a_Line) "turn"=some (some (.ref faz))) (iaz:PySem.W.isFn K (.ref faz)=true) (laz:K.lookup faz=some ⟨ocaz,odaz,.func (PySem.W.fnOf "turn" "Line.turn" (Aao (Aab (top 21) 1)) (Aam (Aab (top 21) 1)) (Aaa (Aab (top 21) 1)) .none kVaz dcaz pmaz anaz cdaz ctaz),slaz⟩) (caz:PySem.W.codeIn K cdaz "Line.turn"=true) (kaz:PySem.W.keepIn K (.ref faz)=true)
  (aba:PySem.W.findIn K (.ref a_Hall) "__init__"=some (some (.ref fba))) (iba:PySem.W.isFn K (.ref fba)=true) (lba:K.lookup fba=some ⟨ocba,odba,.func (PySem.W.fnOf "__init__" "Hall.__init__" (Aao (Aab (top 27) 0)) (Aam (Aab (top 27) 0)) (Aaa (Aab (top 27) 0)) .none kVba dcba pmba anba cdba ctba),slba⟩) (cba:PySem.W.codeIn K cdba "Hall.__init__"=true) (kba:PySem.W.keepIn K (.ref fba)=true)
  (abb:PySem.W.findIn K (.ref a_Hall) "do"=some (some (.ref fbb))) (ibb:PySem.W.isFn K (.ref fbb)=true) (lbb:K.lookup fbb=some ⟨ocbb,odbb,.func (PySem.W.fnOf "do" "Hall.do" (Aao (Aab (top 27) 1)) (Aam (Aab (top 27) 1)) (Aaa (Aab (top 27) 1)) .none kVbb dcbb pmbb anbb cdbb ctbb),slbb⟩) (cbb:PySem.W.codeIn K cdbb "Hall.do"=true) (kbb:PySem.W.keepIn K (.ref fbb)=true)
  (abc:PySem.W.findIn K (.ref a_Hall) "at_switch"=some (some (.ref fbc))) (ibc:PySem.W.isFn K (.ref fbc)=true) (lbc:K.lookup fbc=some ⟨ocbc,odbc,.func (PySem.W.fnOf "at_switch" "Hall.at_switch" (Aao (Aab (top 27) 2)) (Aam (Aab (top 27) 2)) (Aaa (Aab (top 27) 2)) .none kVbc dcbc pmbc anbc cdbc ctbc),slbc⟩) (cbc:PySem.W.codeIn K cdbc "Hall.at_switch"=true) (kbc:PySem.W.keepIn K (.ref fbc)=true)
  (abd:PySem.W.findIn K (.ref a_Hall) "at_line"=some (some (.ref fbd))) (ibd:PySem.W.isFn K (.ref fbd)=true) (lbd:K.lookup fbd=some ⟨ocbd,odbd,.func (PySem.W.fnOf "at_line" "Hall.at_line" (Aao (Aab (top 27) 3)) (Aam (Aab (top 27) 3)) (Aaa (Aab (top 27) 3)) .none kVbd dcbd pmbd anbd cdbd ctbd),slbd⟩) (cbd:PySem.W.codeIn K cdbd "Hall.at_line"=true) (kbd:PySem.W.keepIn K (.ref fbd)=true)
  (abe:PySem.W.findIn K (.ref a_Hall) "lift"=some (some (.ref fbe))) (ibe:PySem.W.isFn K (.ref fbe)=true) (lbe:K.lookup fbe=some ⟨ocbe,odbe,.func (PySem.W.fnOf "lift" "Hall.lift" (Aao (Aab (top 27) 4)) (Aam (Aab (top 27) 4)) (Aaa (Aab (top 27) 4)) .none kVbe dcbe pmbe anbe cdbe ctbe),slbe⟩) (cbe:PySem.W.codeIn K cdbe "Hall.lift"=true) (kbe:PySem.W.keepIn K (.ref fbe)=true)
  (abf:PySem.W.findIn K (.ref a_Hall) "pulse"=some (some (.ref fbf))) (ibf:PySem.W.isFn K (.ref fbf)=true) (lbf:K.lookup fbf=some ⟨ocbf,odbf,.func (PySem.W.fnOf "pulse" "Hall.pulse" (Aao (Aab (top 27) 5)) (Aam (Aab (top 27) 5)) (Aaa (Aab (top 27) 5)) .none kVbf dcbf pmbf anbf cdbf ctbf),slbf⟩) (cbf:PySem.W.codeIn K cdbf "Hall.pulse"=true) (kbf:PySem.W.keepIn K (.ref fbf)=true)
  (abg:PySem.W.findIn K (.ref a_Hall) "gap"=some (some (.ref fbg))) (ibg:PySem.W.isFn K (.ref fbg)=true) (lbg:K.lookup fbg=some ⟨ocbg,odbg,.func (PySem.W.fnOf "gap" "Hall.gap" (Aao (Aab (top 27) 6)) (Aam (Aab (top 27) 6)) (Aaa (Aab (top 27) 6)) .none kVbg dcbg pmbg anbg cdbg ctbg),slbg⟩) (cbg:PySem.W.codeIn K cdbg "Hall.gap"=true) (kbg:PySem.W.keepIn K (.ref fbg)=true)
  (abh:PySem.W.findIn K (.ref a_Hall) "hang"=some (some (.ref fbh))) (ibh:PySem.W.isFn K (.ref fbh)=true) (lbh:K.lookup fbh=some ⟨ocbh,odbh,.func (PySem.W.fnOf "hang" "Hall.hang" (Aao (Aab (top 27) 11)) (Aam (Aab (top 27) 11)) (Aaa (Aab (top 27) 11)) .none kVbh dcbh pmbh anbh cdbh ctbh),slbh⟩) (cbh:PySem.W.codeIn K cdbh "Hall.hang"=true) (kbh:PySem.W.keepIn K (.ref fbh)=true)
  (abi:PySem.W.findIn K (.ref a_Hall) "left_alone"=some (some (.ref fbi))) (ibi:PySem.W.isFn K (.ref fbi)=true) (lbi:K.lookup fbi=some ⟨ocbi,odbi,.func (PySem.W.fnOf "left_alone" "Hall.left_alone" (Aao (Aab (top 27) 12)) (Aam (Aab (top 27) 12)) (Aaa (Aab (top 27) 12)) .none kVbi dcbi pmbi anbi cdbi ctbi),slbi⟩) (cbi:PySem.W.codeIn K cdbi "Hall.left_alone"=true) (kbi:PySem.W.keepIn K (.ref fbi)=true)
  (abj:PySem.W.findIn K (.ref a_Hall) "wait"=some (some (.ref fbj))) (ibj:PySem.W.isFn K (.ref fbj)=true) (lbj:K.lookup fbj=some ⟨ocbj,odbj,.func (PySem.W.fnOf "wait" "Hall.wait" (Aao (Aab (top 27) 13)) (Aam (Aab (top 27) 13)) (Aaa (Aab (top 27) 13)) .none kVbj dcbj pmbj anbj cdbj ctbj),slbj⟩) (cbj:PySem.W.codeIn K cdbj "Hall.wait"=true) (kbj:PySem.W.keepIn K (.ref fbj)=true)
  (abk:PySem.W.findIn K (.ref a_Hall) "release"=some (some (.ref fbk))) (ibk:PySem.W.isFn K (.ref fbk)=true) (lbk:K.lookup fbk=some ⟨ocbk,odbk,.func (PySem.W.fnOf "release" "Hall.release" (Aao (Aab (top 27) 14)) (Aam (Aab (top 27) 14)) (Aaa (Aab (top 27) 14)) .none kVbk dcbk pmbk anbk cdbk ctbk),slbk⟩) (cbk:PySem.W.codeIn K cdbk "Hall.release"=true) (kbk:PySem.W.keepIn K (.ref fbk)=true)
  (abl:PySem.W.findIn K (.ref a_Hall) "tones"=some (some (.ref fbl))) (ibl:PySem.W.isFn K (.ref fbl)=true) (lbl:K.lookup fbl=some ⟨ocbl,odbl,.func (PySem.W.fnOf "tones" "Hall.tones" (Aao (Aab (top 27) 15)) (Aam (Aab (top 27) 15)) (Aaa (Aab (top 27) 15)) .none kVbl dcbl pmbl anbl cdbl ctbl),slbl⟩) (cbl:PySem.W.codeIn K cdbl "Hall.tones"=true) (kbl:PySem.W.keepIn K (.ref fbl)=true)
  (abm:PySem.W.findIn K (.ref a_Hall) "line_of"=some (some (.ref fbm))) (ibm:PySem.W.isFn K (.ref fbm)=true) (lbm:K.lookup fbm=some ⟨ocbm,odbm,.func (PySem.W.fnOf "line_of" "Hall.line_of" (Aao (Aab (top 27) 16)) (Aam (Aab (top 27) 16)) (Aaa (Aab (top 27) 16)) .none kVbm dcbm pmbm anbm cdbm ctbm),slbm⟩) (cbm:PySem.W.codeIn K cdbm "Hall.line_of"=true) (kbm:PySem.W.keepIn K (.ref fbm)=true)
  (abn:PySem.W.findIn K (.ref a_Hall) "switches_of"=some (some (.ref fbn))) (ibn:PySem.W.isFn K (.ref fbn)=true) (lbn:K.lookup fbn=some ⟨ocbn,odbn,.func (PySem.W.fnOf "switches_of" "Hall.switches_of" (Aao (Aab (top 27) 17)) (Aam (Aab (top 27) 17)) (Aaa (Aab (top 27) 17)) .none kVbn dcbn pmbn anbn cdbn ctbn),slbn⟩) (cbn:PySem.W.codeIn K cdbn "Hall.switches_of"=true) (kbn:PySem.W.keepIn K (.ref fbn)=true)
  (abo:PySem.W.findIn K (.ref a_Hall) "paper"=some (some (.ref fbo))) (ibo:PySem.W.isFn K (.ref fbo)=true) (lbo:K.lookup fbo=some ⟨ocbo,odbo,.func (PySem.W.fnOf "paper" "Hall.paper" (Aao (Aab (top 27) 23)) (Aam (Aab (top 27) 23)) (Aaa (Aab (top 27) 23)) .none kVbo dcbo pmbo anbo cdbo ctbo),slbo⟩) (cbo:PySem.W.codeIn K cdbo "Hall.paper"=true) (kbo:PySem.W.keepIn K (.ref fbo)=true)
  (abp:PySem.W.findIn K (.ref a_Hall) "shares"=some (some (.ref fbp))) (ibp:PySem.W.isFn K (.ref fbp)=true) (lbp:K.lookup fbp=some ⟨ocbp,odbp,.func (PySem.W.fnOf "shares" "Hall.shares" (Aao (Aab (top 27) 24)) (Aam (Aab (top 27) 24)) (Aaa (Aab (top 27) 24)) .none kVbp dcbp pmbp anbp cdbp ctbp),slbp⟩) (cbp:PySem.W.codeIn K cdbp "Hall.shares"=true) (kbp:PySem.W.keepIn K (.ref fbp)=true)
  (abq:PySem.W.findIn K (.ref a_Hall) "waiting"=some (some (.ref fbq))) (ibq:PySem.W.isFn K (.ref fbq)=true) (lbq:K.lookup fbq=some ⟨ocbq,odbq,.func (PySem.W.fnOf "waiting" "Hall.waiting" (Aao (Aab (top 27) 25)) (Aam (Aab (top 27) 25)) (Aaa (Aab (top 27) 25)) .none kVbq dcbq pmbq anbq cdbq ctbq),slbq⟩) (cbq:PySem.W.codeIn K cdbq "Hall.waiting"=true) (kbq:PySem.W.keepIn K (.ref fbq)=true)
  (abr:PySem.W.findIn K (.ref a_Hall) "steps"=some (some (.ref fbr))) (ibr:PySem.W.isFn K (.ref fbr)=true) (lbr:K.lookup fbr=some ⟨ocbr,odbr,.func (PySem.W.fnOf "steps" "Hall.steps" (Aao (Aab (top 27) 26)) (Aam (Aab (top 27) 26)) (Aaa (Aab (top 27) 26)) .none kVbr dcbr pmbr anbr cdbr ctbr),slbr⟩) (cbr:PySem.W.codeIn K cdbr "Hall.steps"=true) (kbr:PySem.W.keepIn K (.ref fbr)=true)
  (abs:PySem.W.findIn K (.ref a_Plan) "__init__"=some (some (.ref fbs))) (ibs:PySem.W.isFn K (.ref fbs)=true) (lbs:K.lookup fbs=some ⟨ocbs,odbs,.func (PySem.W.fnOf "__init__" "Plan.__init__" (Aao (Aab (top 35) 0)) (Aam (Aab (top 35) 0)) (Aaa (Aab (top 35) 0)) .none kVbs dcbs pmbs anbs cdbs ctbs),slbs⟩) (cbs:PySem.W.codeIn K cdbs "Plan.__init__"=true) (kbs:PySem.W.keepIn K (.ref fbs)=true)
  (rdS:PySem.W.readsIn K a_Switches (.type "type")=true) (spS:PySem.W.specialIn K (.ref a_Switches) "__getattribute__"=some (some (.builtin "type.__getattribute__"))) (fdS:PySem.W.findCls K (.ref a_Switches) (.type "type") "__init__"=some (.val (.ref fbt))) (tyS:PySem.W.typeIn K (.ref fbt)=some (.type "function"))
  (abt:PySem.W.findIn K (.ref a_Switches) "__init__"=some (some (.ref fbt))) (ibt:PySem.W.isFn K (.ref fbt)=true) (lbt:K.lookup fbt=some ⟨ocbt,odbt,.func (PySem.W.fnOf "__init__" "Switches.__init__" (Aao (Aab (top 16) 0)) (Aam (Aab (top 16) 0)) (Aaa (Aab (top 16) 0)) .none kVbt dcbt pmbt anbt cdbt ctbt),slbt⟩) (cbt:PySem.W.codeIn K cdbt "Switches.__init__"=true) (kbt:PySem.W.keepIn K (.ref fbt)=true)
  (aG:PySem.W.findIn K (.ref a_Group) "__init__"=some (some (.ref fbt)))
  (mk_Seekers:PySem.W.makesIn K a_Seekers=true) (kc_Seekers:PySem.W.keepIn K (.ref a_Seekers)=true)
  (mk_Line:PySem.W.makesIn K a_Line=true) (kc_Line:PySem.W.keepIn K (.ref a_Line)=true)
  (mk_Hall:PySem.W.makesIn K a_Hall=true) (kc_Hall:PySem.W.keepIn K (.ref a_Hall)=true)
  (mk_Plan:PySem.W.makesIn K a_Plan=true) (kc_Plan:PySem.W.keepIn K (.ref a_Plan)=true)
  (mk_Group:PySem.W.makesIn K a_Group=true) (kc_Group:PySem.W.keepIn K (.ref a_Group)=true)
  (pg_Seekers:PySem.W.plainGet K a_Seekers Str.empty=true) (hd_Seekers:PySem.W.hasDictIn K a_Seekers=true) (po_Seekers:PySem.W.plainOver K a_Seekers=true) (sa_Seekers:PySem.W.findIn K (.ref a_Seekers) "__setattr__"=some (some (.builtin "object.__setattr__")))
  (no_Seekers_held_by:PySem.W.findIn K (.ref a_Seekers) "held_by"=some none)
  (no_Seekers_jammed:PySem.W.findIn K (.ref a_Seekers) "jammed"=some none)
  (no_Seekers_taken:PySem.W.findIn K (.ref a_Seekers) "taken"=some none)
  (no_Seekers_places:PySem.W.findIn K (.ref a_Seekers) "places"=some none)
  (no_Seekers_stands:PySem.W.findIn K (.ref a_Seekers) "stands"=some none)
  (no_Seekers_went:PySem.W.findIn K (.ref a_Seekers) "went"=some none)
  (no_Seekers_mark_at:PySem.W.findIn K (.ref a_Seekers) "mark_at"=some none)
  (pg_Line:PySem.W.plainGet K a_Line Str.empty=true) (hd_Line:PySem.W.hasDictIn K a_Line=true) (po_Line:PySem.W.plainOver K a_Line=true) (sa_Line:PySem.W.findIn K (.ref a_Line) "__setattr__"=some (some (.builtin "object.__setattr__")))
  (no_Line_number:PySem.W.findIn K (.ref a_Line) "number"=some none)
  (no_Line_place:PySem.W.findIn K (.ref a_Line) "place"=some none)
  (no_Line_held:PySem.W.findIn K (.ref a_Line) "held"=some none)
  (no_Line_state:PySem.W.findIn K (.ref a_Line) "state"=some none)
  (no_Line_dialled_so_far:PySem.W.findIn K (.ref a_Line) "dialled_so_far"=some none)
  (no_Line_pulses:PySem.W.findIn K (.ref a_Line) "pulses"=some none)
  (no_Line_far_end:PySem.W.findIn K (.ref a_Line) "far_end"=some none)
  (no_Line_why:PySem.W.findIn K (.ref a_Line) "why"=some none)
  (pg_Hall:PySem.W.plainGet K a_Hall Str.empty=true) (hd_Hall:PySem.W.hasDictIn K a_Hall=true) (po_Hall:PySem.W.plainOver K a_Hall=true) (sa_Hall:PySem.W.findIn K (.ref a_Hall) "__setattr__"=some (some (.builtin "object.__setattr__")))
  (no_Hall_long:PySem.W.findIn K (.ref a_Hall) "long"=some none)
  (no_Hall_lines:PySem.W.findIn K (.ref a_Hall) "lines"=some none)
  (no_Hall_switches:PySem.W.findIn K (.ref a_Hall) "switches"=some none)
  (no_Hall_queue:PySem.W.findIn K (.ref a_Hall) "queue"=some none)
  (no_Hall_done:PySem.W.findIn K (.ref a_Hall) "done"=some none)
  (pg_Plan:PySem.W.plainGet K a_Plan Str.empty=true) (hd_Plan:PySem.W.hasDictIn K a_Plan=true) (po_Plan:PySem.W.plainOver K a_Plan=true) (sa_Plan:PySem.W.findIn K (.ref a_Plan) "__setattr__"=some (some (.builtin "object.__setattr__")))
  (no_Plan_long:PySem.W.findIn K (.ref a_Plan) "long"=some none)
  (no_Plan_lines:PySem.W.findIn K (.ref a_Plan) "lines"=some none)
  (no_Plan_seekers:PySem.W.findIn K (.ref a_Plan) "seekers"=some none)
  (no_Plan_groups:PySem.W.findIn K (.ref a_Plan) "groups"=some none)
  (xN_BadPlan:PySem.W.excIn K a_BadPlan [.type "ValueError",.type "Exception",.type "BaseException",.type "object"] "ValueError.__new__"=true)
  (xN_NoSwitch:PySem.W.excIn K a_NoSwitch [.type "ValueError",.type "Exception",.type "BaseException",.type "object"] "ValueError.__new__"=true)
  (xN_NoLine:PySem.W.excIn K a_NoLine [.type "ValueError",.type "Exception",.type "BaseException",.type "object"] "ValueError.__new__"=true)
  (xN_NotSo:PySem.W.excIn K a_NotSo [.type "ValueError",.type "Exception",.type "BaseException",.type "object"] "ValueError.__new__"=true)
  (lW:K.lookup a_WAYS=some ⟨.type "dict",none,.dict esW nW,#[]⟩) (oW:(a_WAYS == sysModules)=false) (vW:Ak3 w.params esW.toList [("lift",.ref t1),("pulse",.ref t2),("gap",.ref t3),("hang",.ref t4)])
  (lT1:K.lookup t1=some ⟨.type "tuple",od1,.seq its1 n1,sl1⟩) (zT1:its1.size≤10) (vT1:Aba [.str "rests",.str "rung"] its1.toList)
  (lT4:K.lookup t4=some ⟨.type "tuple",od4,.seq its4 n4,sl4⟩) (zT4:its4.size≤10) (vT4:Aba [.str "waits",.str "dials",.str "rings",.str "talks",.str "told"] its4.toList)
  (z_len:PySem.W.nsIn K mainGlobals "len"=some none) (z_isinstance:PySem.W.nsIn K mainGlobals "isinstance"=some none) (z_bool:PySem.W.nsIn K mainGlobals "bool"=some none) (z_int:PySem.W.nsIn K mainGlobals "int"=some none) (z_range:PySem.W.nsIn K mainGlobals "range"=some none) (z_all:PySem.W.nsIn K mainGlobals "all"=some none) (z_list:PySem.W.nsIn K mainGlobals "list"=some none) (z_enumerate:PySem.W.nsIn K mainGlobals "enumerate"=some none) (z_tuple:PySem.W.nsIn K mainGlobals "tuple"=some none) (z_sorted:PySem.W.nsIn K mainGlobals "sorted"=some none) (z_set:PySem.W.nsIn K mainGlobals "set"=some none) (z_min:PySem.W.nsIn K mainGlobals "min"=some none) (z_str:PySem.W.nsIn K mainGlobals "str"=some none) :
  ∃ fd:FuncData,(∀ (s:Shared) (v:Value),BindsTo s fd ⟨[v],[]⟩ [("script",v)])∧∀ base:Heap,K.In base→base.Ns mainGlobals mg→Aco l.prog w K mg base CX0 9 fa fd ["script"] (Aow K):=by
 have e:=hfa.symm.trans (PySem.W.mg_of X G aal)
 cases e
 have T:ArN l.prog w K mg ⟨a_HallError,a_BadPlan,a_NoSwitch,a_NoLine,a_NotSo,a_Plan,a_Seekers,a_Switches,a_Group,a_Line,a_Hall,a_WAYS⟩ :=
  { n_len:=PySem.W.mg_none_of X G z_len,n_isinstance:=PySem.W.mg_none_of X G z_isinstance,n_bool:=PySem.W.mg_none_of X G z_bool,n_int:=PySem.W.mg_none_of X G z_int,n_range:=PySem.W.mg_none_of X G z_range,n_all:=PySem.W.mg_none_of X G z_all,n_list:=PySem.W.mg_none_of X G z_list,n_enumerate:=PySem.W.mg_none_of X G z_enumerate,n_tuple:=PySem.W.mg_none_of X G z_tuple,n_sorted:=PySem.W.mg_none_of X G z_sorted,n_set:=PySem.W.mg_none_of X G z_set,n_min:=PySem.W.mg_none_of X G z_min,n_str:=PySem.W.mg_none_of X G z_str,g_SIGNS:=⟨_,PySem.W.mg_of X G v_SIGNS⟩,g_LEAST_LONG:=⟨_,PySem.W.mg_of X G v_LEAST_LONG⟩,g_MOST_LONG:=⟨_,PySem.W.mg_of X G v_MOST_LONG⟩,g_MOST_LINES:=⟨_,PySem.W.mg_of X G v_MOST_LINES⟩,g_MOST_SEEKERS:=⟨_,PySem.W.mg_of X G v_MOST_SEEKERS⟩,g_MOST_GROUPS:=⟨_,PySem.W.mg_of X G v_MOST_GROUPS⟩,g_MOST_SWITCHES:=⟨_,PySem.W.mg_of X G v_MOST_SWITCHES⟩,g_AT_SEEKERS:=⟨_,PySem.W.mg_of X G v_AT_SEEKERS⟩,g_NoSwitch:=PySem.W.mg_of X G g_NoSwitch,g_Switches:=PySem.W.mg_of X G g_Switches,g_BadPlan:=PySem.W.mg_of X G g_BadPlan,g_WAYS:=PySem.W.mg_of X G g_WAYS,g_NoLine:=PySem.W.mg_of X G g_NoLine,g_NotSo:=PySem.W.mg_of X G g_NotSo,x_NoSwitch:=xN_NoSwitch,x_BadPlan:=xN_BadPlan,x_NoLine:=xN_NoLine,x_NotSo:=xN_NotSo,ways:=⟨t1,t2,t3,t4,An5 oW lW vW (show ([("lift":Str),"pulse","gap","hang"]).Nodup by decide +kernel) (show 4≤1000 by decide),fun H=>.inr ⟨_,_,_,lT1,rfl,rfl,Nat.le_trans zT1 (by decide),vT1⟩,fun H=>.inr ⟨_,_,_,lT4,rfl,rfl,Nat.le_trans zT4 (by decide),vT4⟩⟩,hc:=⟨⟨pg_Hall,hd_Hall,po_Hall,sa_Hall⟩,no_Hall_long,no_Hall_lines,no_Hall_switches,no_Hall_queue,no_Hall_done⟩,lc:=⟨⟨pg_Line,hd_Line,po_Line,sa_Line⟩,no_Line_number,no_Line_place,no_Line_held,no_Line_state,no_Line_dialled_so_far,no_Line_pulses,no_Line_far_end,no_Line_why⟩,sc:=⟨⟨List.mem_singleton.mpr rfl,⟨pg_Seekers,hd_Seekers,po_Seekers,sa_Seekers⟩,no_Seekers_held_by,no_Seekers_jammed,no_Seekers_taken⟩,no_Seekers_places,no_Seekers_stands,no_Seekers_went,no_Seekers_mark_at⟩ }
 have pc:PlC K a_Plan:=⟨⟨pg_Plan,hd_Plan,po_Plan,sa_Plan⟩,no_Plan_long,no_Plan_lines,no_Plan_seekers,no_Plan_groups⟩
 have Faa:=AaG (st:=(top 10)) laa caa kaa
 have baa:=Faa.binds (ps:=["number","least","most"]) fun _ _ _ _ _ _ us hl=>match us,hl with | [_,_,_],_=>rfl
 have maa:=PySem.W.mg_of X G aaa
 have Fab:=AaG (st:=(top 11)) lab cab kab
 have bab:=Fab.binds (ps:=["text"]) fun _ _ _ _ _ _ us hl=>match us,hl with | [_],_=>rfl
 have mab:=PySem.W.mg_of X G aab
 have Fac:=AaG (st:=(top 17)) lac cac kac
 have bac:=Fac.binds (ps:=["holders","stuck"]) fun _ _ _ _ _ _ us hl=>match us,hl with | [_,_],_=>rfl
 have mac:=PySem.W.mg_of X G aac
 have Fad:=AaG (st:=(top 36)) lad cad kad
 have bad:=Fad.binds (ps:=["long","seekers"]) fun _ _ _ _ _ _ us hl=>match us,hl with | [_,_],_=>rfl
 have mad:=PySem.W.mg_of X G aad
 have Fae:=AaG (st:=(top 37)) lae cae kae
 have bae:=Fae.binds (ps:=["long","lines"]) fun _ _ _ _ _ _ us hl=>match us,hl with | [_,_],_=>rfl
 have mae:=PySem.W.mg_of X G aae
 have Faf:=AaG (st:=(top 38)) laf caf kaf
 have baf:=Faf.binds (ps:=["long","groups"]) fun _ _ _ _ _ _ us hl=>match us,hl with | [_,_],_=>rfl
 have maf:=PySem.W.mg_of X G aaf
 have Fag:=AaG (st:=(top 40)) lag cag kag
 have bag:=Fag.binds (ps:=["script","k"]) fun _ _ _ _ _ _ us hl=>match us,hl with | [_,_],_=>rfl
 have mag:=PySem.W.mg_of X G aag
 have Fah:=AaG (st:=(top 41)) lah cah kah
 have bah:=Fah.binds (ps:=["script","k","many","base"]) fun _ _ _ _ _ _ us hl=>match us,hl with | [_,_,_,_],_=>rfl
 have mah:=PySem.W.mg_of X G aah
 have Fai:=AaG (st:=(top 42)) lai cai kai
 have bai:=Fai.binds (ps:=["draws","many"]) fun _ _ _ _ _ _ us hl=>match us,hl with | [_,_],_=>rfl
 have mai:=PySem.W.mg_of X G aai
 have Faj:=AaG (st:=(top 43)) laj caj kaj
 have baj:=Faj.binds (ps:=["state"]) fun _ _ _ _ _ _ us hl=>match us,hl with | [_],_=>rfl
 have maj:=PySem.W.mg_of X G aaj
 have Fak:=AaG (st:=(top 44)) lak cak kak
 have bak:=Fak.binds (ps:=["hall","state","deed"]) fun _ _ _ _ _ _ us hl=>match us,hl with | [_,_,_],_=>rfl
 have mak:=PySem.W.mg_of X G aak
 have Fal:=AaG (st:=(top 45)) lal cal kal
 have bal:=Fal.binds (ps:=["script"]) fun _ _ _ _ _ _ us hl=>match us,hl with | [_],_=>rfl
 have mal:=PySem.W.mg_of X G aal
 have Fam:=AaG (st:=(Aab (top 16) 1)) lam cam kam
 have bam:=Fam.binds (ps:=["self","start"]) fun _ _ _ _ _ _ us hl=>match us,hl with | [_,_],_=>rfl
 have Fan:=AaG (st:=(Aab (top 16) 2)) lan can kan
 have ban:=Fan.binds (ps:=["self","k","who"]) fun _ _ _ _ _ _ us hl=>match us,hl with | [_,_,_],_=>rfl
 have Fao:=AaG (st:=(Aab (top 16) 3)) lao cao kao
 have bao:=Fao.binds (ps:=["self","k"]) fun _ _ _ _ _ _ us hl=>match us,hl with | [_,_],_=>rfl
 have Fap:=AaG (st:=(Aab (top 16) 4)) lap cap kap
 have bap:=Fap.binds (ps:=["self","k"]) fun _ _ _ _ _ _ us hl=>match us,hl with | [_,_],_=>rfl
 have Faq:=AaG (st:=(Aab (top 16) 5)) laq caq kaq
 have baq:=Faq.binds (ps:=["self","k"]) fun _ _ _ _ _ _ us hl=>match us,hl with | [_,_],_=>rfl
 have Far:=AaG (st:=(Aab (top 16) 6)) lar car kar
 have bar:=Far.binds (ps:=["self","k"]) fun _ _ _ _ _ _ us hl=>match us,hl with | [_,_],_=>rfl
 have Fas:=AaG (st:=(Aab (top 16) 7)) las cas kas
 have bas:=Fas.binds (ps:=["self"]) fun _ _ _ _ _ _ us hl=>match us,hl with | [_],_=>rfl
 have Fat:=AaG (st:=(Aab (top 16) 8)) lat cat kat
 have bat:=Fat.binds (ps:=["self"]) fun _ _ _ _ _ _ us hl=>match us,hl with | [_],_=>rfl
 have Fau:=AaG (st:=(Aab (top 16) 9)) lau cau kau
 have bau:=Fau.binds (ps:=["self"]) fun _ _ _ _ _ _ us hl=>match us,hl with | [_],_=>rfl
 have Fav:=AaG (st:=(Aab (top 23) 0)) lav cav kav
 have bav:=Fav.binds (ps:=["self","many","places"]) fun _ _ _ _ _ _ us hl=>match us,hl with | [_,_,_],_=>rfl
 have Faw:=AaG (st:=(Aab (top 23) 1)) law caw kaw
 have baw:=Faw.binds (ps:=["self","place"]) fun _ _ _ _ _ _ us hl=>match us,hl with | [_,_],_=>rfl
 have Fax:=AaG (st:=(Aab (top 23) 3)) lax cax kax
 have bax:=Fax.binds (ps:=["self"]) fun _ _ _ _ _ _ us hl=>match us,hl with | [_],_=>rfl
 have Fay:=AaG (st:=(Aab (top 21) 0)) lay cay kay
 have bay:=Fay.binds (ps:=["self","number","place"]) fun _ _ _ _ _ _ us hl=>match us,hl with | [_,_,_],_=>rfl
 have Faz:=AaG (st:=(Aab (top 21) 1)) laz caz kaz
 have baz:=Faz.binds (ps:=["self","state"]) fun _ _ _ _ _ _ us hl=>match us,hl with | [_,_],_=>rfl
 have Fba:=AaG (st:=(Aab (top 27) 0)) lba cba kba
 have bba:=Fba.binds (ps:=["self","plan"]) fun _ _ _ _ _ _ us hl=>match us,hl with | [_,_],_=>rfl
 have Fbb:=AaG (st:=(Aab (top 27) 1)) lbb cbb kbb
 have bbb:=Fbb.binds (ps:=["self","deed"]) fun _ _ _ _ _ _ us hl=>match us,hl with | [_,_],_=>rfl
 have Fbc:=AaG (st:=(Aab (top 27) 2)) lbc cbc kbc
 have bbc:=Fbc.binds (ps:=["self","word","where","k"]) fun _ _ _ _ _ _ us hl=>match us,hl with | [_,_,_,_],_=>rfl
 have Fbd:=AaG (st:=(Aab (top 27) 3)) lbd cbd kbd
 have bbd:=Fbd.binds (ps:=["self","word","number"]) fun _ _ _ _ _ _ us hl=>match us,hl with | [_,_,_],_=>rfl
 have Fbe:=AaG (st:=(Aab (top 27) 4)) lbe cbe kbe
 have bbe:=Fbe.binds (ps:=["self","line"]) fun _ _ _ _ _ _ us hl=>match us,hl with | [_,_],_=>rfl
 have Fbf:=AaG (st:=(Aab (top 27) 5)) lbf cbf kbf
 have bbf:=Fbf.binds (ps:=["self","line"]) fun _ _ _ _ _ _ us hl=>match us,hl with | [_,_],_=>rfl
 have Fbg:=AaG (st:=(Aab (top 27) 6)) lbg cbg kbg
 have bbg:=Fbg.binds (ps:=["self","line"]) fun _ _ _ _ _ _ us hl=>match us,hl with | [_,_],_=>rfl
 have Fbh:=AaG (st:=(Aab (top 27) 11)) lbh cbh kbh
 have bbh:=Fbh.binds (ps:=["self","line"]) fun _ _ _ _ _ _ us hl=>match us,hl with | [_,_],_=>rfl
 have Fbi:=AaG (st:=(Aab (top 27) 12)) lbi cbi kbi
 have bbi:=Fbi.binds (ps:=["self","other"]) fun _ _ _ _ _ _ us hl=>match us,hl with | [_,_],_=>rfl
 have Fbj:=AaG (st:=(Aab (top 27) 13)) lbj cbj kbj
 have bbj:=Fbj.binds (ps:=["self","line"]) fun _ _ _ _ _ _ us hl=>match us,hl with | [_,_],_=>rfl
 have Fbk:=AaG (st:=(Aab (top 27) 14)) lbk cbk kbk
 have bbk:=Fbk.binds (ps:=["self","line"]) fun _ _ _ _ _ _ us hl=>match us,hl with | [_,_],_=>rfl
 have Fbl:=AaG (st:=(Aab (top 27) 15)) lbl cbl kbl
 have bbl:=Fbl.binds (ps:=["self"]) fun _ _ _ _ _ _ us hl=>match us,hl with | [_],_=>rfl
 have Fbm:=AaG (st:=(Aab (top 27) 16)) lbm cbm kbm
 have bbm:=Fbm.binds (ps:=["self","number"]) fun _ _ _ _ _ _ us hl=>match us,hl with | [_,_],_=>rfl
 have Fbn:=AaG (st:=(Aab (top 27) 17)) lbn cbn kbn
 have bbn:=Fbn.binds (ps:=["self","where"]) fun _ _ _ _ _ _ us hl=>match us,hl with | [_,_],_=>rfl
 have Fbo:=AaG (st:=(Aab (top 27) 23)) lbo cbo kbo
 have bbo:=Fbo.binds (ps:=["self","where"]) fun _ _ _ _ _ _ us hl=>match us,hl with | [_,_],_=>rfl
 have Fbp:=AaG (st:=(Aab (top 27) 24)) lbp cbp kbp
 have bbp:=Fbp.binds (ps:=["self","where"]) fun _ _ _ _ _ _ us hl=>match us,hl with | [_,_],_=>rfl
 have Fbq:=AaG (st:=(Aab (top 27) 25)) lbq cbq kbq
 have bbq:=Fbq.binds (ps:=["self"]) fun _ _ _ _ _ _ us hl=>match us,hl with | [_],_=>rfl
 have Fbr:=AaG (st:=(Aab (top 27) 26)) lbr cbr kbr
 have bbr:=Fbr.binds (ps:=["self"]) fun _ _ _ _ _ _ us hl=>match us,hl with | [_],_=>rfl
 have Fbs:=AaG (st:=(Aab (top 35) 0)) lbs cbs kbs
 have bbs:=Fbs.binds (ps:=["self","long","lines","seekers","groups"]) fun _ _ _ _ _ _ us hl=>match us,hl with | [_,_,_,_,_],_=>rfl
 have Fbt:=AaG (st:=(Aab (top 16) 0)) lbt cbt kbt
 have bbt:=Fbt.binds (ps:=["self","many"]) fun _ _ _ _ _ _ us hl=>match us,hl with | [_,_],_=>rfl
 refine ⟨PySem.W.fnOf "law" "law" (Aao (top 45)) (Aam (top 45)) (Aaa (top 45)) .none kVal dcal pmal anal cdal ctal,fun s v=>.of_eq rfl,fun base _ _=>?_⟩
 have D_within:AgG l.prog w K mg base CX0 1 "within" ["number","least","most"] AfG:=⟨_,_,maa,kaa,baa,AmZ Faa T.toTxt⟩
 have D_law_cell:AgG l.prog w K mg base CX0 1 "_law_cell" ["script","k"] (AmY K):=⟨_,_,mag,kag,bag,Apu Fag T.toTxt⟩
 have D_law_draws:AgG l.prog w K mg base CX0 2 "_law_draws" ["script","k","many","base"] (Akn K):=⟨_,_,mah,kah,bah,An6 Fah T.toTxt D_law_cell⟩
 have D_are_figures:AgG l.prog w K mg base CX0 1 "are_figures" ["text"] Ak8:=⟨_,_,mab,kab,bab,ApC Fab T.toTxtP⟩
 have D_check_counts:AgG l.prog w K mg base (CXE l.prog w) 2 "check_counts" ["long","seekers"] (AiW ⟨a_HallError,a_BadPlan,a_NoSwitch,a_NoLine,a_NotSo,a_Plan,a_Seekers,a_Switches,a_Group,a_Line,a_Hall,a_WAYS⟩):=⟨_,_,mad,kad,bad,Am4 Fad T.toTxtP D_within⟩
 have D_check_lines:AgG l.prog w K mg base (CXE l.prog w) 2 "check_lines" ["long","lines"] (Aku ⟨a_HallError,a_BadPlan,a_NoSwitch,a_NoLine,a_NotSo,a_Plan,a_Seekers,a_Switches,a_Group,a_Line,a_Hall,a_WAYS⟩ K):=⟨_,_,mae,kae,bae,Aog Fae T.toTxtP D_within D_are_figures⟩
 have D_check_groups:AgG l.prog w K mg base (CXE l.prog w) 2 "check_groups" ["long","groups"] (AiX ⟨a_HallError,a_BadPlan,a_NoSwitch,a_NoLine,a_NotSo,a_Plan,a_Seekers,a_Switches,a_Group,a_Line,a_Hall,a_WAYS⟩):=⟨_,_,maf,kaf,baf,Am5 Faf T.toTxtP D_within D_are_figures⟩
 have D_paper_of:AgG l.prog w K mg base CX0 1 "paper_of" ["holders","stuck"] (AhQ K):=⟨_,_,mac,kac,bac,AkB Fac T.toTxtS⟩
 have DD_check:∀ C∈Adr.racks ⟨a_HallError,a_BadPlan,a_NoSwitch,a_NoLine,a_NotSo,a_Plan,a_Seekers,a_Switches,a_Group,a_Line,a_Hall,a_WAYS⟩,AaJ l.prog w K mg base (CXE l.prog w) 2 C "check" ["self","k"] (AhN K ⟨a_HallError,a_BadPlan,a_NoSwitch,a_NoLine,a_NotSo,a_Plan,a_Seekers,a_Switches,a_Group,a_Line,a_Hall,a_WAYS⟩):=fun C hC=>by
  have e:=List.mem_singleton.mp hC
  subst e
  exact ⟨_,_,⟨aar,iar,kar⟩,bar,An8 Far T.toTxtS D_within⟩
 have DS_check:=DD_check a_Seekers (List.mem_singleton.mpr rfl)
 have DD_free:∀ C∈Adr.racks ⟨a_HallError,a_BadPlan,a_NoSwitch,a_NoLine,a_NotSo,a_Plan,a_Seekers,a_Switches,a_Group,a_Line,a_Hall,a_WAYS⟩,AaJ l.prog w K mg base (CXE l.prog w) 3 C "free" ["self","k"] (Am1 K ⟨a_HallError,a_BadPlan,a_NoSwitch,a_NoLine,a_NotSo,a_Plan,a_Seekers,a_Switches,a_Group,a_Line,a_Hall,a_WAYS⟩):=fun C hC=>by
  have e:=List.mem_singleton.mp hC
  subst e
  exact ⟨_,_,⟨aao,iao,kao⟩,bao,Apy Fao T.toTxtS DD_check⟩
 have DS_free:=DD_free a_Seekers (List.mem_singleton.mpr rfl)
 have DD_stick:∀ C∈Adr.racks ⟨a_HallError,a_BadPlan,a_NoSwitch,a_NoLine,a_NotSo,a_Plan,a_Seekers,a_Switches,a_Group,a_Line,a_Hall,a_WAYS⟩,AaJ l.prog w K mg base (CXE l.prog w) 3 C "stick" ["self","k"] (AlF K ⟨a_HallError,a_BadPlan,a_NoSwitch,a_NoLine,a_NotSo,a_Plan,a_Seekers,a_Switches,a_Group,a_Line,a_Hall,a_WAYS⟩ true):=fun C hC=>by
  have e:=List.mem_singleton.mp hC
  subst e
  exact ⟨_,_,⟨aap,iap,kap⟩,bap,An9 Fap T.toTxtS DD_check⟩
 have DS_stick:=DD_stick a_Seekers (List.mem_singleton.mpr rfl)
 have DD_mend:∀ C∈Adr.racks ⟨a_HallError,a_BadPlan,a_NoSwitch,a_NoLine,a_NotSo,a_Plan,a_Seekers,a_Switches,a_Group,a_Line,a_Hall,a_WAYS⟩,AaJ l.prog w K mg base (CXE l.prog w) 3 C "mend" ["self","k"] (AlF K ⟨a_HallError,a_BadPlan,a_NoSwitch,a_NoLine,a_NotSo,a_Plan,a_Seekers,a_Switches,a_Group,a_Line,a_Hall,a_WAYS⟩ false):=fun C hC=>by
  have e:=List.mem_singleton.mp hC
  subst e
  exact ⟨_,_,⟨aaq,iaq,kaq⟩,baq,Apx Faq T.toTxtS DD_check⟩
 have DS_mend:=DD_mend a_Seekers (List.mem_singleton.mpr rfl)
 have DD_holders:∀ C∈Adr.racks ⟨a_HallError,a_BadPlan,a_NoSwitch,a_NoLine,a_NotSo,a_Plan,a_Seekers,a_Switches,a_Group,a_Line,a_Hall,a_WAYS⟩,AaJ l.prog w K mg base CX0 1 C "holders" ["self"] (AhM K ⟨a_HallError,a_BadPlan,a_NoSwitch,a_NoLine,a_NotSo,a_Plan,a_Seekers,a_Switches,a_Group,a_Line,a_Hall,a_WAYS⟩):=fun C hC=>by
  have e:=List.mem_singleton.mp hC
  subst e
  exact ⟨_,_,⟨aas,ias,kas⟩,bas,AlG Fas T.toTxtS⟩
 have DS_holders:=DD_holders a_Seekers (List.mem_singleton.mpr rfl)
 have DD_shares:∀ C∈Adr.racks ⟨a_HallError,a_BadPlan,a_NoSwitch,a_NoLine,a_NotSo,a_Plan,a_Seekers,a_Switches,a_Group,a_Line,a_Hall,a_WAYS⟩,AaJ l.prog w K mg base CX0 1 C "shares" ["self"] (AiV K ⟨a_HallError,a_BadPlan,a_NoSwitch,a_NoLine,a_NotSo,a_Plan,a_Seekers,a_Switches,a_Group,a_Line,a_Hall,a_WAYS⟩):=fun C hC=>by
  have e:=List.mem_singleton.mp hC
  subst e
  exact ⟨_,_,⟨aau,iau,kau⟩,bau,Am2 Fau T.toTxtS⟩
 have DS_shares:=DD_shares a_Seekers (List.mem_singleton.mpr rfl)
 have DD_stuck:∀ C∈Adr.racks ⟨a_HallError,a_BadPlan,a_NoSwitch,a_NoLine,a_NotSo,a_Plan,a_Seekers,a_Switches,a_Group,a_Line,a_Hall,a_WAYS⟩,AaJ l.prog w K mg base CX0 1 C "stuck" ["self"] (Akq K ⟨a_HallError,a_BadPlan,a_NoSwitch,a_NoLine,a_NotSo,a_Plan,a_Seekers,a_Switches,a_Group,a_Line,a_Hall,a_WAYS⟩):=fun C hC=>by
  have e:=List.mem_singleton.mp hC
  subst e
  exact ⟨_,_,⟨aat,iat,kat⟩,bat,Aoc Fat T.toTxtS⟩
 have DS_stuck:=DD_stuck a_Seekers (List.mem_singleton.mpr rfl)
 have DD_hold:∀ C∈Adr.racks ⟨a_HallError,a_BadPlan,a_NoSwitch,a_NoLine,a_NotSo,a_Plan,a_Seekers,a_Switches,a_Group,a_Line,a_Hall,a_WAYS⟩,AaJ l.prog w K mg base CX0 1 C "hold" ["self","k","who"] (Am0 K ⟨a_HallError,a_BadPlan,a_NoSwitch,a_NoLine,a_NotSo,a_Plan,a_Seekers,a_Switches,a_Group,a_Line,a_Hall,a_WAYS⟩):=fun C hC=>by
  have e:=List.mem_singleton.mp hC
  subst e
  exact ⟨_,_,⟨aan,ian,kan⟩,ban,Apw Fan T.toTxtS⟩
 have DS_hold:=DD_hold a_Seekers (List.mem_singleton.mpr rfl)
 have DD_first_free:∀ C∈Adr.racks ⟨a_HallError,a_BadPlan,a_NoSwitch,a_NoLine,a_NotSo,a_Plan,a_Seekers,a_Switches,a_Group,a_Line,a_Hall,a_WAYS⟩,AaJ l.prog w K mg base CX0 1 C "first_free" ["self","start"] (Akp K ⟨a_HallError,a_BadPlan,a_NoSwitch,a_NoLine,a_NotSo,a_Plan,a_Seekers,a_Switches,a_Group,a_Line,a_Hall,a_WAYS⟩):=fun C hC=>by
  have e:=List.mem_singleton.mp hC
  subst e
  exact ⟨_,_,⟨aam,iam,kam⟩,bam,Aoa Fam T.toTxtS⟩
 have DS_first_free:=DD_first_free a_Seekers (List.mem_singleton.mpr rfl)
 have DD_take:∀ C∈Adr.racks ⟨a_HallError,a_BadPlan,a_NoSwitch,a_NoLine,a_NotSo,a_Plan,a_Seekers,a_Switches,a_Group,a_Line,a_Hall,a_WAYS⟩,AaJ l.prog w K mg base CX0 2 C "take" ["self","place"] (Akt K ⟨a_HallError,a_BadPlan,a_NoSwitch,a_NoLine,a_NotSo,a_Plan,a_Seekers,a_Switches,a_Group,a_Line,a_Hall,a_WAYS⟩):=fun C hC=>by
  have e:=List.mem_singleton.mp hC
  subst e
  exact ⟨_,_,⟨aaw,iaw,kaw⟩,baw,Aof Faw T.toTxtK DD_first_free DD_hold⟩
 have DS_take:=DD_take a_Seekers (List.mem_singleton.mpr rfl)
 have DD_steps:∀ C∈Adr.racks ⟨a_HallError,a_BadPlan,a_NoSwitch,a_NoLine,a_NotSo,a_Plan,a_Seekers,a_Switches,a_Group,a_Line,a_Hall,a_WAYS⟩,AaJ l.prog w K mg base CX0 1 C "steps" ["self"] (Aks K ⟨a_HallError,a_BadPlan,a_NoSwitch,a_NoLine,a_NotSo,a_Plan,a_Seekers,a_Switches,a_Group,a_Line,a_Hall,a_WAYS⟩):=fun C hC=>by
  have e:=List.mem_singleton.mp hC
  subst e
  exact ⟨_,_,⟨aax,iax,kax⟩,bax,Aod Fax T.toTxtK⟩
 have DS_steps:=DD_steps a_Seekers (List.mem_singleton.mpr rfl)
 have MS:Amo l.prog w K mg base CX0 2 a_Seekers "Seekers" ["self","many","places"] (Akr K ⟨a_HallError,a_BadPlan,a_NoSwitch,a_NoLine,a_NotSo,a_Plan,a_Seekers,a_Switches,a_Group,a_Line,a_Hall,a_WAYS⟩):=⟨_,_,PySem.W.mg_of X G g_Seekers,⟨mk_Seekers,aav,iav,kc_Seekers⟩,bav,Aoe Fav T.toTxtK ⟨rdS,spS,fdS,tyS,kbt⟩ (Am3 Fbt T.toTxtS) bbt⟩
 have MG:Amo l.prog w K mg base CX0 2 a_Group "Group" ["self","many"] (Ak6 K ⟨a_HallError,a_BadPlan,a_NoSwitch,a_NoLine,a_NotSo,a_Plan,a_Seekers,a_Switches,a_Group,a_Line,a_Hall,a_WAYS⟩):=⟨_,_,PySem.W.mg_of X G g_Group,⟨mk_Group,aG,ibt,kc_Group⟩,bbt,(Am3 Fbt T.toTxtS).mono (by decide)⟩
 have DL_turn:AaJ l.prog w K mg base CX0 1 a_Line "turn" ["self","state"] (Aiq ⟨a_HallError,a_BadPlan,a_NoSwitch,a_NoLine,a_NotSo,a_Plan,a_Seekers,a_Switches,a_Group,a_Line,a_Hall,a_WAYS⟩):=⟨_,_,⟨aaz,iaz,kaz⟩,baz,ApD Faz T.lc⟩
 have ML:Amo l.prog w K mg base CX0 2 a_Line "Line" ["self","number","place"] (Akw ⟨a_HallError,a_BadPlan,a_NoSwitch,a_NoLine,a_NotSo,a_Plan,a_Seekers,a_Switches,a_Group,a_Line,a_Hall,a_WAYS⟩):=⟨_,_,PySem.W.mg_of X G g_Line,⟨mk_Line,aay,iay,kc_Line⟩,bay,Aoi Fay T.lc DL_turn⟩
 have MP:Amo l.prog w K mg base (CXE l.prog w) 3 a_Plan "Plan" ["self","long","lines","seekers","groups"] (Akv ⟨a_HallError,a_BadPlan,a_NoSwitch,a_NoLine,a_NotSo,a_Plan,a_Seekers,a_Switches,a_Group,a_Line,a_Hall,a_WAYS⟩ K):=⟨_,_,PySem.W.mg_of X G g_Plan,⟨mk_Plan,abs,ibs,kc_Plan⟩,bbs,Aoh Fbs T.toTxtP D_check_counts D_check_lines D_check_groups⟩
 have DH_line_of:AaJ l.prog w K mg base (CXE l.prog w) 1 a_Hall "line_of" ["self","number"] (AiZ K ⟨a_HallError,a_BadPlan,a_NoSwitch,a_NoLine,a_NotSo,a_Plan,a_Seekers,a_Switches,a_Group,a_Line,a_Hall,a_WAYS⟩):=⟨_,_,⟨abm,ibm,kbm⟩,bbm,Am7 Fbm T.toTxtH⟩
 have DH_switches_of:AaJ l.prog w K mg base (CXE l.prog w) 1 a_Hall "switches_of" ["self","where"] (AjI K ⟨a_HallError,a_BadPlan,a_NoSwitch,a_NoLine,a_NotSo,a_Plan,a_Seekers,a_Switches,a_Group,a_Line,a_Hall,a_WAYS⟩):=⟨_,_,⟨abn,ibn,kbn⟩,bbn,ApE Fbn T.toTxtH⟩
 have DH_wait:AaJ l.prog w K mg base CX0 2 a_Hall "wait" ["self","line"] (Am6 K ⟨a_HallError,a_BadPlan,a_NoSwitch,a_NoLine,a_NotSo,a_Plan,a_Seekers,a_Switches,a_Group,a_Line,a_Hall,a_WAYS⟩):=⟨_,_,⟨abj,ibj,kbj⟩,bbj,ApF Fbj T.toTxtH DL_turn⟩
 have DH_release:AaJ l.prog w K mg base (CXE l.prog w) 4 a_Hall "release" ["self","line"] (AhV K ⟨a_HallError,a_BadPlan,a_NoSwitch,a_NoLine,a_NotSo,a_Plan,a_Seekers,a_Switches,a_Group,a_Line,a_Hall,a_WAYS⟩):=⟨_,_,⟨abk,ibk,kbk⟩,bbk,AlJ Fbk T.toTxtH DS_free⟩
 have DH_lift:AaJ l.prog w K mg base CX0 3 a_Hall "lift" ["self","line"] (Am9 K ⟨a_HallError,a_BadPlan,a_NoSwitch,a_NoLine,a_NotSo,a_Plan,a_Seekers,a_Switches,a_Group,a_Line,a_Hall,a_WAYS⟩):=⟨_,_,⟨abe,ibe,kbe⟩,bbe,ok_lift Fbe T.toTxtH DH_wait⟩
 have DH_left_alone:AaJ l.prog w K mg base (CXE l.prog w) 4 a_Hall "left_alone" ["self","other"] Agf:=⟨_,_,⟨abi,ibi,kbi⟩,bbi,Ai7⟩
 have DH_pulse:AaJ l.prog w K mg base (CXE l.prog w) 5 a_Hall "pulse" ["self","line"] Agf:=⟨_,_,⟨abf,ibf,kbf⟩,bbf,Ai7⟩
 have DH_gap:AaJ l.prog w K mg base (CXE l.prog w) 5 a_Hall "gap" ["self","line"] Agf:=⟨_,_,⟨abg,ibg,kbg⟩,bbg,Ai7⟩
 have DH_hang:AaJ l.prog w K mg base (CXE l.prog w) 5 a_Hall "hang" ["self","line"] (Am8 K ⟨a_HallError,a_BadPlan,a_NoSwitch,a_NoLine,a_NotSo,a_Plan,a_Seekers,a_Switches,a_Group,a_Line,a_Hall,a_WAYS⟩):=⟨_,_,⟨abh,ibh,kbh⟩,bbh,ok_hang Fbh T.toTxtH DL_turn DH_release DH_left_alone⟩
 have DH_tones:AaJ l.prog w K mg base CX0 3 a_Hall "tones" ["self"] (Akz K ⟨a_HallError,a_BadPlan,a_NoSwitch,a_NoLine,a_NotSo,a_Plan,a_Seekers,a_Switches,a_Group,a_Line,a_Hall,a_WAYS⟩):=⟨_,_,⟨abl,ibl,kbl⟩,bbl,Aoj Fbl T.toTxtH DL_turn DS_take⟩
 have DH_at_switch:AaJ l.prog w K mg base (CXE l.prog w) 4 a_Hall "at_switch" ["self","word","where","k"] (Anb K ⟨a_HallError,a_BadPlan,a_NoSwitch,a_NoLine,a_NotSo,a_Plan,a_Seekers,a_Switches,a_Group,a_Line,a_Hall,a_WAYS⟩):=⟨_,_,⟨abc,ibc,kbc⟩,bbc,ApG Fbc T.toTxtH DH_switches_of DS_stick DS_mend⟩
 have DH_at_line:AaJ l.prog w K mg base (CXE l.prog w) 6 a_Hall "at_line" ["self","word","number"] (ApH K ⟨a_HallError,a_BadPlan,a_NoSwitch,a_NoLine,a_NotSo,a_Plan,a_Seekers,a_Switches,a_Group,a_Line,a_Hall,a_WAYS⟩):=⟨_,_,⟨abd,ibd,kbd⟩,bbd,ApI Fbd T.toTxtH DH_line_of DH_lift DH_hang DH_pulse DH_gap⟩
 have DH_do:AaJ l.prog w K mg base (CXE l.prog w) 7 a_Hall "do" ["self","deed"] (Art K ⟨a_HallError,a_BadPlan,a_NoSwitch,a_NoLine,a_NotSo,a_Plan,a_Seekers,a_Switches,a_Group,a_Line,a_Hall,a_WAYS⟩):=⟨_,_,⟨abb,ibb,kbb⟩,bbb,Aru Fbb T.toTxtH DH_at_switch DH_at_line DH_tones⟩
 have DH_shares:AaJ l.prog w K mg base (CXE l.prog w) 2 a_Hall "shares" ["self","where"] (AhX K ⟨a_HallError,a_BadPlan,a_NoSwitch,a_NoLine,a_NotSo,a_Plan,a_Seekers,a_Switches,a_Group,a_Line,a_Hall,a_WAYS⟩):=⟨_,_,⟨abp,ibp,kbp⟩,bbp,AlK Fbp T.toTxtH DH_switches_of DS_shares⟩
 have DH_waiting:AaJ l.prog w K mg base CX0 1 a_Hall "waiting" ["self"] (AgS K ⟨a_HallError,a_BadPlan,a_NoSwitch,a_NoLine,a_NotSo,a_Plan,a_Seekers,a_Switches,a_Group,a_Line,a_Hall,a_WAYS⟩):=⟨_,_,⟨abq,ibq,kbq⟩,bbq,AkD Fbq T.toTxtH⟩
 have DH_steps:AaJ l.prog w K mg base CX0 2 a_Hall "steps" ["self"] (Ai0 K ⟨a_HallError,a_BadPlan,a_NoSwitch,a_NoLine,a_NotSo,a_Plan,a_Seekers,a_Switches,a_Group,a_Line,a_Hall,a_WAYS⟩):=⟨_,_,⟨abr,ibr,kbr⟩,bbr,Ane Fbr T.toTxtH DS_steps⟩
 have DH_paper:AaJ l.prog w K mg base (CXE l.prog w) 2 a_Hall "paper" ["self","where"] (AkC K ⟨a_HallError,a_BadPlan,a_NoSwitch,a_NoLine,a_NotSo,a_Plan,a_Seekers,a_Switches,a_Group,a_Line,a_Hall,a_WAYS⟩):=⟨_,_,⟨abo,ibo,kbo⟩,bbo,Anf Fbo T.toTxtH DH_switches_of DS_holders DS_stuck D_paper_of⟩
 have MH:Amo l.prog w K mg base CX0 4 a_Hall "Hall" ["self","plan"] (AkA K ⟨a_HallError,a_BadPlan,a_NoSwitch,a_NoLine,a_NotSo,a_Plan,a_Seekers,a_Switches,a_Group,a_Line,a_Hall,a_WAYS⟩):=⟨_,_,PySem.W.mg_of X G g_Hall,⟨mk_Hall,aba,iba,kc_Hall⟩,bba,Aol Fba T.toTxtH ML MG MS⟩
 have D_law_order:AgG l.prog w K mg base CX0 1 "_law_order" ["draws","many"] AkE:=⟨_,_,mai,kai,bai,Aom Fai T.toTxtH⟩
 have D_law_toned:AgG l.prog w K mg base CX0 1 "_law_toned" ["state"] AkH:=⟨_,_,maj,kaj,baj,Aoo Faj T.toTxtH⟩
 have D_law_done:AgG l.prog w K mg base CX0 8 "_law_done" ["hall","state","deed"] (Anl K ⟨a_HallError,a_BadPlan,a_NoSwitch,a_NoLine,a_NotSo,a_Plan,a_Seekers,a_Switches,a_Group,a_Line,a_Hall,a_WAYS⟩):=⟨_,_,mak,kak,bak,ApJ Fak T.toTxtH DH_do D_law_toned DH_waiting DH_paper DH_shares DH_steps⟩
 exact AqJ Fal T D_law_draws D_law_order D_law_done MH MP pc
theorem walk {l:PySem.W.OpenLaw} {q:Program} {loose:List Str} {XP:(Str→Option Value)→Heap→Prop} {YP:World→Heap→Prop} {d:DefRec} {K:Params→PySem.W.Frag} (hn:l.most=some 63) (hdf:d.params.defaults=[])
  (hY:∀ (w:World) (h:Heap),YP w h→(K w.params).In h)
  (F:∀ (w:World) (mg:Str→Option Value) (fa:Addr) (h:Heap),(K w.params).In h→h.Ns mainGlobals mg→mg d.name=some (.ref fa) →
   ∃ fd:FuncData,(∀ (s:Shared) (u:Value),BindsTo s fd ⟨[u],[]⟩ [("script",u)])∧∀ base:Heap,(K w.params).In base→base.Ns mainGlobals mg→Aco l.prog w (K w.params) mg base CX0 9 fa fd ["script"] (Aow (K w.params))) :
  PySem.W.WalkO q loose XP YP l.row.toRowW d [] (fun f vs=>PySem.call f vs) :=
 L2.walk_of (n:=63) (k:=9) (x:="script") (CX:=fun _=>CX0) (sp:=fun w=>Aow (K w.params)) hn (by decide) hdf ⟨rfl,by decide,by decide⟩ hY F (fun _ _ a ns hl _ hS=>⟨a,ns,rfl,hS,hl,fun _=>rfl⟩) fun _ _ _ _ _ z=>z
end Lw
def PySem.W.Fast.tw18221616075312145440 : Nat := 0
def PySem.W.Fast.tw552257461981048615 : Nat := 0
def PySem.W.Fast.tw8369287199359452028 : Nat := 0
def PySem.W.Fast.tw6801385111535960854 : Nat := 0
def PySem.W.Fast.tw8161568735679361260 : Nat := 0
def PySem.W.Fast.tw7067270800549766664 : Nat := 0
def PySem.W.Fast.tw7167526999255577036 : Nat := 0
def PySem.W.Fast.tw1064667143638386818 : Nat := 0
def PySem.W.Fast.tw18227209851582002116 : Nat := 0
def PySem.W.Fast.tw7617264720568896483 : Nat := 0
def PySem.W.Fast.tw14492041601295073623 : Nat := 0
def PySem.W.Fast.tw15181910712085963854 : Nat := 0
def PySem.W.Fast.tw17784809310184351817 : Nat := 0
def PySem.W.Fast.tw11667003930325378652 : Nat := 0
def PySem.W.Fast.tw13465782997953537602 : Nat := 0
def PySem.W.Fast.tw4767533676710693160 : Nat := 0
def PySem.W.Fast.tw14647637559478633721 : Nat := 0
def PySem.W.Fast.tw14144797709477029154 : Nat := 0
def PySem.W.Fast.tw10623120526543721780 : Nat := 0
def PySem.W.Fast.tw2672547172184326 : Nat := 0
def PySem.W.Fast.tw6220799545009772147 : Nat := 0
def PySem.W.Fast.tw9561527666499246226 : Nat := 0
def PySem.W.Fast.tw17249528670555664948 : Nat := 0
def PySem.W.Fast.tw1788520722367852087 : Nat := 0
def PySem.W.Fast.tw12808026671965176946 : Nat := 0
def PySem.W.Fast.tw7478954723523363688 : Nat := 0
def PySem.W.Fast.tw10556854120119693349 : Nat := 0
def PySem.W.Fast.tw13781809412537117768 : Nat := 0
def PySem.W.Fast.tw18285517841363806071 : Nat := 0
def PySem.W.Fast.tw5250639082448031438 : Nat := 0
def PySem.W.Fast.tw10222698941227511325 : Nat := 0
def PySem.W.Fast.tw17317830222549425926 : Nat := 0
def PySem.W.Fast.tw18237536230946110338 : Nat := 0
def PySem.W.Fast.tw4562742639060062504 : Nat := 0
def PySem.W.Fast.tw5011881892381886221 : Nat := 0
def PySem.W.Fast.tw12262794194400091978 : Nat := 0
def PySem.W.Fast.tw12043084768099709777 : Nat := 0
def PySem.W.Fast.tw6983780271987187940 : Nat := 0
def PySem.W.Fast.tw306857467615828059 : Nat := 0
def PySem.W.Fast.tw2694585115111594039 : Nat := 0
def PySem.W.Fast.tw12849321351770130189 : Nat := 0
def PySem.W.Fast.tw15864435391030542647 : Nat := 0
def PySem.W.Fast.tw18023946598691324168 : Nat := 0
def PySem.W.Fast.tw301847193286689118 : Nat := 0
def PySem.W.Fast.tw9102471458137859780 : Nat := 0
def PySem.W.Fast.tw14309935064131556444 : Nat := 0
def PySem.W.Fast.tw16959783886671596435 : Nat := 0
def PySem.W.Fast.tw15115285743582606850 : Nat := 0
open PySem PySem.W PyProof.Rows
set_option maxRecDepth 100000 in
set_option maxHeartbeats 0 in
theorem PySem.Challenge.cw_stephall_k36_whole_all_stuck_and_mended_holds : PySem.Challenge.rw_stephall_k36_whole_all_stuck_and_mended.Holds := by
 w_on; o_law; k_head; (case hw=>w_witness2)
 k_fill
 refine Lw.walk (l:=PySem.Challenge.rw_stephall_k36_whole_all_stuck_and_mended) rfl rfl (fun w h Y=>PySem.W.kIn_of Y) ?F
 case F =>
  intro w mg fa h KX G hmg
  refine' Lw.all_mk KX G hmg ?g_HallError ?g_BadPlan ?g_NoSwitch ?g_NoLine ?g_NotSo ?g_Plan ?g_Seekers ?g_Switches ?g_Group ?g_Line ?g_Hall ?g_WAYS ?v_SIGNS ?v_LEAST_LONG ?v_MOST_LONG ?v_MOST_LINES ?v_MOST_SEEKERS ?v_MOST_GROUPS ?v_MOST_SWITCHES ?v_AT_SEEKERS ?aaa ?laa ?caa ?kaa ?aab ?lab ?cab ?kab ?aac ?lac ?cac ?kac ?aad ?lad ?cad ?kad ?aae ?lae ?cae ?kae ?aaf ?laf ?caf ?kaf ?aag ?lag ?cag ?kag ?aah ?lah ?cah ?kah ?aai ?lai ?cai ?kai ?aaj ?laj ?caj ?kaj ?aak ?lak ?cak ?kak ?aal ?lal ?cal ?kal ?aam ?iam ?lam ?cam ?kam ?aan ?ian ?lan ?can ?kan ?aao ?iao ?lao ?cao ?kao ?aap ?iap ?lap ?cap ?kap ?aaq ?iaq ?laq ?caq ?kaq ?aar ?iar ?lar ?car ?kar ?aas ?ias ?las ?cas ?kas ?aat ?iat ?lat ?cat ?kat ?aau ?iau ?lau ?cau ?kau ?aav ?iav ?lav ?cav ?kav ?aaw ?iaw ?law ?caw ?kaw ?aax ?iax ?lax ?cax ?kax ?aay ?iay ?lay ?cay ?kay ?aaz ?iaz ?laz ?caz ?kaz ?aba ?iba ?lba ?cba ?kba ?abb ?ibb ?lbb ?cbb ?kbb ?abc ?ibc ?lbc ?cbc ?kbc ?abd ?ibd ?lbd ?cbd ?kbd ?abe ?ibe ?lbe ?cbe ?kbe ?abf ?ibf ?lbf ?cbf ?kbf ?abg ?ibg ?lbg ?cbg ?kbg ?abh ?ibh ?lbh ?cbh ?kbh ?abi ?ibi ?lbi ?cbi ?kbi ?abj ?ibj ?lbj ?cbj ?kbj ?abk ?ibk ?lbk ?cbk ?kbk ?abl ?ibl ?lbl ?cbl ?kbl ?abm ?ibm ?lbm ?cbm ?kbm ?abn ?ibn ?lbn ?cbn ?kbn ?abo ?ibo ?lbo ?cbo ?kbo ?abp ?ibp ?lbp ?cbp ?kbp ?abq ?ibq ?lbq ?cbq ?kbq ?abr ?ibr ?lbr ?cbr ?kbr ?abs ?ibs ?lbs ?cbs ?kbs ?rdS ?spS ?fdS ?tyS ?abt ?ibt ?lbt ?cbt ?kbt ?aG ?mk_Seekers ?kc_Seekers ?mk_Line ?kc_Line ?mk_Hall ?kc_Hall ?mk_Plan ?kc_Plan ?mk_Group ?kc_Group ?pg_Seekers ?hd_Seekers ?po_Seekers ?sa_Seekers ?no_Seekers_held_by ?no_Seekers_jammed ?no_Seekers_taken ?no_Seekers_places ?no_Seekers_stands ?no_Seekers_went ?no_Seekers_mark_at ?pg_Line ?hd_Line ?po_Line ?sa_Line ?no_Line_number ?no_Line_place ?no_Line_held ?no_Line_state ?no_Line_dialled_so_far ?no_Line_pulses ?no_Line_far_end ?no_Line_why ?pg_Hall ?hd_Hall ?po_Hall ?sa_Hall ?no_Hall_long ?no_Hall_lines ?no_Hall_switches ?no_Hall_queue ?no_Hall_done ?pg_Plan ?hd_Plan ?po_Plan ?sa_Plan ?no_Plan_long ?no_Plan_lines ?no_Plan_seekers ?no_Plan_groups ?xN_BadPlan ?xN_NoSwitch ?xN_NoLine ?xN_NotSo ?lW ?oW ?vW ?lT1 ?zT1 ?vT1 ?lT4 ?zT4 ?vT4 ?z_len ?z_isinstance ?z_bool ?z_int ?z_range ?z_all ?z_list ?z_enumerate ?z_tuple ?z_sorted ?z_set ?z_min ?z_str
  (case g_HallError=>k_is)
  (case g_BadPlan=>k_is)
  (case g_NoSwitch=>k_is)
  (case g_NoLine=>k_is)
  (case g_NotSo=>k_is)
  (case g_Plan=>k_is)
  (case g_Seekers=>k_is)
  (case g_Switches=>k_is)
  (case g_Group=>k_is)
  (case g_Line=>k_is)
  (case g_Hall=>k_is)
  (case g_WAYS=>k_is)
  (case v_SIGNS=>k_is)
  (case v_LEAST_LONG=>k_is)
  (case v_MOST_LONG=>k_is)
  (case v_MOST_LINES=>k_is)
  (case v_MOST_SEEKERS=>k_is)
  (case v_MOST_GROUPS=>k_is)
  (case v_MOST_SWITCHES=>k_is)
  (case v_AT_SEEKERS=>k_is)
  (case aaa=>k_is)
  (case laa=>k_is)
  (case caa=>k_is)
  (case kaa=>k_is)
  (case aab=>k_is)
  (case lab=>k_is)
  (case cab=>k_is)
  (case kab=>k_is)
  (case aac=>k_is)
  (case lac=>k_is)
  (case cac=>k_is)
  (case kac=>k_is)
  (case aad=>k_is)
  (case lad=>k_is)
  (case cad=>k_is)
  (case kad=>k_is)
  (case aae=>k_is)
  (case lae=>k_is)
  (case cae=>k_is)
  (case kae=>k_is)
  (case aaf=>k_is)
  (case laf=>k_is)
  (case caf=>k_is)
  (case kaf=>k_is)
  (case aag=>k_is)
  (case lag=>k_is)
  (case cag=>k_is)
  (case kag=>k_is)
  (case aah=>k_is)
  (case lah=>k_is)
  (case cah=>k_is)
  (case kah=>k_is)
  (case aai=>k_is)
  (case lai=>k_is)
  (case cai=>k_is)
  (case kai=>k_is)
  (case aaj=>k_is)
  (case laj=>k_is)
  (case caj=>k_is)
  (case kaj=>k_is)
  (case aak=>k_is)
  (case lak=>k_is)
  (case cak=>k_is)
  (case kak=>k_is)
  (case aal=>k_is)
  (case lal=>k_is)
  (case cal=>k_is)
  (case kal=>k_is)
  (case aam=>k_is)
  (case iam=>k_is)
  (case lam=>k_is)
  (case cam=>k_is)
  (case kam=>k_is)
  (case aan=>k_is)
  (case ian=>k_is)
  (case lan=>k_is)
  (case can=>k_is)
  (case kan=>k_is)
  (case aao=>k_is)
  (case iao=>k_is)
  (case lao=>k_is)
  (case cao=>k_is)
  (case kao=>k_is)
  (case aap=>k_is)
  (case iap=>k_is)
  (case lap=>k_is)
  (case cap=>k_is)
  (case kap=>k_is)
  (case aaq=>k_is)
  (case iaq=>k_is)
  (case laq=>k_is)
  (case caq=>k_is)
  (case kaq=>k_is)
  (case aar=>k_is)
  (case iar=>k_is)
  (case lar=>k_is)
  (case car=>k_is)
  (case kar=>k_is)
  (case aas=>k_is)
  (case ias=>k_is)
  (case las=>k_is)
  (case cas=>k_is)
  (case kas=>k_is)
  (case aat=>k_is)
  (case iat=>k_is)
  (case lat=>k_is)
  (case cat=>k_is)
  (case kat=>k_is)
  (case aau=>k_is)
  (case iau=>k_is)
  (case lau=>k_is)
  (case cau=>k_is)
  (case kau=>k_is)
  (case aav=>k_is)
  (case iav=>k_is)
  (case lav=>k_is)
  (case cav=>k_is)
  (case kav=>k_is)
  (case aaw=>k_is)
  (case iaw=>k_is)
  (case law=>k_is)
  (case caw=>k_is)
  (case kaw=>k_is)
  (case aax=>k_is)
  (case iax=>k_is)
  (case lax=>k_is)
  (case cax=>k_is)
  (case kax=>k_is)
  (case aay=>k_is)
  (case iay=>k_is)
  (case lay=>k_is)
  (case cay=>k_is)
  (case kay=>k_is)
  (case aaz=>k_is)
  (case iaz=>k_is)
  (case laz=>k_is)
  (case caz=>k_is)
  (case kaz=>k_is)
  (case aba=>k_is)
  (case iba=>k_is)
  (case lba=>k_is)
  (case cba=>k_is)
  (case kba=>k_is)
  (case abb=>k_is)
  (case ibb=>k_is)
  (case lbb=>k_is)
  (case cbb=>k_is)
  (case kbb=>k_is)
  (case abc=>k_is)
  (case ibc=>k_is)
  (case lbc=>k_is)
  (case cbc=>k_is)
  (case kbc=>k_is)
  (case abd=>k_is)
  (case ibd=>k_is)
  (case lbd=>k_is)
  (case cbd=>k_is)
  (case kbd=>k_is)
  (case abe=>k_is)
  (case ibe=>k_is)
  (case lbe=>k_is)
  (case cbe=>k_is)
  (case kbe=>k_is)
  (case abf=>k_is)
  (case ibf=>k_is)
  (case lbf=>k_is)
  (case cbf=>k_is)
  (case kbf=>k_is)
  (case abg=>k_is)
  (case ibg=>k_is)
  (case lbg=>k_is)
  (case cbg=>k_is)
  (case kbg=>k_is)
  (case abh=>k_is)
  (case ibh=>k_is)
  (case lbh=>k_is)
  (case cbh=>k_is)
  (case kbh=>k_is)
  (case abi=>k_is)
  (case ibi=>k_is)
  (case lbi=>k_is)
  (case cbi=>k_is)
  (case kbi=>k_is)
  (case abj=>k_is)
  (case ibj=>k_is)
  (case lbj=>k_is)
  (case cbj=>k_is)
  (case kbj=>k_is)
  (case abk=>k_is)
  (case ibk=>k_is)
  (case lbk=>k_is)
  (case cbk=>k_is)
  (case kbk=>k_is)
  (case abl=>k_is)
  (case ibl=>k_is)
  (case lbl=>k_is)
  (case cbl=>k_is)
  (case kbl=>k_is)
  (case abm=>k_is)
  (case ibm=>k_is)
  (case lbm=>k_is)
  (case cbm=>k_is)
  (case kbm=>k_is)
  (case abn=>k_is)
  (case ibn=>k_is)
  (case lbn=>k_is)
  (case cbn=>k_is)
  (case kbn=>k_is)
  (case abo=>k_is)
  (case ibo=>k_is)
  (case lbo=>k_is)
  (case cbo=>k_is)
  (case kbo=>k_is)
  (case abp=>k_is)
  (case ibp=>k_is)
  (case lbp=>k_is)
  (case cbp=>k_is)
  (case kbp=>k_is)
  (case abq=>k_is)
  (case ibq=>k_is)
  (case lbq=>k_is)
  (case cbq=>k_is)
  (case kbq=>k_is)
  (case abr=>k_is)
  (case ibr=>k_is)
  (case lbr=>k_is)
  (case cbr=>k_is)
  (case kbr=>k_is)
  (case abs=>k_is)
  (case ibs=>k_is)
  (case lbs=>k_is)
  (case cbs=>k_is)
  (case kbs=>k_is)
  (case rdS=>k_is)
  (case spS=>k_is)
  (case fdS=>k_is)
  (case tyS=>k_is)
  (case abt=>k_is)
  (case ibt=>k_is)
  (case lbt=>k_is)
  (case cbt=>k_is)
  (case kbt=>k_is)
  (case aG=>k_is)
  (case mk_Seekers=>k_is)
  (case kc_Seekers=>k_is)
  (case mk_Line=>k_is)
  (case kc_Line=>k_is)
  (case mk_Hall=>k_is)
  (case kc_Hall=>k_is)
  (case mk_Plan=>k_is)
  (case kc_Plan=>k_is)
  (case mk_Group=>k_is)
  (case kc_Group=>k_is)
  (case pg_Seekers=>k_is)
  (case hd_Seekers=>k_is)
  (case po_Seekers=>k_is)
  (case sa_Seekers=>k_is)
  (case no_Seekers_held_by=>k_is)
  (case no_Seekers_jammed=>k_is)
  (case no_Seekers_taken=>k_is)
  (case no_Seekers_places=>k_is)
  (case no_Seekers_stands=>k_is)
  (case no_Seekers_went=>k_is)
  (case no_Seekers_mark_at=>k_is)
  (case pg_Line=>k_is)
  (case hd_Line=>k_is)
  (case po_Line=>k_is)
  (case sa_Line=>k_is)
  (case no_Line_number=>k_is)
  (case no_Line_place=>k_is)
  (case no_Line_held=>k_is)
  (case no_Line_state=>k_is)
  (case no_Line_dialled_so_far=>k_is)
  (case no_Line_pulses=>k_is)
  (case no_Line_far_end=>k_is)
  (case no_Line_why=>k_is)
  (case pg_Hall=>k_is)
  (case hd_Hall=>k_is)
  (case po_Hall=>k_is)
  (case sa_Hall=>k_is)
  (case no_Hall_long=>k_is)
  (case no_Hall_lines=>k_is)
  (case no_Hall_switches=>k_is)
  (case no_Hall_queue=>k_is)
  (case no_Hall_done=>k_is)
  (case pg_Plan=>k_is)
  (case hd_Plan=>k_is)
  (case po_Plan=>k_is)
  (case sa_Plan=>k_is)
  (case no_Plan_long=>k_is)
  (case no_Plan_lines=>k_is)
  (case no_Plan_seekers=>k_is)
  (case no_Plan_groups=>k_is)
  (case xN_BadPlan=>k_exc)
  (case xN_NoSwitch=>k_exc)
  (case xN_NoLine=>k_exc)
  (case xN_NotSo=>k_exc)
  (case lW=>k_is)
  (case oW=>rfl)
  (case vW=>exact ⟨⟨_,rfl⟩,rfl,rfl,⟨_,rfl⟩,rfl,rfl,⟨_,rfl⟩,rfl,rfl,⟨_,rfl⟩,rfl,rfl,trivial⟩)
  (case lT1=>k_is)
  (case zT1=>exact (by decide))
  (case vT1=>exact .cons ⟨_,rfl⟩ (.cons ⟨_,rfl⟩ .nil))
  (case lT4=>k_is)
  (case zT4=>exact (by decide))
  (case vT4=>exact .cons ⟨_,rfl⟩ (.cons ⟨_,rfl⟩ (.cons ⟨_,rfl⟩ (.cons ⟨_,rfl⟩ (.cons ⟨_,rfl⟩ .nil)))))
  (case z_len=>k_is)
  (case z_isinstance=>k_is)
  (case z_bool=>k_is)
  (case z_int=>k_is)
  (case z_range=>k_is)
  (case z_all=>k_is)
  (case z_list=>k_is)
  (case z_enumerate=>k_is)
  (case z_tuple=>k_is)
  (case z_sorted=>k_is)
  (case z_set=>k_is)
  (case z_min=>k_is)
  (case z_str=>k_is)
