import PyProof.Rows.All
import Wide.All
import OpenK.AllK
import Wide.FinOn
import PyProof.EqAt
import PyProof.EqKinds
import PyProof.TupleCall
import KE.BitLaws
import Open.SpecLaws
import KE.OsHead
import KE.OsGo
import PyProof.Rows.SortShellAny
import PyProof.Rows.Range3
import KE.KDictSum
import PySem.Challenge.RW_policyturn_s01_answers
set_option maxHeartbeats 4000000
set_option Elab.async false
set_option linter.all false
set_option maxRecDepth 100000
namespace L2
open PySem PySem.Spec PyProof.Rows
noncomputable abbrev Key:=Sum Int Str
noncomputable def LJ:Key → Value → Bool
 | .inl k,v=>Value.isInt k v
 | .inr x,v=>Value.isStrOf x v
noncomputable def apJ (w:World):Key → Int
 | .inl k=>hashInt k
 | .inr x=>hashStr w x
theorem iB:∀ {k:Key} {v:Value},LJ k v = true → (∃ i t,k = Sum.inl i ∧ v = Value.int i t) ∨ (∃ x t,k = Sum.inr x ∧ v = Value.str x t)
 | .inl i,v,h=>by
  obtain ⟨t,e⟩:=Value.isInt_shape (k:=i) (v:=v) h
  exact .inl ⟨i,t,rfl,e⟩
 | .inr x,v,h=>by
  obtain ⟨t,e⟩:=Value.isStrOf_shape (x:=x) (v:=v) h
  exact .inr ⟨x,t,rfl,e⟩
theorem aiH (i:Int) (t:Tok):LJ (.inl i) (.int i t) = true:=by simp [LJ,Value.isInt]
theorem aiG (x:Str) (t:Tok):LJ (.inr x) (.str x t) = true:=by simp [LJ,Value.isStrOf]
theorem anh (a b:Int):decide ((Sum.inl a:Key) = Sum.inl b) = (a == b):=by
 by_cases e:a = b
 ·subst e; simp
 ·have h:¬ (Sum.inl a:Key) = Sum.inl b:=fun q=>e (Sum.inl.inj q)
  rw [decide_eq_false h]
  exact (beq_eq_false_iff_ne.mpr e).symm
theorem ane (a b:Str):decide ((Sum.inr a:Key) = Sum.inr b) = decide (a = b):=by
 by_cases e:a = b
 ·subst e; simp
 ·have h:¬ (Sum.inr a:Key) = Sum.inr b:=fun q=>e (Sum.inr.inj q)
  rw [decide_eq_false h,decide_eq_false e]
theorem ang (a:Int) (b:Str):decide ((Sum.inl a:Key) = Sum.inr b) = false:=decide_eq_false (fun q=>nomatch q)
theorem anf (a:Str) (b:Int):decide ((Sum.inr a:Key) = Sum.inl b) = false:=decide_eq_false (fun q=>nomatch q)
noncomputable def fL (prog:Program) (w:World):PySem.KeyKind prog w Key where
 is:=LJ
 hash:=apJ w
 inj:=fun v a b ha hb=>by
  rcases iB ha with ⟨i,t,rfl,rfl⟩ | ⟨x,t,rfl,rfl⟩
  ·rcases iB hb with ⟨j,u,rfl,e⟩ | ⟨y,u,rfl,e⟩
   ·injection e with e1 _; rw [e1]
   ·exact nomatch e
  ·rcases iB hb with ⟨j,u,rfl,e⟩ | ⟨y,u,rfl,e⟩
   ·exact nomatch e
   ·injection e with e1 _; rw [e1]
 byValue:=fun k v h=>by
  rcases iB h with ⟨i,t,rfl,rfl⟩ | ⟨x,t,rfl,rfl⟩ <;> rfl
 pyHash:=fun hv h=>by
  rcases iB hv with ⟨i,t,rfl,rfl⟩ | ⟨x,t,rfl,rfl⟩
  ·exact wpAny_pyHash_int h
  ·exact wpAny_pyHash_str h
 eqBool:=fun hu hv h=>by
  rcases iB hu with ⟨i,t,rfl,rfl⟩ | ⟨x,t,rfl,rfl⟩
  ·rcases iB hv with ⟨j,u,rfl,rfl⟩ | ⟨y,u,rfl,rfl⟩
   ·rw [anh] at h; exact wpAny_eqBool_int h
   ·rw [ang] at h; exact SeqAt.EqAt.int_str i t y u _ _ _ _ h
  ·rcases iB hv with ⟨j,u,rfl,rfl⟩ | ⟨y,u,rfl,rfl⟩
   ·rw [anf] at h; exact SeqAt.EqAt.str_int x t j u _ _ _ _ h
   ·rw [ane] at h; exact wpAny_eqBool_str h
 «strs»:=fun k x t v h=>by
  rcases iB h with ⟨i,u,rfl,e⟩ | ⟨y,u,rfl,e⟩
  ·exact nomatch e
  ·injection e with e1 _
   subst e1
   cases v <;> rfl
theorem HG (prog:Program) (w:World) (i:Int) (t:Tok):(fL prog w).is (.inl i) (.int i t) = true:=aiH i t
theorem ae5 (prog:Program) (w:World) (x:Str) (t:Tok):(fL prog w).is (.inr x) (.str x t) = true:=aiG x t
end L2
namespace L2
open PySem PySem.Spec PyProof.Rows
inductive V where
 | bL | bl (b:Bool) | int (i:Int) | str (x:Str) | yN (b:Array UInt8) | flt (b:UInt64) | ref (a:Addr) | ty (n:String)
 deriving DecidableEq
noncomputable def RelV:V → Value → Prop
 | .bL,u=>u = Value.none
 | .bl b,u=>u = Value.bool b
 | .int i,u=>∃ t,u = Value.int i t
 | .str x,u=>∃ t,u = Value.str x t
 | .yN b,u=>∃ t,u = Value.bytes b t
 | .flt b,u=>∃ t,u = Value.float b t
 | .ref a,u=>u = Value.ref a
 | .ty n,u=>u = Value.type n
noncomputable abbrev Vals:List V → List Value → Prop:=Paired RelV
theorem Vals.length {xs:List V} {us:List Value} (r:Vals xs us):xs.length = us.length:=Paired.length r
theorem Vals.get:∀ {xs:List V} {us:List Value} {i:Nat} {x:V},Vals xs us → xs[i]? = some x → ∃ u,us[i]? = some u ∧ RelV x u
 | _,_,_,_,.nil,e=>by simp at e
 | _,_,0,_,.cons r _,e=>by simp at e; subst e; exact ⟨_,rfl,r⟩
 | _,_,i + 1,x,.cons _ t,e=>by
  obtain ⟨u,h1,h2⟩:=Vals.get (i:=i) (x:=x) t (by simpa using e)
  exact ⟨u,by simpa using h1,h2⟩
theorem Vals.set {x:V} {u:Value} (r:RelV x u):∀ {xs:List V} {us:List Value} (i:Nat),Vals xs us → Vals (xs.set i x) (us.set i u)
 | _,_,_,.nil=>.nil
 | _,_,0,.cons _ t=>.cons r t
 | _,_,i + 1,.cons q t=>.cons q (Vals.set r i t)
theorem Vals.append:∀ {xs ys:List V} {us ws:List Value},Vals xs us → Vals ys ws → Vals (xs ++ ys) (us ++ ws)
 | _,_,_,_,.nil,s=>s
 | _,_,_,_,.cons r t,s=>.cons r (Vals.append t s)
theorem Vals.take:∀ {xs:List V} {us:List Value} (n:Nat),Vals xs us → Vals (xs.take n) (us.take n)
 | _,_,0,_=>.nil
 | _,_,_ + 1,.nil=>.nil
 | _,_,n + 1,.cons r t=>.cons r (Vals.take n t)
theorem Vals.drop:∀ {xs:List V} {us:List Value} (n:Nat),Vals xs us → Vals (xs.drop n) (us.drop n)
 | _,_,0,r=>r
 | _,_,_ + 1,.nil=>.nil
 | _,_,n + 1,.cons _ t=>Vals.drop n t
noncomputable def rP:Option V → Option Value → Prop
 | some v,some u=>RelV v u
 | none,none=>True
 | _,_=>False
noncomputable def KV {κ:Type}:List (κ × V) → List (κ × Value) → Prop:=Paired fun (p:κ × V) (q:κ × Value)=>p.1 = q.1 ∧ RelV p.2 q.2
noncomputable def kV:Key → V
 | .inl i=>.int i
 | .inr x=>.str x
inductive HO where
 | lst (xs:List V)
 | tup (xs:List V)
 | dK (kvs:List (Key × V)) | dT (kvs:List (List Key × V))
 | set (S:Int → Bool) (n:Nat)
 | ins (C dx:Addr) (fs:List (Str × V))
 | own (x:Addr)
 | xd (fs:List (Str × V))
 | met (f x:Addr)
 | rng (lo hi:Int)
 | xA (o:Obj) (u:HO)
 | tbl (ps:Array Value)
 | ext (φ:Heap → Prop)
noncomputable abbrev Hp:=Addr → Option HO
noncomputable def upd (H:Hp) (a:Addr) (o:HO):Hp:=fun b=>if b = a then some o else H b
theorem ae {H:Hp} {a:Addr} {o:HO}:upd H a o a = some o:=by unfold upd; rw [if_pos rfl]
theorem ak {H:Hp} {a b:Addr} {o:HO} (h:b ≠ a):upd H a o b = H b:=by unfold upd; rw [if_neg h]
theorem dO {H:Hp} {a:Addr} {o u:HO}:upd (upd H a o) a u = upd H a u:=by
 funext b; unfold upd; split <;> rfl
theorem dN {H:Hp} {a b:Addr} {o u:HO} (h:H a = some o) (h':H b = some u) (d:o ≠ u):a ≠ b:=by
 intro e; subst e; rw [h] at h'; exact d (Option.some.inj h')
theorem ay {H:Hp} {a b:Addr} {o:HO} (h:H a = some o) (h':H b = none):a ≠ b:=by
 intro e; subst e; rw [h] at h'; cases h'
section
variable (P:Program) (w:World)
noncomputable def gK (H:Hp) (h:Heap) (a:Addr):HO → Prop
 | .lst xs=>xs.length ≤ sizeLine ∧ ∃ (aT:List Value) (n:Nat),Vals xs aT ∧ h.get? a = some { cls:=.type "list",data:=.seq aT.toArray n }
 | .tup xs=>xs.length ≤ sizeLine ∧ ∃ aT:List Value,Vals xs aT ∧ IsTup h a aT.toArray
 | .dK kvs=>kvs.length ≤ sizeLine ∧ (a == sysModules) = false ∧ ∃ vs,KV kvs vs ∧ h.DictOf (fL P w) a vs
 | .dT kvs=>kvs.length ≤ sizeLine ∧ (a == sysModules) = false ∧ ∃ xs:List (List Key × Addr × Value),
   Paired (fun (p:List Key × V) (q:List Key × Addr × Value)=>p.1 = q.1 ∧ H q.2.1 = some (.tup (p.1.map kV)) ∧ RelV p.2 q.2.2) kvs xs ∧
   ∃ o es ep,h.get? a = some o ∧ o.ExactDict ∧ o.data = .dict es ep ∧ es.toList = xs.map (entryOfKey (tupleKind (fL P w))) ∧ (xs.map (·.1)).Nodup
 | .set S n=>h.SetOf (intKind P w) a S n
 | .ins C dx fs=>H dx = some (.own a) ∧ fs.length ≤ 1000 ∧ dx ≠ a ∧ h.get? a = some (W.instObj C dx) ∧
   ∃ mA,h.Ns1 dx mA ∧ (∀ f,rP (fs.lookup f) (mA f)) ∧ PySem.Within mA (fs.map (·.1))
 | .own _=>∃ o,h.get? a = some o
 | .xd fs=>∃ mA,h.Ns1 a mA ∧ ∀ f,rP (fs.lookup f) (mA f)
 | .rng lo hi=>∃ t u v,h.get? a = some { cls:=.type "range",data:=.fields #[.int lo t,.int hi u,.int 1 v] }
 | .xA o u=>h.get? a = some o ∧ gK H h a u
 | .tbl ps=>h.get? a = some { cls:=.none,data:=.fields ps }
 | .met f x=>h.get? a = some (W.methodObj (.ref f) (.ref x))
 | .ext φ=>φ h ∧ (∃ o,h.get? a = some o) ∧ ∀ h1 h2:Heap,φ h1 → (∀ o,h1.get? a = some o → h2.get? a = some o) → φ h2
noncomputable def jC (H:Hp) (h:Heap):Prop:=∀ a o,H a = some o → gK P w H h a o
end
section
variable {P:Program} {w:World} {H H':Hp} {h h':Heap} {a:Addr} {o:HO}
theorem gK.lt (x:gK P w H h a o):a < h.objs.size:=by
 cases o with
 | lst xs=>obtain ⟨_,_,_,_,e⟩:=x; exact Heap.lt_size e
 | tup xs=>obtain ⟨_,_,_,p⟩:=x; exact p.lt
 | dK kvs=>obtain ⟨_,_,_,_,o,_,_,e,_⟩:=x; exact Heap.lt_size e
 | dT kvs=>obtain ⟨_,_,_,_,o,_,_,e,_⟩:=x; exact Heap.lt_size e
 | set S n=>obtain ⟨o,_,_,_,e,_⟩:=x; exact Heap.lt_size e
 | ins C dx fs=>obtain ⟨_,_,_,e,_⟩:=x; exact Heap.lt_size e
 | own y=>obtain ⟨_,e⟩:=x; exact Heap.lt_size e
 | xd fs=>obtain ⟨_,⟨_,_,_,e,_⟩,_⟩:=x; exact Heap.lt_size e
 | rng lo hi=>obtain ⟨_,_,_,e⟩:=x; exact Heap.lt_size e
 | xA ob u=>obtain ⟨e,_⟩:=x; exact Heap.lt_size e
 | tbl ps=>exact Heap.lt_size (show h.get? a = some _ from x)
 | met f y=>exact Heap.lt_size (show h.get? a = some _ from x)
 | ext φ=>obtain ⟨_,⟨_,e⟩,_⟩:=x; exact Heap.lt_size e
theorem Paired.aj3 {α β:Type} {F G:α → β → Prop}:∀ {l₁:List α} {l₂:List β},Paired F l₁ l₂ → (∀ a b,F a b → G a b) → Paired G l₁ l₂
 | _,_,.nil,_=>.nil
 | _,_,.cons r t,f=>.cons (f _ _ r) (Paired.aj3 t f)
theorem gK.Xk (x:gK P w H h a o) (k:∀ b u,(b = a ∨ H b = some (.own a)) → h.get? b = some u → h'.get? b = some u)
  (ho:∀ b,H b = some (.own a) → H' b = some (.own a)) (ht:∀ b xs,H b = some (.tup xs) → H' b = some (.tup xs)):gK P w H' h' a o:=by
 induction o with
 | lst xs=>obtain ⟨z,aT,n,r,e⟩:=x; exact ⟨z,aT,n,r,k _ _ (.inl rfl) e⟩
 | tup xs=>obtain ⟨z,aT,r,ob,e,c⟩:=x; exact ⟨z,aT,r,ob,k _ _ (.inl rfl) e,c⟩
 | dK kvs=>obtain ⟨z,y,vs,r,ob,es,ep,e,c⟩:=x; exact ⟨z,y,vs,r,ob,es,ep,k _ _ (.inl rfl) e,c⟩
 | dT kvs =>
  obtain ⟨z,y,xs,r,ob,es,ep,e,c⟩:=x
  exact ⟨z,y,xs,Paired.aj3 r fun p q z=>⟨z.1,ht _ _ z.2.1,z.2.2⟩,ob,es,ep,k _ _ (.inl rfl) e,c⟩
 | set S n=>obtain ⟨ob,es,ep,t,e,c⟩:=x; exact ⟨ob,es,ep,t,k _ _ (.inl rfl) e,c⟩
 | ins C dx fs =>
  obtain ⟨d,z,ne,e,mA,⟨od,es,ep,e2,c⟩,r⟩:=x
  exact ⟨ho _ d,z,ne,k _ _ (.inl rfl) e,mA,⟨od,es,ep,k _ _ (.inr d) e2,c⟩,r⟩
 | own y=>obtain ⟨ob,e⟩:=x; exact ⟨ob,k _ _ (.inl rfl) e⟩
 | xd fs=>obtain ⟨mA,⟨od,es,ep,e,c⟩,r⟩:=x; exact ⟨mA,⟨od,es,ep,k _ _ (.inl rfl) e,c⟩,r⟩
 | rng lo hi=>obtain ⟨t,u,v,e⟩:=x; exact ⟨t,u,v,k _ _ (.inl rfl) e⟩
 | xA ob u ih=>obtain ⟨e,q⟩:=x; exact ⟨k _ _ (.inl rfl) e,ih q⟩
 | tbl ps =>
  have e:h.get? a = some { cls:=.none,data:=.fields ps }:=x
  show h'.get? a = some { cls:=.none,data:=.fields ps }
  exact k a _ (.inl rfl) e
 | met f y =>
  have e:h.get? a = some (W.methodObj (.ref f) (.ref y)):=x
  show h'.get? a = some (W.methodObj (.ref f) (.ref y))
  exact k a _ (.inl rfl) e
 | ext φ=>obtain ⟨p,⟨o,e⟩,st⟩:=x; exact ⟨st _ _ p fun o q=>k _ _ (.inl rfl) q,⟨o,k _ _ (.inl rfl) e⟩,st⟩
theorem jC.lt (x:jC P w H h) (e:H a = some o):a < h.objs.size:=(x a o e).lt
theorem jC.fresh (x:jC P w H h) (e:h.objs.size ≤ a):H a = none:=by
 cases q:H a with
 | none=>rfl
 | some u=>exact absurd (Nat.lt_of_lt_of_le (x.lt q) e) (Nat.lt_irrefl _)
theorem jC.kept (x:jC P w H h) (k:∀ b u,h.get? b = some u → h'.get? b = some u):jC P w H h':=fun a o e =>
 (x a o e).Xk (fun b u _ q=>k b u q) (fun _ q=>q) fun _ _ q=>q
theorem jC.laid (x:jC P w H h) (k:∀ b u,h.get? b = some u → h'.get? b = some u) (hp:h.objs.size ≤ a) (new:gK P w (upd H a o) h' a o):jC P w (upd H a o) h':=fun b u e=>by
 have hn:=x.fresh hp
 by_cases hb:b = a
 ·subst hb; rw [ae] at e; cases e; exact new
 ·rw [ak hb] at e
  exact (x b u e).Xk (fun c v _ q=>k c v q) (fun c q=>by rw [ak (ay q hn)]; exact q) fun c xs q=>by rw [ak (ay q hn)]; exact q
end
noncomputable def Rd (H:Hp) (a:Addr) (u:HO):Prop:=H a = some u ∨ ∃ o,H a = some (.xA o u)
theorem Rd.ok {P:Program} {w:World} {H:Hp} {h:Heap} {a:Addr} {u:HO} (r:Rd H a u) (x:jC P w H h):gK P w H h a u:=by
 rcases r with r | ⟨o,r⟩
 ·exact x a u r
 ·obtain ⟨_,q⟩:=x a _ r
  exact q
noncomputable def Mut:Option HO → Prop
 | some (.lst _)=>True
 | some (.dK _)=>True
 | some (.dT _)=>True
 | some (.set _ _)=>True
 | some (.ins _ _ _)=>True
 | some (.ext _)=>True
 | _=>False
section
variable {P:Program} {w:World} {H:Hp} {h h':Heap} {x e:Addr} {o':HO}
theorem jC.write (ok:jC P w H h) (mu:Mut (H x)) (he:e = x ∨ H e = some (.own x)) (k:∀ b u,b ≠ e → h.get? b = some u → h'.get? b = some u) (heo:∃ u,h'.get? e = some u)
  (new:gK P w (upd H x o') h' x o'):jC P w (upd H x o') h':=fun b u q=>by
 have ahd:∀ c y,H c = some (.own y) → c ≠ x:=fun c y r z=>by subst z; rw [r] at mu; exact mu
 have apz:∀ c xs,H c = some (.tup xs) → c ≠ x:=fun c xs r z=>by subst z; rw [r] at mu; exact mu
 by_cases hb:b = x
 ·subst hb; rw [ae] at q; cases q; exact new
 ·rw [ak hb] at q
  by_cases hbe:b = e
  ·have q':H b = some (.own x):=by
    rcases he with z | z
    ·exact absurd (hbe.trans z) hb
    ·rw [hbe]; exact z
   rw [q] at q'; cases q'
   obtain ⟨v,hv⟩:=heo
   exact ⟨v,by rw [hbe]; exact hv⟩
  ·refine (ok b u q).Xk (fun c v hc r=>k c v ?_ r) (fun c r=>by rw [ak (ahd c b r)]; exact r) fun c xs r=>by rw [ak (apz c xs r)]; exact r
   rcases hc with rfl | hc
   ·exact hbe
   ·rintro rfl
    rcases he with z | z
    ·exact ahd c b hc z
    ·rw [hc] at z; cases z; exact hb rfl
end
structure Un (fs ex:List Addr) (H H':Hp) (h h':Heap):Prop where
 keep:∀ b o,h.get? b = some o → H b = none → b ∉ fs → b ∉ ex → h'.get? b = some o
 slot:∀ b o,h.get? b = some o → H b = none → b ∈ fs → b ∉ ex → ∃ sl,h'.get? b = some { o with slots:=sl }
 free:∀ b o,h.get? b = some o → H b = none → b ∉ ex → H' b = none
 there:∀ b o,h.get? b = some o → b ∉ ex → ∃ o',h'.get? b = some o'
 NS:∀ b xs,H b = some (.tup xs) → H' b = some (.tup xs)
 LY:∀ b o u,H b = some (.xA o u) → H' b = some (.xA o u)
 NZ:∀ b ps,H b = some (.tbl ps) → ∃ more,H' b = some (.tbl (ps ++ more))
section
variable {fs fs' ex ex':List Addr} {H H1 H2:Hp} {h h1 h2 h':Heap} {a x e:Addr} {o:HO}
theorem Un.any (u:Un fs ex H H1 h h1) {b:Addr} {ob:Obj} (q:h.get? b = some ob) (n:H b = none) (hx:b ∉ ex):∃ sl,h1.get? b = some { ob with slots:=sl }:=by
 by_cases hb:b ∈ fs
 ·exact u.slot b ob q n hb hx
 ·exact ⟨ob.slots,u.keep b ob q n hb hx⟩
theorem Un.kept (k:∀ b u,h.get? b = some u → h'.get? b = some u):Un fs ex H H h h' :=
 ⟨fun b ob q _ _ _=>k b ob q,fun b ob q _ _ _=>⟨ob.slots,k b ob q⟩,fun _ _ _ n _=>n,fun b ob q _=>⟨ob,k b ob q⟩,fun _ _ q=>q,fun _ _ _ q=>q,fun _ ps q=>⟨#[],by rw [q]; simp⟩⟩
theorem Un.refl:Un fs ex H H h h:=Un.kept fun _ _ q=>q
theorem Un.laid (k:∀ b u,h.get? b = some u → h'.get? b = some u) (hp:h.objs.size ≤ a) (hn:H a = none):Un fs ex H (upd H a o) h h' where
 keep:=fun b u q _ _ _=>k b u q
 slot:=fun b u q _ _ _=>⟨u.slots,k b u q⟩
 free:=fun b u q n _=>by rw [ak (Nat.ne_of_lt (Nat.lt_of_lt_of_le (Heap.lt_size q) hp))]; exact n
 there:=fun b u q _=>⟨u,k b u q⟩
 NS:=fun b xs q=>by rw [ak (ay q hn)]; exact q
 LY:=fun b u xs q=>by rw [ak (ay q hn)]; exact q
 NZ:=fun b ps q=>⟨#[],by rw [ak (ay q hn),q]; simp⟩
theorem Un.write (mu:Mut (H x)) (he:e = x ∨ H e = some (.own x)) (k:∀ b u,b ≠ e → h.get? b = some u → h'.get? b = some u) (heo:∃ u,h'.get? e = some u):Un fs ex H (upd H x o) h h':=by
 have hx:∀ b,H b = none → b ≠ x:=fun b n z=>by subst z; rw [n] at mu; exact mu
 have hb:∀ b,H b = none → b ≠ e:=fun b n z=>by
  subst z
  rcases he with r | r
  ·exact hx b n r
  ·rw [n] at r; cases r
 have hm:∀ b u,H b = some u → ¬ Mut (some u) → b ≠ x:=fun b u q nm z=>by subst z; rw [q] at mu; exact nm mu
 refine ⟨fun b u q n _ _=>k b u (hb b n) q,fun b u q n _ _=>⟨u.slots,k b u (hb b n) q⟩,fun b u q n _=>by rw [ak (hx b n)]; exact n,fun b u q _=>?_,
  fun b xs q=>by rw [ak (hm b _ q fun z=>z)]; exact q,fun b u xs q=>by rw [ak (hm b _ q fun z=>z)]; exact q,fun b ps q=>⟨#[],by rw [ak (hm b _ q fun z=>z),q]; simp⟩⟩
 by_cases hbe:b = e
 ·subst hbe; exact heo
 ·exact ⟨u,k b u hbe q⟩
end
noncomputable def trk (h:Heap) (H:Hp):List Addr:=(List.range h.objs.size).filter fun a=>(H a).isSome
noncomputable def LO (h:Heap) (H:Hp):Heap:=W.hideAll h (trk h H)
theorem aiK (h:Heap) (H:Hp):(LO h H).objs.size = h.objs.size:=W.hideAll_size _ _
theorem akg {h:Heap} {H:Hp} {b:Addr} {o:Obj} (e:h.get? b = some o) (n:H b = none):(LO h H).get? b = some o :=
 W.hideAll_get _ e fun hm=>by
  have q:(H b).isSome = true:=(List.mem_filter.mp hm).2
  rw [n] at q; simp at q
theorem alD {h:Heap} {H:Hp} {b:Addr} {o:Obj} (e:(LO h H).get? b = some o):h.get? b = some o ∧ H b = none:=by
 have e':h.get? b = some o:=W.of_hideAll (trk h H) e
 refine ⟨e',?_⟩
 cases q:H b with
 | none=>rfl
 | some x =>
  have hm:b ∈ trk h H:=List.mem_filter.mpr ⟨List.mem_range.mpr (Heap.lt_size e'),by simp [q]⟩
  have z:(LO h H).get? b = none:=W.hideAll_none (trk h H) hm
  rw [z] at e; cases e
end L2
namespace L2
open PySem PySem.Spec PyProof.Rows
structure Mod (K:W.Frag) (mg:Str → Option Value) (base:Heap):Prop where
 kin:K.In base
 glob:base.Ns mainGlobals mg
 blt:∃ mb,base.Ns builtinsNs mb ∧ ∀ x:Str,x ≠ "__name__" → mb x = bootBuiltins x
 nolimit:base.NoLimit
structure Cx where
 prog:Program
 w:World
 K:W.Frag
 mg:Str → Option Value
 base:Heap
 A:Around
 N:List Str
 vz:Shared
 H_0:Hp
 env:Env
 outer:List Env
 stack:List Env
 ex:List Addr
 fn:Str → Bool
 calm:Bool
 pn:List (Addr × Obj)
 xe:Value → Shared → Prop
noncomputable def PZ (l:List Env):List Addr:=l.filterMap (·.frame)
noncomputable abbrev Cx.fs (X:Cx):List Addr:=PZ X.outer
noncomputable def Vis (sc:Scope) (x:Str):Prop:=sc.names.lookup x = some .local ∨ sc.names.lookup x = some .cell ∨ sc.names.lookup x = some .free
noncomputable def Loc (sc:Scope) (x:Str):Prop:=sc.names.lookup x = some .local ∨ sc.names.lookup x = some .cell
noncomputable def Look (env:Env) (h:Heap) (m:Str → Option Value) (x:Str) (u:Value):Prop :=
 (env.kindOf x = some .local ∧ m x = some u) ∨ ((env.kindOf x = some .cell ∨ env.kindOf x = some .free) ∧ ∃ c,env.cells.lookup x = some c ∧ h.IsCell c (some u))
structure Cx.Ok (X:Cx):Prop where
 mod:Mod X.K X.mg X.base
 kind:X.env.scope.kind = .function
 glob:X.env.globals = mainGlobals
 blt:X.env.builtins = builtinsNs
 above:X.vz.heap.objs.size ≤ X.env.locals
 inj:∀ x y c,X.env.cells.lookup x = some c → X.env.cells.lookup y = some c → x = y
 has:∀ x,(X.env.kindOf x = some .cell ∨ X.env.kindOf x = some .free) → ∃ c,X.env.cells.lookup x = some c
 cab:∀ x c,X.fn x = true → X.env.cells.lookup x = some c → X.vz.heap.objs.size ≤ c
 hd:X.calm = true → X.A.handled = none
 frames:X.A.frames = some X.stack
 stk:X.stack = X.outer ∨ (X.stack = X.env :: X.outer ∧ X.env.frame = some X.env.locals)
 exf:∀ b ∈ X.ex,b ≠ X.env.locals ∧ ∀ x c,X.env.cells.lookup x = some c → c ≠ b
 bs:∀ b o,X.base.get? b = some o → X.vz.heap.get? b = some o ∧ X.H_0 b = none
 WQ:X.base.objs.size ≤ X.vz.heap.objs.size
 ade:∀ b o,X.base.get? b = some o → b ∉ X.ex
 adU:∀ b ∈ X.ex,b ∉ X.fs
 Cb:X.vz.heap.FunFrames X.base X.outer
 frf:∀ b ∈ X.fs,X.H_0 b = none
structure Inv (X:Cx) (pins:List (Addr × Obj)) (σ:List (Option V)) (H:Hp) (s:Shared):Prop where
 ok:X.Ok
 os:s.os = X.vz.os
 bare:AllBare s.gens
 base:Un X.fs X.ex X.H_0 H X.vz.heap s.heap
 loc:∃ m,s.heap.Ns X.env.locals m ∧ ∀ (i:Nat) (x:Str) (v:V),X.N[i]? = some x → σ[i]? = some (some v) → Vis X.env.scope x → ∃ u,RelV v u ∧ Look X.env s.heap m x u
 cell:∀ x c,X.env.cells.lookup x = some c → ∃ v,s.heap.IsCell c v
 free:H X.env.locals = none
 xB:∀ x c,X.env.cells.lookup x = some c → H c = none
 pin:∀ p ∈ X.pn ++ pins,s.heap.get? p.1 = some p.2 ∧ H p.1 = none ∧ p.1 ≠ X.env.locals ∧ p.1 ∉ X.fs ∧ ∀ v,p.2.data ≠ .cell v
 bJ:jC X.prog X.w H s.heap
 len:σ.length = X.N.length
section
variable {X:Cx} {pins:List (Addr × Obj)} {σ:List (Option V)} {H H':Hp} {s:Shared} {h':Heap}
theorem Cx.Ok.apB (ok:X.Ok) {b:Addr} {o:Obj} (e:X.base.get? b = some o):b ∉ X.fs:=fun hb=>by
 have:=(ok.Cb.mem hb).1
 rw [e] at this; cases this
theorem Inv.bs (I:Inv X pins σ H s):∀ b o,X.base.get? b = some o → s.heap.get? b = some o ∧ H b = none:=fun b o e =>
 ⟨I.base.keep b o (I.ok.bs b o e).1 (I.ok.bs b o e).2 (I.ok.apB e) (I.ok.ade b o e),I.base.free b o (I.ok.bs b o e).1 (I.ok.bs b o e).2 (I.ok.ade b o e)⟩
theorem Inv.bk (I:Inv X pins σ H s):∀ b o,X.base.get? b = some o → s.heap.get? b = some o:=fun b o e=>(I.bs b o e).1
theorem Inv.mod (I:Inv X pins σ H s):Mod X.K X.mg X.base:=I.ok.mod
theorem Inv.yE (I:Inv X pins σ H s):X.K.In s.heap:=I.ok.mod.kin.keeps I.bk
theorem Inv.lt (I:Inv X pins σ H s):X.env.locals < s.heap.objs.size:=let ⟨_,hn,_⟩:=I.loc; hn.lt
theorem Inv.sz (I:Inv X pins σ H s):X.vz.heap.objs.size ≤ s.heap.objs.size:=Nat.le_trans I.ok.above (Nat.le_of_lt I.lt)
theorem Inv.apA (I:Inv X pins σ H s) {a:Addr} (h:s.heap.objs.size ≤ a):a ∉ X.fs:=fun hb=>by
 obtain ⟨_,o,ho,_⟩:=I.ok.Cb.mem hb
 exact absurd (Nat.lt_of_lt_of_le (Heap.lt_size ho) (Nat.le_trans I.sz h)) (Nat.lt_irrefl _)
theorem Inv.cne (I:Inv X pins σ H s):∀ x c,X.env.cells.lookup x = some c → c ≠ X.env.locals:=fun x c e z=>by
 obtain ⟨v,o,ho,hd⟩:=I.cell x c e
 obtain ⟨m,⟨o',es,ep,Gm,Wk,_⟩,_⟩:=I.loc
 rw [z,Gm] at ho; cases ho; rw [Wk] at hd; cases hd
theorem Inv.Cb (I:Inv X pins σ H s):s.heap.FunFrames X.base X.outer:=by
 have all:∀ (l:List Env),(∀ b ∈ PZ l,b ∈ X.fs) → X.vz.heap.FunFrames X.base l → s.heap.FunFrames X.base l:=by
  intro l
  induction l with
  | nil=>intro _ _; trivial
  | cons env r ih =>
   intro hs hl
   obtain ⟨hk,⟨L,o,hf,hn,ho,hd⟩,hr⟩:=hl
   have hL:L ∈ X.fs:=hs L (by unfold PZ; rw [List.filterMap_cons,hf]; exact List.mem_cons_self)
   obtain ⟨sl,e⟩:=I.base.slot L o ho (I.ok.frf L hL) hL fun z=>I.ok.adU L z hL
   exact ⟨hk,⟨L,_,hf,hn,e,hd⟩,ih (fun b hb=>hs b (by unfold PZ; rw [List.filterMap_cons,hf]; exact List.mem_cons_of_mem _ hb)) hr⟩
 exact all X.outer (fun _ hb=>hb) I.ok.Cb
theorem Inv.stack (I:Inv X pins σ H s):s.heap.FunFrames X.base X.stack:=by
 rcases I.ok.stk with e | ⟨e,hf⟩
 ·rw [e]; exact I.Cb
 ·rw [e]
  obtain ⟨m,hn,_⟩:=I.loc
  refine .cons (by rw [I.ok.kind]; decide) hf hn ?_ I.Cb
  exact Heap.get?_none_of_le (Nat.le_trans I.ok.WQ I.ok.above)
theorem Inv.ab2 (I:Inv X pins σ H s):∀ b ∈ PZ X.stack,b ∈ X.env.locals :: X.fs:=fun b hb=>by
 rcases I.ok.stk with e | ⟨e,hf⟩
 ·rw [e] at hb; exact List.mem_cons_of_mem _ hb
 ·rw [e] at hb
  unfold PZ at hb
  rw [List.filterMap_cons,hf] at hb
  exact hb
theorem Inv.afs (I:Inv X pins σ H s):∀ b ∈ PZ X.stack,H b = none:=fun b hb=>by
 rcases List.mem_cons.mp (I.ab2 b hb) with e | hb
 ·rw [e]; exact I.free
 ·obtain ⟨_,o,ho,_⟩:=I.ok.Cb.mem hb
  exact I.base.free b o ho (I.ok.frf b hb) fun z=>I.ok.adU b z hb
theorem Inv.step {g':Array GenState} {t':Nat} {d':Drawn} {ch:List Addr} (I:Inv X pins σ H s)
  (SM:∀ b ∈ ch,(b ∈ X.ex ∨ X.vz.heap.objs.size ≤ b) ∧ b ≠ X.env.locals ∧ (∀ x c,X.env.cells.lookup x = some c → c ≠ b) ∧ ∀ p ∈ X.pn ++ pins,p.1 ≠ b)
  (keep:∀ b o,b ≠ X.env.locals → b ∉ X.fs → b ∉ ch → s.heap.get? b = some o → H b = none → h'.get? b = some o)
  (slot:∀ b o,b ≠ X.env.locals → b ∈ X.fs → b ∉ ch → s.heap.get? b = some o → H b = none → ∃ sl,h'.get? b = some { o with slots:=sl }) (free:∀ b o,b ∉ ch → s.heap.get? b = some o → H b = none → H' b = none)
  (there:∀ b o,b ∉ ch → s.heap.get? b = some o → ∃ o',h'.get? b = some o')
  (NS:∀ b xs,H b = some (.tup xs) → H' b = some (.tup xs)) (LY:∀ b o u,H b = some (.xA o u) → H' b = some (.xA o u)) (NZ:∀ b ps,H b = some (.tbl ps) → ∃ more,H' b = some (.tbl (ps ++ more)))
  (ns:∀ m,s.heap.Ns X.env.locals m → h'.Ns X.env.locals m) (bJ:jC X.prog X.w H' h') (hg:AllBare g') :
  Inv X pins σ H' { s with heap:=h',gens:=g',drawn:=d',toks:=t' }:=by
 have neL:∀ b o,X.vz.heap.get? b = some o → b ≠ X.env.locals:=fun b o e=>Nat.ne_of_lt (Nat.lt_of_lt_of_le (Heap.lt_size e) I.ok.above)
 have gS:∀ b o,X.vz.heap.get? b = some o → b ∉ X.ex → b ∉ ch:=fun b o e hx hb=>by
  rcases (SM b hb).1 with z | z
  ·exact hx z
  ·exact absurd (Nat.lt_of_lt_of_le (Heap.lt_size e) z) (Nat.lt_irrefl _)
 have cellK:∀ x c,X.env.cells.lookup x = some c → ∀ v,s.heap.IsCell c v → h'.IsCell c v:=fun x c e v ⟨o,ho,hd⟩=>by
  have nch:c ∉ ch:=fun z=>(SM c z).2.2.1 x c e rfl
  by_cases hc:c ∈ X.fs
  ·obtain ⟨sl,q⟩:=slot c o (I.cne x c e) hc nch ho (I.xB x c e)
   exact ⟨_,q,hd⟩
  ·exact ⟨o,keep c o (I.cne x c e) hc nch ho (I.xB x c e),hd⟩
 refine ⟨I.ok,I.os,hg,⟨fun b o e n hb hx=>?_,fun b o e n hb hx=>?_,fun b o e n hx=>?_,fun b o e hx=>?_,fun b xs e=>NS b xs (I.base.NS b xs e),fun b o xs e=>LY b o xs (I.base.LY b o xs e),fun b ps e=>?_⟩,?_,fun x c e=>?_,?_,fun x c e=>?_,fun p hp=>?_,bJ,I.len⟩
 ·exact keep b o (neL b o e) hb (gS b o e hx) (I.base.keep b o e n hb hx) (I.base.free b o e n hx)
 ·obtain ⟨sl,e1⟩:=I.base.slot b o e n hb hx
  obtain ⟨sl',e2⟩:=slot b _ (neL b o e) hb (gS b o e hx) e1 (I.base.free b o e n hx)
  exact ⟨sl',e2⟩
 ·obtain ⟨o',e1⟩:=I.base.there b o e hx
  exact free b o' (gS b o e hx) e1 (I.base.free b o e n hx)
 ·obtain ⟨o',e1⟩:=I.base.there b o e hx
  exact there b o' (gS b o e hx) e1
 ·obtain ⟨m1,e1⟩:=I.base.NZ b ps e
  obtain ⟨m2,e2⟩:=NZ b _ e1
  exact ⟨m1 ++ m2,by rw [e2,Array.append_assoc]⟩
 ·obtain ⟨m,hn,hl⟩:=I.loc
  refine ⟨m,ns m hn,fun i x v e1 e2 e3=>?_⟩
  obtain ⟨u,r,l⟩:=hl i x v e1 e2 e3
  refine ⟨u,r,?_⟩
  rcases l with l | ⟨k,c,e,z⟩
  ·exact .inl l
  ·exact .inr ⟨k,c,e,cellK x c e _ z⟩
 ·obtain ⟨v,z⟩:=I.cell x c e
  exact ⟨v,cellK x c e v z⟩
 ·obtain ⟨m,⟨o,_,_,ho,_⟩,_⟩:=I.loc
  exact free _ o (fun z=>(SM _ z).2.1 rfl) ho I.free
 ·obtain ⟨v,o,ho,hd⟩:=I.cell x c e
  exact free c o (fun z=>(SM c z).2.2.1 x c e rfl) ho (I.xB x c e)
 ·obtain ⟨e,n,ne,nf,d⟩:=I.pin p hp
  have nch:p.1 ∉ ch:=fun z=>(SM p.1 z).2.2.2 p hp rfl
  exact ⟨keep p.1 p.2 ne nf nch e n,free p.1 p.2 nch e n,ne,nf,d⟩
theorem Inv.un {t':Nat} (I:Inv X pins σ H s) (u:Un X.fs [] H H' s.heap h') (bJ:jC X.prog X.w H' h'):Inv X pins σ H' { s with heap:=h',toks:=t' }:=by
 obtain ⟨m,⟨o,es,ep,ho,r⟩,_⟩:=id I.loc
 obtain ⟨sl,hL⟩:=u.any ho I.free (by simp)
 exact I.step (g':=s.gens) (d':=s.drawn) (ch:=[]) (fun _ z=>nomatch z) (fun b o _ hb _ e n=>u.keep b o e n hb (by simp)) (fun b o _ hb _ e n=>u.slot b o e n hb (by simp)) (fun b o _ e n=>u.free b o e n (by simp)) (fun b o _ e=>u.there b o e (by simp)) u.NS u.LY u.NZ (fun m' hm=>by
  obtain ⟨o',EM,ep',Gm,r'⟩:=hm
  rw [ho] at Gm; cases Gm
  exact ⟨_,EM,ep',hL,r'⟩) bJ I.bare
theorem Inv.call {g':Array GenState} {t':Nat} {d':Drawn} {ch:List Addr} (I:Inv X pins σ H s) (u:Un (PZ X.stack) ch H H' s.heap h') (bJ:jC X.prog X.w H' h') (hg:AllBare g')
  (SM:∀ b ∈ ch,(b ∈ X.ex ∨ X.vz.heap.objs.size ≤ b) ∧ b ≠ X.env.locals ∧ (∀ x c,X.env.cells.lookup x = some c → c ≠ b) ∧ ∀ p ∈ X.pn ++ pins,p.1 ≠ b) :
  Inv X pins σ H' { s with heap:=h',gens:=g',drawn:=d',toks:=t' }:=by
 obtain ⟨m,⟨o,es,ep,ho,r⟩,_⟩:=id I.loc
 obtain ⟨sl,hL⟩:=u.any ho I.free fun z=>(SM _ z).2.1 rfl
 exact I.step (ch:=ch) SM (fun b o hL hb hc e n=>u.keep b o e n (fun z=>(List.mem_cons.mp (I.ab2 b z)).elim hL hb) hc) (fun b o _ _ hc e n=>u.any e n hc) (fun b o hc e n=>u.free b o e n hc) (fun b o hc e=>u.there b o e hc) u.NS u.LY u.NZ (fun m' hm=>by
  obtain ⟨o',EM,ep',Gm,r'⟩:=hm
  rw [ho] at Gm; cases Gm
  exact ⟨_,EM,ep',hL,r'⟩) bJ hg
theorem Inv.turned {t':Nat} {it:Addr} (I:Inv X pins σ H s) (k:∀ b o,b ≠ it → s.heap.get? b = some o → h'.get? b = some o) (hn:H it = none) (hL:it ≠ X.env.locals)
  (h1:it ∈ X.ex ∨ X.vz.heap.objs.size ≤ it) (h2:∀ x c,X.env.cells.lookup x = some c → c ≠ it) (h3:∀ p ∈ X.pn ++ pins,p.1 ≠ it):Inv X pins σ H { s with heap:=h',toks:=t' }:=by
 have nit:∀ b u,H b = some u → b ≠ it:=fun b u e z=>by rw [z,hn] at e; cases e
 refine I.step (g':=s.gens) (d':=s.drawn) (ch:=[it]) (fun b hb=>?_) (fun b o _ _ hc e _=>k b o (fun z=>hc (by simp [z])) e) (fun b o _ _ hc e _=>⟨o.slots,k b o (fun z=>hc (by simp [z])) e⟩) (fun _ _ _ _ n=>n)
  (fun b o hc e=>⟨o,k b o (fun z=>hc (by simp [z])) e⟩) (fun _ _ e=>e) (fun _ _ _ e=>e) (fun b ps e=>⟨#[],by rw [e]; simp⟩) (fun m hm=>?_) (fun b u e=>?_) I.bare
 ·have e:b = it:=by simpa using hb
  subst e
  exact ⟨h1,hL,h2,h3⟩
 ·obtain ⟨o,es,ep,ho,r⟩:=hm
  exact ⟨o,es,ep,k _ o (Ne.symm hL) ho,r⟩
 ·refine (I.bJ b u e).Xk (fun c v hc q=>k c v ?_ q) (fun _ q=>q) fun _ _ q=>q
  rcases hc with z | z
  ·rw [z]; exact nit b u e
  ·exact nit c _ z
theorem Inv.tok (I:Inv X pins σ H s) (t:Nat):Inv X pins σ H { s with toks:=t }:=I.un (h':=s.heap) (t':=t) Un.refl I.bJ
theorem Inv.kept {t':Nat} (I:Inv X pins σ H s) (k:∀ b u,s.heap.get? b = some u → h'.get? b = some u):Inv X pins σ H { s with heap:=h',toks:=t' }:=I.un (Un.kept k) (I.bJ.kept k)
theorem Inv.laid {a:Addr} {o:HO} {t':Nat} (I:Inv X pins σ H s) (k:∀ b u,s.heap.get? b = some u → h'.get? b = some u) (hp:s.heap.objs.size ≤ a) (new:gK X.prog X.w (upd H a o) h' a o) :
  Inv X pins σ (upd H a o) { s with heap:=h',toks:=t' }:=I.un (Un.laid k hp (I.bJ.fresh hp)) (I.bJ.laid k hp new)
theorem Inv.write {x e:Addr} {o:HO} {t':Nat} (I:Inv X pins σ H s) (mu:Mut (H x)) (he:e = x ∨ H e = some (.own x)) (k:∀ b u,b ≠ e → s.heap.get? b = some u → h'.get? b = some u) (heo:∃ u,h'.get? e = some u)
  (new:gK X.prog X.w (upd H x o) h' x o):Inv X pins σ (upd H x o) { s with heap:=h',toks:=t' }:=I.un (Un.write mu he k heo) (I.bJ.write mu he k heo new)
theorem Inv.weak {σ':List (Option V)} (I:Inv X pins σ H s) (hl:σ'.length = σ.length) (w:∀ (i:Nat) v,σ'[i]? = some (some v) → σ[i]? = some (some v)):Inv X pins σ' H s :=
 ⟨I.ok,I.os,I.bare,I.base,let ⟨m,hn,hl'⟩:=I.loc; ⟨m,hn,fun i x v e1 e2 e3=>hl' i x v e1 (w i v e2) e3⟩,I.cell,I.free,I.xB,I.pin,I.bJ,hl.trans I.len⟩
theorem Inv.afG {akI:List (Addr × Obj)} (I:Inv X pins σ H s) (h:∀ p ∈ akI,s.heap.get? p.1 = some p.2 ∧ H p.1 = none ∧ p.1 ≠ X.env.locals ∧ p.1 ∉ X.fs ∧ ∀ v,p.2.data ≠ .cell v):Inv X akI σ H s :=
 ⟨I.ok,I.os,I.bare,I.base,I.loc,I.cell,I.free,I.xB,fun p hp=>(List.mem_append.mp hp).elim (fun z=>I.pin p (List.mem_append_left _ z)) (h p),I.bJ,I.len⟩
theorem T7 {N:List Str} (hN:N.Nodup) {i j:Nat} {x:Str} (a:N[i]? = some x) (b:N[j]? = some x):i = j:=by
 obtain ⟨h1,e1⟩:=List.getElem?_eq_some_iff.mp a
 obtain ⟨h2,e2⟩:=List.getElem?_eq_some_iff.mp b
 exact (List.getElem_inj hN).mp (e1.trans e2.symm)
theorem ah6 {M:Model} {A:Around} {E:Value → Shared → Prop} {i:Nat} {x:Str} {v:V} {u:Value} {Q:Unit → Shared → Prop} (I:Inv X pins σ H s) (hN:X.N.Nodup) (hi:X.N[i]? = some x) (hx:Loc X.env.scope x) (r:RelV v u)
  (h:∀ s',Inv X pins (σ.set i (some v)) H s' → (∃ a,Heap.SameBut a s.heap s'.heap ∧ (a = X.env.locals ∨ X.env.cells.lookup x = some a)) → Q () s') (hf:X.fn x = true ∨ X.env.scope.names.lookup x = some .local:=by first | exact .inl rfl | exact .inr rfl | assumption):wpAny M A (storeName X.env x u) Q E s:=by
 obtain ⟨m,hn,hl⟩:=id I.loc
 have ap2:(X.env.scope.kind == .class || (X.env.scope.kind == .module && X.env.locals != X.env.globals)) = false:=by rw [I.ok.kind]; rfl
 have hiσ:i < σ.length:=by rw [I.len]; exact (List.getElem?_eq_some_iff.mp hi).1
 have cne:=I.cne
 have tracked:∀ {a:Addr} {h':Heap},(∃ o,s.heap.get? a = some o ∧ H a = none) → Heap.SameBut a s.heap h' → jC X.prog X.w H h':=fun {a h'} ha hs b ob e=>by
  obtain ⟨_,_,RC⟩:=ha
  refine (I.bJ b ob e).Xk (fun c w' hc q=>(hs.2 c ?_).trans q) (fun _ q=>q) fun _ _ q=>q
  rintro rfl
  rcases hc with rfl | hc
  ·rw [RC] at e; cases e
  ·rw [RC] at hc; cases hc
 rcases hx with hk | hk
 ·refine wpAny_storeName_local hk hn (fun h' hn' hs=>?_) ap2
  obtain ⟨oL,_,_,hoL,_⟩:=id hn
  refine h _ ⟨I.ok,I.os,I.bare,⟨fun b o e n hb hx=>?_,fun b o e n hb hx=>?_,I.base.free,fun b o e hx=>?_,I.base.NS,I.base.LY,I.base.NZ⟩,⟨_,hn',fun j y v' e1 e2 e3=>?_⟩,fun y c e=>?_,I.free,I.xB,fun p hp=>?_,tracked ⟨oL,hoL,I.free⟩ hs,by simpa using I.len⟩ ⟨_,hs,.inl rfl⟩
  ·exact (hs.2 b (Nat.ne_of_lt (Nat.lt_of_lt_of_le (Heap.lt_size e) I.ok.above))).trans (I.base.keep b o e n hb hx)
  ·obtain ⟨sl,e1⟩:=I.base.slot b o e n hb hx
   exact ⟨sl,(hs.2 b (Nat.ne_of_lt (Nat.lt_of_lt_of_le (Heap.lt_size e) I.ok.above))).trans e1⟩
  ·obtain ⟨o',e1⟩:=I.base.there b o e hx
   exact ⟨o',(hs.2 b (Nat.ne_of_lt (Nat.lt_of_lt_of_le (Heap.lt_size e) I.ok.above))).trans e1⟩
  ·by_cases hj:j = i
   ·subst hj
    rw [hi] at e1; cases e1
    rw [List.getElem?_set_self hiσ] at e2
    cases e2
    exact ⟨u,r,.inl ⟨hk,by simp⟩⟩
   ·rw [List.getElem?_set_ne (Ne.symm hj)] at e2
    obtain ⟨u',r',q⟩:=hl j y v' e1 e2 e3
    refine ⟨u',r',?_⟩
    rcases q with ⟨k,e⟩ | ⟨k,c,e,z⟩
    ·refine .inl ⟨k,?_⟩
     have:y ≠ x:=fun e=>hj (T7 hN e1 (e ▸ hi))
     simp [this,e]
    ·exact .inr ⟨k,c,e,z.sameBut hs (cne y c e)⟩
  ·obtain ⟨w',z⟩:=I.cell y c e
   exact ⟨w',z.sameBut hs (cne y c e)⟩
  ·obtain ⟨e,n,ne,nf,d⟩:=I.pin p hp
   exact ⟨(hs.2 p.1 ne).trans e,n,ne,nf,d⟩
 ·have hfn:X.fn x = true:=by
   rcases hf with z | z
   ·exact z
   ·rw [z] at hk; cases hk
  obtain ⟨c,hc⟩:=I.ok.has x (.inl hk)
  obtain ⟨w',z⟩:=I.cell x c hc
  refine wpAny_storeName_cell I.ok.kind hk hc z (fun h' hc' hs=>?_)
  obtain ⟨oc,hoc,apQ⟩:=id z
  refine h { s with heap:=h' } ⟨I.ok,I.os,I.bare,⟨fun b o e n hb hx=>?_,fun b o e n hb hx=>?_,I.base.free,fun b o e hx=>?_,I.base.NS,I.base.LY,I.base.NZ⟩,⟨m,hn.sameBut hs (Ne.symm (cne x c hc)),fun j y v' e1 e2 e3=>?_⟩,fun y c' e=>?_,I.free,I.xB,fun p hp=>?_,tracked ⟨oc,hoc,I.xB x c hc⟩ hs,by simpa using I.len⟩ ⟨c,hs,.inr hc⟩
  ·exact (hs.2 b (Nat.ne_of_lt (Nat.lt_of_lt_of_le (Heap.lt_size e) (I.ok.cab x c hfn hc)))).trans (I.base.keep b o e n hb hx)
  ·obtain ⟨sl,e1⟩:=I.base.slot b o e n hb hx
   exact ⟨sl,(hs.2 b (Nat.ne_of_lt (Nat.lt_of_lt_of_le (Heap.lt_size e) (I.ok.cab x c hfn hc)))).trans e1⟩
  ·obtain ⟨o',e1⟩:=I.base.there b o e hx
   exact ⟨o',(hs.2 b (Nat.ne_of_lt (Nat.lt_of_lt_of_le (Heap.lt_size e) (I.ok.cab x c hfn hc)))).trans e1⟩
  ·by_cases hj:j = i
   ·subst hj
    rw [hi] at e1; cases e1
    rw [List.getElem?_set_self hiσ] at e2
    cases e2
    exact ⟨u,r,.inr ⟨.inl hk,c,hc,hc'⟩⟩
   ·rw [List.getElem?_set_ne (Ne.symm hj)] at e2
    obtain ⟨u',r',q⟩:=hl j y v' e1 e2 e3
    refine ⟨u',r',?_⟩
    rcases q with q | ⟨k,c',e,z'⟩
    ·exact .inl q
    ·refine .inr ⟨k,c',e,z'.sameBut hs ?_⟩
     rintro rfl
     exact hj (T7 hN e1 (I.ok.inj _ _ _ e hc ▸ hi))
  ·by_cases EF:c' = c
   ·subst EF; exact ⟨_,hc'⟩
   ·obtain ⟨w2,z2⟩:=I.cell y c' e
    exact ⟨w2,z2.sameBut hs EF⟩
  ·obtain ⟨e,n,ne,nf,d⟩:=I.pin p hp
   refine ⟨(hs.2 p.1 ?_).trans e,n,ne,nf,d⟩
   intro q
   rw [q,hoc] at e
   have q':oc = p.2:=Option.some.inj e
   exact d w' (by rw [← q']; exact apQ)
theorem Tq {M:Model} {A:Around} {E:Value → Shared → Prop} {i:Nat} {x:Str} {v:V} {u:Value} {Q:Unit → Shared → Prop} (I:Inv X pins σ H s) (hN:X.N.Nodup) (hi:X.N[i]? = some x) (hx:Loc X.env.scope x) (r:RelV v u)
  (h:∀ s',Inv X pins (σ.set i (some v)) H s' → Q () s') (hf:X.fn x = true ∨ X.env.scope.names.lookup x = some .local:=by first | exact .inl rfl | exact .inr rfl | assumption):wpAny M A (storeName X.env x u) Q E s :=
 ah6 I hN hi hx r (fun s' I' _=>h s' I') hf
theorem Inv.aoW {s':Shared} {ch:List Addr} (I:Inv X pins σ H s) (ho:s'.os = s.os) (u:Un (PZ X.stack) ch H H' s.heap s'.heap) (bJ:jC X.prog X.w H' s'.heap) (hg:AllBare s'.gens)
  (SM:∀ b ∈ ch,(b ∈ X.ex ∨ X.vz.heap.objs.size ≤ b) ∧ b ≠ X.env.locals ∧ (∀ x c,X.env.cells.lookup x = some c → c ≠ b) ∧ ∀ p ∈ X.pn ++ pins,p.1 ≠ b):Inv X pins σ H' s':=by
 obtain ⟨h',g',d',t',o'⟩:=s'
 have e:o' = s.os:=ho
 subst e
 exact I.call (g':=g') (t':=t') (d':=d') u bJ hg SM
end
noncomputable abbrev XK:=Value → Option Addr → Hp → Prop
noncomputable abbrev St:=List (Option V)
noncomputable abbrev VK:=V → Hp → Prop
noncomputable abbrev TE:=St → Hp → VK → Prop
noncomputable abbrev TT:=St → Hp → (Bool → Hp → Prop) → Prop
noncomputable abbrev TA:=St → Hp → (List V → Hp → Prop) → Prop
structure Ends where
 nx:St → Hp → Prop
 rt:VK
 bk:St → Hp → Prop:=fun _ _=>False
 ct:St → Hp → Prop:=fun _ _=>False
noncomputable abbrev TS:=Ends → St → Hp → Prop
noncomputable def EP (X:Cx) (pins:List (Addr × Obj)) (σ:St) (Q:VK) (u:Value) (s':Shared):Prop:=∃ v H',Inv X pins σ H' s' ∧ RelV v u ∧ Q v H'
noncomputable def TP (X:Cx) (pins:List (Addr × Obj)) (σ:St) (Q:Bool → Hp → Prop) (b:Bool) (s':Shared):Prop:=∃ H',Inv X pins σ H' s' ∧ Q b H'
noncomputable def AP (X:Cx) (pins:List (Addr × Obj)) (σ:St) (Q:List V → Hp → Prop) (us:List Value) (s':Shared):Prop:=∃ vs H',Inv X pins σ H' s' ∧ Vals vs us ∧ Q vs H'
noncomputable def SP (X:Cx) (pins:List (Addr × Obj)) (D:Ends) (f:Flow) (s':Shared):Prop :=
 match f with
 | .next=>∃ σ' H',Inv X pins σ' H' s' ∧ D.nx σ' H'
 | .brk=>∃ σ' H',Inv X pins σ' H' s' ∧ D.bk σ' H'
 | .cont=>∃ σ' H',Inv X pins σ' H' s' ∧ D.ct σ' H'
 | .ret u=>∃ v σ' H',Inv X pins σ' H' s' ∧ RelV v u ∧ D.rt v H'
noncomputable def PE (X:Cx) (e:Expr) (t:TE):Prop :=
 ∀ (pins:List (Addr × Obj)) (s:Shared) (σ:St) (H:Hp) (Q:VK),Inv X pins σ H s → t σ H Q → wpAny (model X.prog X.w) X.A (eval e X.env) (EP X pins σ Q) X.xe s
noncomputable def PT (X:Cx) (e:Expr) (t:TT):Prop :=
 ∀ (pins:List (Addr × Obj)) (s:Shared) (σ:St) (H:Hp) (Q:Bool → Hp → Prop),Inv X pins σ H s → t σ H Q → wpAny (model X.prog X.w) X.A (isTrue e X.env (eval e X.env)) (TP X pins σ Q) X.xe s
noncomputable def PW (X:Cx) (e:Expr) (t:TT):Prop :=
 ∀ (whole:Sem Value) (pins:List (Addr × Obj)) (s:Shared) (σ:St) (H:Hp) (Q:Bool → Hp → Prop),Inv X pins σ H s → t σ H Q → wpAny (model X.prog X.w) X.A (isTrue e X.env whole) (TP X pins σ Q) X.xe s
theorem PW.pt {X:Cx} {e:Expr} {t:TT} (h:PW X e t):PT X e t:=h _
noncomputable def PA (X:Cx) (es:List Expr) (t:TA):Prop :=
 ∀ (pos:Pos) (pins:List (Addr × Obj)) (s:Shared) (σ:St) (H:Hp) (Q:List V → Hp → Prop),Inv X pins σ H s → t σ H Q → wpAny (model X.prog X.w) X.A (spliced (backTo pos (starEach es X.env))) (AP X pins σ Q) X.xe s
noncomputable def PS (X:Cx) (st:Stmt) (t:TS):Prop :=
 ∀ (pins:List (Addr × Obj)) (s:Shared) (σ:St) (H:Hp) (D:Ends),Inv X pins σ H s → t D σ H → wpAny (model X.prog X.w) X.A (exec st X.env) (SP X pins D) X.xe s
noncomputable def cg (X:Cx) (st:List Stmt) (t:TS):Prop :=
 ∀ (pins:List (Addr × Obj)) (s:Shared) (σ:St) (H:Hp) (D:Ends),Inv X pins σ H s → t D σ H → wpAny (model X.prog X.w) X.A (execs st X.env) (SP X pins D) X.xe s
theorem bR {α:Type} {t:Sem α} {Q Q':α → Shared → Prop} {M:Model} {A:Around} {E:Value → Shared → Prop} {s:Shared} (h:wpAny M A t Q E s) (hQ:∀ a s,Q a s → Q' a s):wpAny M A t Q' E s:=wpAny_mono h hQ fun _ _ x=>x
end L2
namespace L2
open PySem PySem.Spec PyProof.Rows
section
variable {X:Cx}
noncomputable def amu (i:Nat):TE:=fun σ H Q=>∃ v,σ[i]? = some (some v) ∧ Q v H
noncomputable def tC (v:V):TE:=fun _ H Q=>Q v H
theorem amM {i:Nat} {x:Str} {pos:Pos} (hN:X.N[i]? = some x) (hv:Vis X.env.scope x) (hd:(x == ("__debug__":Str)) = false:=by decide) (MX:(x == ("__classdict__":Str)) = false:=by decide):PE X (.Name x pos) (amu i):=by
 intro pins s σ H Q I h
 obtain ⟨v,e,h⟩:=h
 obtain ⟨m,hn,hl⟩:=I.loc
 obtain ⟨u,r,l⟩:=hl i x v hN e hv
 have fin:EP X pins σ Q u s:=⟨v,H,I,r,h⟩
 rcases l with ⟨hk,hm⟩ | ⟨hk,c,hc,abo⟩
 ·exact wpAny_Name (wpAny_loadName_local I.ok.kind hk hn hm fin) hd
 ·rcases hk with hk | hk
  ·exact wpAny_Name (wpAny_loadName_cell I.ok.kind hk hc abo fin) hd
  ·exact wpAny_Name (wpAny_loadName_free I.ok.kind hk hc abo fin MX) hd
theorem az {i j pos}:PE X (.Constant (.int i) j pos) (tC (.int i)):=fun _ _ _ H _ I h=>wpAny_Constant_int ⟨.int i,H,I.tok _,⟨_,rfl⟩,h⟩
theorem k6 {b j pos}:PE X (.Constant (.bool b) j pos) (tC (.bl b)):=fun _ _ _ H _ I h=>Constant_bool ⟨.bl b,H,I,rfl,h⟩
theorem VH {j pos}:PE X (.Constant .none j pos) (tC .bL):=fun _ _ _ H _ I h=>Constant_none ⟨.bL,H,I,rfl,h⟩
noncomputable def Gl (X:Cx) (x:Str):Prop:=X.env.kindOf x = some .globalImplicit
theorem DH {E:Value → Shared → Prop} {pins:List (Addr × Obj)} {s:Shared} {σ:St} {H:Hp} {x:Str} {u:Value} {pos:Pos} {Q:Value → Shared → Prop} (I:Inv X pins σ H s) (hg:Gl X x) (hm:X.mg x = some u) (h:Q u s)
  (hd:(x == ("__debug__":Str)) = false:=by decide):wpAny (model X.prog X.w) X.A (eval (.Name x pos) X.env) Q E s :=
 Calls.Name_function_global I.ok.kind hg (Calls.loadGlobal_global (by rw [I.ok.glob]; exact I.mod.glob.keeps I.bk) hm h) hd
theorem O8 {E:Value → Shared → Prop} {pins:List (Addr × Obj)} {s:Shared} {σ:St} {H:Hp} {x:Str} {u:Value} {pos:Pos} {Q:Value → Shared → Prop} (I:Inv X pins σ H s) (hg:Gl X x) (hm:X.mg x = none) (hv:bootBuiltins x = some u) (h:Q u s)
  (hn:x ≠ "__name__":=by decide) (hd:(x == ("__debug__":Str)) = false:=by decide):wpAny (model X.prog X.w) X.A (eval (.Name x pos) X.env) Q E s:=by
 obtain ⟨mb,h1,h2⟩:=I.mod.blt
 exact Calls.Name_function_global I.ok.kind hg (Calls.loadGlobal_builtin (by rw [I.ok.glob]; exact I.mod.glob.keeps I.bk) hm (by rw [I.ok.blt]; exact h1.keeps I.bk) ((h2 x hn).trans hv) h) hd
theorem afH {x:Str} {v:V} {u:Value} {pos:Pos} (hg:Gl X x) (hm:X.mg x = some u) (r:RelV v u) (hd:(x == ("__debug__":Str)) = false:=by decide):PE X (.Name x pos) (tC v) :=
 fun _ _ _ H _ I h=>DH I hg hm ⟨v,H,I,r,h⟩ hd
variable {a b:Expr} {ta tb:TE} {pos:Pos}
noncomputable def PC (X:Cx) (op:CmpOp) (a b:Expr) (t:TE):Prop :=
 ∀ (pins:List (Addr × Obj)) (s:Shared) (σ:St) (H:Hp) (Q:VK),Inv X pins σ H s → t σ H Q →
  wpAny (model X.prog X.w) X.A (eval a X.env) (fun v s₁=>wpAny (model X.prog X.w) X.A (eval b X.env) (fun u s₂=>wpAny (model X.prog X.w) X.A (compareOp op v u) (EP X pins σ Q) X.xe s₂) X.xe s₁) X.xe s
noncomputable def tB (t:TE):TT:=fun σ H Q=>t σ H fun x H1=>∃ c,x = .bl c ∧ Q c H1
theorem amN {op:CmpOp} {t:TE} (h:PC X op a b t) (h1:behindInMarks op b = false:=by first | exact aj0 _ (by decide) (by decide) | rfl):PE X (.Compare a [op] [b] pos) t:=fun pins s σ H Q I hw=>wpAny_Compare1 (h pins s σ H Q I hw) h1
theorem wB {op:CmpOp} {t:TE} (h:PC X op a b t) (h1:behindInMarks op b = false:=by first | exact aj0 _ (by decide) (by decide) | rfl):PT X (.Compare a [op] [b] pos) (tB t):=by
 intro pins s σ H Q I hw
 refine wpAny_isTrue_Compare1 (bR (h pins s σ H _ I hw) fun v s1 h1=>bR h1 fun u s2 h2=>bR h2 fun c s3 ⟨x,H1,I1,r1,q1⟩=>?_) h1
 obtain ⟨d,rfl,q⟩:=q1
 cases r1
 exact wpAny_truthy_bool ⟨H1,I1,q⟩
variable {tA tB':TT} {rest:List Expr}
noncomputable def apo (t u:TT):TT:=fun σ H Q=>t σ H fun c H1=>if c = true then u σ H1 Q else Q false H1
noncomputable def tOr (t u:TT):TT:=fun σ H Q=>t σ H fun c H1=>if c = true then Q true H1 else u σ H1 Q
noncomputable def api (t:TT):TT:=fun σ H Q=>t σ H fun c H1=>Q (!c) H1
theorem vA (ha:PT X a tA):PW X (.BoolOp .And [a] pos) tA:=by
 intro wh pins s σ H Q I h
 refine isTrue_and (bR (ha pins s σ H Q I h) fun c s1 e=>?_)
 cases c with
 | true=>exact isTrue_and_nil e
 | false=>exact e
theorem Vv (ha:PT X a tA):PW X (.BoolOp .Or [a] pos) tA:=by
 intro wh pins s σ H Q I h
 refine isTrue_or (bR (ha pins s σ H Q I h) fun c s1 e=>?_)
 cases c with
 | false=>exact isTrue_or_nil e
 | true=>exact e
theorem wA (ha:PT X a tA) (hb:PW X (.BoolOp .And (b :: rest) pos) tB'):PW X (.BoolOp .And (a :: b :: rest) pos) (apo tA tB'):=by
 intro wh pins s σ H Q I h
 refine isTrue_and (bR (ha pins s σ H _ I h) fun c s1 ⟨H1,I1,q1⟩=>?_)
 cases c with
 | true=>exact hb wh pins s1 σ H1 Q I1 q1
 | false=>exact ⟨H1,I1,q1⟩
theorem Vw (ha:PT X a tA) (hb:PW X (.BoolOp .Or (b :: rest) pos) tB'):PW X (.BoolOp .Or (a :: b :: rest) pos) (tOr tA tB'):=by
 intro wh pins s σ H Q I h
 refine isTrue_or (bR (ha pins s σ H _ I h) fun c s1 ⟨H1,I1,q1⟩=>?_)
 cases c with
 | true=>exact ⟨H1,I1,q1⟩
 | false=>exact hb wh pins s1 σ H1 Q I1 q1
theorem fu (ha:PT X a tA):PT X (.UnaryOp .Not a pos) (api tA):=by
 intro pins s σ H Q I h
 exact isTrue_not (ha pins s σ H (fun c H1=>Q (!c) H1) I h)
noncomputable def aom (ta tb:TE):TE:=fun σ H Q=>ta σ H fun x H1=>∃ c,x = .bl c ∧ if c = true then tb σ H1 Q else Q (.bl false) H1
theorem VG {op} {t:TE} (h:PE X a t):PE X (.BoolOp op [a] pos) t:=fun pins s σ H Q I hw=>BoolOp_one (h pins s σ H Q I hw)
theorem AR (ha:PE X a ta) (hb:PE X (.BoolOp .And (b :: rest) pos) tb):PE X (.BoolOp .And (a :: b :: rest) pos) (aom ta tb):=by
 intro pins s σ H Q I h
 refine BoolOp_and (bR (ha pins s σ H _ I h) fun v s1 ⟨x,H1,I1,r1,q1⟩=>?_)
 obtain ⟨c,rfl,q1⟩:=q1
 cases r1
 refine wpAny_truthy_bool ?_
 cases c with
 | true=>exact hb pins s1 σ H1 Q I1 q1
 | false=>exact ⟨.bl false,H1,I1,rfl,q1⟩
noncomputable def tIf (t:TT) (ta tb:TE):TE:=fun σ H Q=>t σ H fun c H1=>if c = true then ta σ H1 Q else tb σ H1 Q
theorem ajJ {c:Expr} (hc:PT X c tA) (ha:PE X a ta) (hb:PE X b tb):PE X (.IfExp c a b pos) (tIf tA ta tb):=by
 intro pins s σ H Q I h
 refine wpAny_IfExp (bR (hc pins s σ H _ I h) fun d s1 ⟨H1,I1,q1⟩=>?_)
 cases d with
 | true=>exact ha pins s1 σ H1 Q I1 q1
 | false=>exact hb pins s1 σ H1 Q I1 q1
end
end L2
namespace L2
open PySem PySem.Spec PyProof.Rows
noncomputable def aM (K:W.Frag) (H:Hp) (a:Addr) (xs:List V):Prop :=
 Rd H a (.lst xs) ∨
  ∃ (o:Obj) (aT:Array Value) (n:Nat),K.lookup a = some o ∧ o.cls = .type "list" ∧ o.dict = none ∧ o.data = .seq aT n ∧ aT.size ≤ sizeLine ∧ Vals xs aT.toList
noncomputable def j0 (K:W.Frag) (H:Hp) (a:Addr) (xs:List V):Prop :=
 Rd H a (.tup xs) ∨
  ∃ (o:Obj) (aT:Array Value) (n:Nat),K.lookup a = some o ∧ o.cls = .type "tuple" ∧ o.data = .seq aT n ∧ aT.size ≤ sizeLine ∧ Vals xs aT.toList
noncomputable def aqm:Value → Option V
 | .none=>some .bL
 | .bool b=>some (.bl b)
 | .int i _=>some (.int i)
 | .str x _=>some (.str x)
 | .bytes b _=>some (.yN b)
 | .float b _=>some (.flt b)
 | .ref a=>some (.ref a)
 | .type n=>some (.ty n)
 | _=>none
theorem RelV.abs {x:V} {u:Value} (r:RelV x u):aqm u = some x:=by
 cases x with
 | bL=>cases r; rfl
 | bl _=>cases r; rfl
 | int _=>obtain ⟨t,rfl⟩:=r; rfl
 | str _=>obtain ⟨t,rfl⟩:=r; rfl
 | yN _=>obtain ⟨t,rfl⟩:=r; rfl
 | flt _=>obtain ⟨t,rfl⟩:=r; rfl
 | ref _=>cases r; rfl
 | ty _=>cases r; rfl
theorem RelV.inj {x y:V} {u:Value} (r:RelV x u) (q:RelV y u):x = y:=Option.some.inj (r.abs.symm.trans q.abs)
theorem Vals.inj:∀ {xs ys:List V} {us:List Value},Vals xs us → Vals ys us → xs = ys
 | _,_,_,.nil,.nil=>rfl
 | _,_,_,.cons r t,.cons r' t'=>by rw [r.inj r',Vals.inj t t']
section
variable {X:Cx} {pins:List (Addr × Obj)} {σ:St} {H:Hp} {s:Shared} {a:Addr} {xs ys:List V}
theorem aM.of {K:W.Frag} (h:H a = some (.lst xs)):aM K H a xs:=.inl (.inl h)
theorem j0.of {K:W.Frag} (h:H a = some (.tup xs)):j0 K H a xs:=.inl (.inl h)
theorem Inv.list (I:Inv X pins σ H s) (h:aM X.K H a xs):∃ aT:List Value,Vals xs aT ∧ PlainL s.heap a aT.toArray ∧ xs.length ≤ sizeLine:=by
 rcases h with h | ⟨o,aT,n,hk,hc,hd,hs,hz,r⟩
 ·obtain ⟨z,aT,n,r,e⟩:=h.ok I.bJ
  exact ⟨aT,r,⟨_,n,e,rfl,rfl,rfl⟩,z⟩
 ·refine ⟨aT.toList,r,⟨o,n,I.yE a o hk,hc,hd,by simpa using hs⟩,?_⟩
  have e:=r.length
  simp only [Array.length_toList] at e
  omega
theorem Inv.tuple (I:Inv X pins σ H s) (h:j0 X.K H a xs):∃ aT:List Value,Vals xs aT ∧ IsTup s.heap a aT.toArray ∧ xs.length ≤ sizeLine:=by
 rcases h with h | ⟨o,aT,n,hk,hc,hs,hz,r⟩
 ·obtain ⟨z,aT,r,p⟩:=h.ok I.bJ
  exact ⟨aT,r,p,z⟩
 ·refine ⟨aT.toList,r,⟨o,I.yE a o hk,hc,n,by simpa using hs⟩,?_⟩
  have e:=r.length
  simp only [Array.length_toList] at e
  omega
theorem Inv.adf (I:Inv X pins σ H s) (h:aM X.K H a xs) (h':aM X.K H a ys):xs = ys:=by
 obtain ⟨aT,r,⟨o,n,e,_,_,d⟩,_⟩:=I.list h
 obtain ⟨xj,r',⟨o',n',e',_,_,d'⟩,_⟩:=I.list h'
 rw [e] at e'; cases e'
 rw [d] at d'
 injection d' with d1 _
 have:aT = xj:=by simpa using congrArg Array.toList d1
 subst this
 exact r.inj r'
end
noncomputable abbrev Cx.GZ (X:Cx) (E:Value → Shared → Prop):Cx:={ X with xe:=E }
noncomputable abbrev Cx.cD (X:Cx):Cx:=X.GZ fun _ _=>False
theorem Cx.Ok.GZ {X:Cx} (ok:X.Ok) (E:Value → Shared → Prop):(X.GZ E).Ok :=
 ⟨ok.mod,ok.kind,ok.glob,ok.blt,ok.above,ok.inj,ok.has,ok.cab,ok.hd,ok.frames,ok.stk,ok.exf,ok.bs,ok.WQ,ok.ade,ok.adU,ok.Cb,ok.frf⟩
theorem Cx.Ok.Az {X:Cx} {E:Value → Shared → Prop} (ok:(X.GZ E).Ok):X.Ok :=
 ⟨ok.mod,ok.kind,ok.glob,ok.blt,ok.above,ok.inj,ok.has,ok.cab,ok.hd,ok.frames,ok.stk,ok.exf,ok.bs,ok.WQ,ok.ade,ok.adU,ok.Cb,ok.frf⟩
section
variable {X:Cx} {pins:List (Addr × Obj)} {σ:St} {H:Hp} {s:Shared} {E:Value → Shared → Prop}
theorem Inv.GZ (I:Inv X pins σ H s) (E:Value → Shared → Prop):Inv (X.GZ E) pins σ H s:=⟨I.ok.GZ E,I.os,I.bare,I.base,I.loc,I.cell,I.free,I.xB,I.pin,I.bJ,I.len⟩
theorem Inv.Az (I:Inv (X.GZ E) pins σ H s):Inv X pins σ H s:=⟨I.ok.Az,I.os,I.bare,I.base,I.loc,I.cell,I.free,I.xB,I.pin,I.bJ,I.len⟩
theorem SP.Az {D:Ends} {f:Flow} {s':Shared} (h:SP (X.GZ E) pins D f s'):SP X pins D f s':=by
 cases f with
 | next=>obtain ⟨σ',H',I,q⟩:=h; exact ⟨σ',H',I.Az,q⟩
 | brk=>obtain ⟨σ',H',I,q⟩:=h; exact ⟨σ',H',I.Az,q⟩
 | cont=>obtain ⟨σ',H',I,q⟩:=h; exact ⟨σ',H',I.Az,q⟩
 | ret u=>obtain ⟨v,σ',H',I,r,q⟩:=h; exact ⟨v,σ',H',I.Az,r,q⟩
theorem cg.cD {st:List Stmt} {t:TS} (h:cg X.cD st t):cg X st t:=fun pins s σ H D I hw =>
 wpAny_mono (h pins s σ H D (I.GZ _) hw) (fun _ _ q=>q.Az) fun _ _ z=>False.elim z
end
section
variable {X:Cx} {st:Stmt} {rest:List Stmt} {t u:TS} {e:Expr} {te:TE} {pos:Pos}
noncomputable def agL:TS:=fun D σ H=>D.nx σ H
noncomputable def ajk (t u:TS):TS:=fun D σ H=>t { D with nx:=u D } σ H
theorem aW:cg X [] agL:=fun _ _ σ H _ I h=>wpAny_execs_nil ⟨σ,H,I,h⟩
theorem af (h1:PS X st t) (h2:cg X rest u):cg X (st :: rest) (ajk t u):=by
 intro pins s σ H D I h
 refine wpAny_execs_cons (bR (h1 pins s σ H { D with nx:=u D } I h) fun f s1 q=>?_)
 cases f with
 | next =>
  obtain ⟨σ',H',I',q⟩:=q
  exact h2 pins s1 σ' H' D I' q
 | ret v=>exact q
 | brk=>exact q
 | cont=>exact q
theorem ao (h1:PS X st t):cg X [st] t:=by
 intro pins s σ H D I h
 refine wpAny_execs_cons (bR (h1 pins s σ H D I h) fun f s1 q=>?_)
 cases f with
 | next=>exact wpAny_execs_nil q
 | ret v=>exact q
 | brk=>exact q
 | cont=>exact q
theorem Inv.quiet {pins:List (Addr × Obj)} {σ:St} {H:Hp} {s:Shared} (I:Inv X pins σ H s):interactive X.env = false:=by simp [interactive,I.ok.kind]
noncomputable def aoi (te:TE):TS:=fun D σ H=>te σ H fun _ H1=>D.nx σ H1
theorem bf (he:PE X e te) (hs:swapsWith e none pos.line X.env = pure false:=by rfl):PS X (.Expr e pos) (aoi te):=by
 intro pins s σ H D I h
 exact wpAny_Expr_any (bR (he pins s σ H _ I h) fun v s1 ⟨x,H1,I1,r1,q1⟩=>⟨σ,H1,I1,q1⟩) I.quiet hs
noncomputable def aph (te:TE):TS:=fun D σ H=>te σ H D.rt
theorem aK (he:PE X e te):PS X (.Return (some e) pos) (aph te):=by
 intro pins s σ H D I h
 exact wpAny_Return_some (bR (he pins s σ H _ I h) fun v s1 ⟨x,H1,I1,r1,q1⟩=>⟨x,σ,H1,I1,r1,q1⟩)
noncomputable def aog:TS:=fun D _ H=>D.rt .bL H
theorem Rx:PS X (.Return none pos) aog:=fun _ _ σ H _ I h=>wpAny_Return_none ⟨.bL,σ,H,I,rfl,h⟩
noncomputable def K5 (c:TT) (t u:TS):TS:=fun D σ H=>c σ H fun b H1=>if b = true then t D σ H1 else u D σ H1
theorem bw {c:Expr} {a b:List Stmt} {tc:TT} (hc:PT X c tc) (ha:cg X a t) (hb:cg X b u):PS X (.If c a b pos) (K5 tc t u):=by
 intro pins s σ H D I h
 refine wpAny_If (bR (hc pins s σ H _ I h) fun d s1 ⟨H1,I1,q1⟩=>?_)
 cases d with
 | true=>exact ha pins s1 σ H1 D I1 q1
 | false=>exact hb pins s1 σ H1 D I1 q1
end
noncomputable abbrev TG:=V → St → Hp → (St → Hp → Prop) → Prop
noncomputable abbrev TGs:=List V → St → Hp → (St → Hp → Prop) → Prop
noncomputable def PG (X:Cx) (target:Expr) (t:TG):Prop :=
 ∀ (pins:List (Addr × Obj)) (s:Shared) (σ:St) (H:Hp) (v:V) (u:Value) (Q:St → Hp → Prop),Inv X pins σ H s → RelV v u → t v σ H Q →
  wpAny (model X.prog X.w) X.A (assign target X.env u) (fun _ s'=>∃ σ' H',Inv X pins σ' H' s' ∧ Q σ' H') X.xe s
noncomputable def PGs (X:Cx) (ts:List Expr) (t:TGs):Prop :=
 ∀ (pins:List (Addr × Obj)) (s:Shared) (σ:St) (H:Hp) (vs:List V) (us:List Value) (Q:St → Hp → Prop),Inv X pins σ H s → Vals vs us → t vs σ H Q →
  wpAny (model X.prog X.w) X.A (assignInOrder ((assignEach ts X.env).map (·.2)) us) (fun _ s'=>∃ σ' H',Inv X pins σ' H' s' ∧ Q σ' H') X.xe s
noncomputable abbrev akw:=V → V → V → Hp → (Hp → Prop) → Prop
noncomputable def an1 (X:Cx) (t:akw):Prop :=
 ∀ (pins:List (Addr × Obj)) (s:Shared) (σ:St) (H:Hp) (o i v:V) (ov iv u:Value) (Q:Hp → Prop),Inv X pins σ H s → RelV o ov → RelV i iv → RelV v u → t o i v H Q →
  wpAny (model X.prog X.w) X.A (setItem ov iv u) (fun _ s'=>∃ H',Inv X pins σ H' s' ∧ Q H') X.xe s
noncomputable abbrev TIp:=V → V → Hp → VK → Prop
noncomputable def PIp (X:Cx) (op:Operator) (t:TIp):Prop :=
 ∀ (pins:List (Addr × Obj)) (s:Shared) (σ:St) (H:Hp) (x y:V) (v u:Value) (Q:VK),Inv X pins σ H s → RelV x v → RelV y u → t x y H Q →
  wpAny (model X.prog X.w) X.A (inplaceOp op v u) (EP X pins σ Q) X.xe s
section
variable {X:Cx} {pos:Pos}
noncomputable def LW (i:Nat):TG:=fun v σ H Q=>Q (σ.set i (some v)) H
theorem dU {i:Nat} {x:Str} (hN:X.N.Nodup) (hi:X.N[i]? = some x) (hx:Loc X.env.scope x) (hf:X.fn x = true ∨ X.env.scope.names.lookup x = some .local:=by first | exact .inl rfl | exact .inr rfl | assumption):PG X (.Name x pos) (LW i):=by
 intro pins s σ H v u Q I r h
 exact wpAny_assign_Name (Tq I hN hi hx r (fun s' I'=>⟨_,H,I',h⟩) hf)
noncomputable def aqb:TGs:=fun vs σ H Q=>vs = [] ∧ Q σ H
noncomputable def aoO (t:TG) (u:TGs):TGs:=fun vs σ H Q=>∃ v r,vs = v :: r ∧ t v σ H fun σ' H'=>u r σ' H' Q
theorem XJ:PGs X [] aqb:=by
 intro pins s σ H vs us Q I r h
 obtain ⟨e,h⟩:=h
 subst e
 cases r
 exact assignInOrder_nil ⟨σ,H,I,h⟩
theorem zf {e:Expr} {es:List Expr} {t:TG} {u:TGs} (h1:PG X e t) (h2:PGs X es u)
  (hs:(assignEach (e :: es) X.env).map (·.2) = assign e X.env :: (assignEach es X.env).map (·.2):=by rfl):PGs X (e :: es) (aoO t u):=by
 intro pins s σ H vs us Q I r h
 obtain ⟨v,vr,e1,h⟩:=h
 subst e1
 cases r with
 | cons r rr =>
  rw [hs]
  refine assignInOrder_cons (bR (h1 pins s σ H _ _ _ I r h) fun _ s1 ⟨σ1,H1,I1,q1⟩=>?_)
  exact h2 pins s1 σ1 H1 _ _ Q I1 rr q1
noncomputable def ap9 (K:W.Frag) (n:Nat) (t:TGs):TG:=fun v σ H Q=>∃ a xs,v = .ref a ∧ j0 K H a xs ∧ xs.length = n ∧ t xs σ H Q
theorem acE {es:List Expr} {k:Nat} {t:TGs} {n:Nat} (hc:X.calm = true) (h:PGs X es t)
  (hn:(assignEach es X.env).length = n:=by rfl) (pA:(assignEach es X.env).findIdx? (·.1) = none:=by rfl):PG X (.Tuple es k pos) (ap9 X.K n t):=by
 intro pins s σ H v u Q I r hw
 obtain ⟨a,xs,e1,hq,hl,hw⟩:=hw
 subst e1
 cases r
 obtain ⟨aT,rv,ht,hz⟩:=I.tuple hq
 refine assign_Tuple_tuple (I.ok.hd hc) ht (by simp [hn,← hl,rv.length]) pA fun h' hx=>?_
 have I1:Inv X pins σ H { s with heap:=h' }:=I.kept (t':=s.toks) fun b o e=>hx b o (Nat.ne_of_lt (Heap.lt_size e)) e
 exact h pins _ σ H xs _ Q I1 (by simpa using rv) hw
noncomputable def aqa (to ti:TE) (t:akw):TG:=fun v σ H Q=>to σ H fun o H1=>ti σ H1 fun i H2=>t o i v H2 fun H3=>Q σ H3
theorem acF {o i:Expr} {to ti:TE} {t:akw} (ho:PE X o to) (hi:PE X i ti) (hs:an1 X t)
  (ha:∀ v,assign (.Subscript o i pos) X.env v = (do
   let ov ← holding [v] (eval o X.env)
   let iv ← holding [v,ov] (eval i X.env)
   standAt pos
   holding [v,ov,iv] (setItem ov iv v)
   release [v,ov,iv] []):=by intro _; rfl):PG X (.Subscript o i pos) (aqa to ti t):=by
 intro pins s σ H v u Q I r h
 rw [ha]
 refine wpAny_bind (wpAny_holding (bR (ho pins s σ H _ I h) fun ov s1 ⟨x,H1,I1,r1,q1⟩=>?_))
 refine wpAny_bind (wpAny_holding (bR (hi pins s1 σ H1 _ I1 q1) fun iv s2 ⟨y,H2,I2,r2,q2⟩=>?_))
 refine wpAny_bind (wpAny_standAt (wpAny_bind (wpAny_holding (bR (hs pins s2 σ H2 x y v ov iv u _ I2 r1 r2 r q2) fun _ s3 ⟨H3,I3,q3⟩=>?_))))
 exact wpAny_release ⟨σ,H3,I3,q3⟩
noncomputable def ajm (te:TE) (g:TG):TS:=fun D σ H=>te σ H fun x H1=>g x σ H1 D.nx
theorem acw {tg e:Expr} {te:TE} {g:TG} (he:PE X e te) (hg:PG X tg g) (hs:swapsWithSole [tg] e pos.line X.env = pure false:=by rfl) (hw:swappedStores [tg] e X.env = pure none:=by rfl)
  (h1:(assignEach [tg] X.env).map (·.2) = [assign tg X.env]:=by rfl):PS X (.Assign [tg] e pos) (ajm te g):=by
 intro pins s σ H D I h
 refine wpAny_Assign_stores (bR (he pins s σ H _ I h) fun v s1 ⟨x,H1,I1,r1,q1⟩=>?_) hs hw
 rw [h1]
 exact bR (hg pins s1 σ H1 x v _ I1 r1 q1) fun _ s2 q=>q
theorem bS {i:Nat} {x:Str} {e:Expr} {te:TE} {pos':Pos} (hN:X.N.Nodup) (hi:X.N[i]? = some x) (hx:Loc X.env.scope x) (he:PE X e te) (hs:swapsWith e (some (.Name x pos')) pos.line X.env = pure false:=by rfl) (hf:X.fn x = true ∨ X.env.scope.names.lookup x = some .local:=by first | exact .inl rfl | exact .inr rfl | assumption) :
  PS X (.Assign [.Name x pos'] e pos) (ajm te (LW i)):=by
 intro pins s σ H D I h
 refine wpAny_Assign_Name (bR (he pins s σ H _ I h) fun v s1 ⟨y,H1,I1,r1,q1⟩=>?_) hs
 exact Tq I1 hN hi hx r1 (fun s2 I2=>⟨_,H1,I2,q1⟩) hf
noncomputable def apn (i:Nat) (te:TE) (ti:TIp):TS:=fun D σ H=>∃ x,σ[i]? = some (some x) ∧ te σ H fun y H1=>ti x y H1 fun z H2=>D.nx (σ.set i (some z)) H2
theorem Vz {i:Nat} {x:Str} {e:Expr} {te:TE} {op:Operator} {ti:TIp} {pos':Pos} (hN:X.N.Nodup) (hi:X.N[i]? = some x) (hx:Loc X.env.scope x) (he:PE X e te) (ho:PIp X op ti) (hf:X.fn x = true ∨ X.env.scope.names.lookup x = some .local:=by first | exact .inl rfl | exact .inr rfl | assumption) :
  PS X (.AugAssign (.Name x pos') op e pos) (apn i te ti):=by
 intro pins s σ H D I h
 obtain ⟨v,e1,h⟩:=h
 obtain ⟨m,hn,hl⟩:=I.loc
 have vis:Vis X.env.scope x:=by rcases hx with k | k; exact .inl k; exact .inr (.inl k)
 obtain ⟨u,r,l⟩:=hl i x v hi e1 vis
 refine wpAny_AugAssign_Name ?_
 have go:wpAny (model X.prog X.w) X.A (eval e X.env) (fun w s₂=>wpAny (model X.prog X.w) X.A (inplaceOp op u w) (fun r s₃=>wpAny (model X.prog X.w) X.A (storeName X.env x r) (fun _=>SP X pins D .next) X.xe s₃) X.xe s₂) X.xe s:=by
  refine bR (he pins s σ H _ I h) fun w s1 ⟨y,H1,I1,r1,q1⟩=>?_
  refine bR (ho pins s1 σ H1 v y u w _ I1 r r1 q1) fun z s2 ⟨zv,H2,I2,r2,q2⟩=>?_
  exact Tq I2 hN hi hx r2 (fun s3 I3=>⟨_,H2,I3,q2⟩) hf
 rcases l with ⟨hk,hm⟩ | ⟨hk,c,hc,abo⟩
 ·exact wpAny_loadName_local I.ok.kind hk hn hm go
 ·rcases hk with hk | hk
  ·exact wpAny_loadName_cell I.ok.kind hk hc abo go
  ·rcases hx with k | k
   ·have:X.env.scope.names.lookup x = some .free:=hk
    rw [k] at this; cases this
   ·have:X.env.scope.names.lookup x = some .free:=hk
    rw [k] at this; cases this
noncomputable def ipI (f:Int → Int → Int):TIp:=fun x y H Q=>∃ i j,x = .int i ∧ y = .int j ∧ Q (.int (f i j)) H
theorem Wc:PIp X .Add (ipI fun i j=>i + j):=by
 intro pins s σ H x y v u Q I r1 r2 h
 obtain ⟨i,j,e1,e2,q⟩:=h
 subst e1; subst e2
 obtain ⟨t,rfl⟩:=r1
 obtain ⟨t',rfl⟩:=r2
 exact iadd_int ⟨.int _,H,I.tok _,⟨_,rfl⟩,q⟩
end
section
variable {X:Cx} {pos:Pos}
noncomputable def amt (c:TT) (tb:TS):TS:=fun D σ H=>∃ W:Nat → St → Hp → Prop,(∃ m,W m σ H) ∧ ∀ m σ H,W m σ H →
 c σ H fun b H1=>if b = true then ∃ N:St → Hp → Prop,(∀ σ' H',N σ' H' → ∃ m',m' < m ∧ W m' σ' H') ∧ tb { D with nx:=N,ct:=N,bk:=D.nx } σ H1 else D.nx σ H1
theorem acv {c:Expr} {body:List Stmt} {tc:TT} {tb:TS} (hp:PassesOwn (model X.prog X.w) X.A X.env X.xe) (hc:PT X c tc) (hb:cg X body tb):PS X (.While c body [] pos) (amt tc tb):=by
 intro pins s σ H D I h
 obtain ⟨W,⟨m0,w0⟩,turn⟩:=h
 refine wpAny_While (codeAny_whileLoop (fun n s'=>∃ σ' H',Inv X pins σ' H' s' ∧ W n σ' H') ?_ m0 ⟨σ,H,I,w0⟩)
 rintro n s1 ⟨σ1,H1,I1,w1⟩
 refine wpAny_passesOwn hp (bR (hc pins s1 σ1 H1 _ I1 (turn n σ1 H1 w1)) fun b s2 ⟨H2,I2,q2⟩=>?_)
 cases b with
 | true =>
  obtain ⟨N,hN,q2⟩:=q2
  rw [if_pos rfl]
  refine wpAny_passesOwn hp (bR (hb pins s2 σ1 H2 _ I2 q2) fun f s3 q3=>?_)
  cases f with
  | next =>
   obtain ⟨σ3,H3,I3,n3⟩:=q3
   obtain ⟨m',hm,w3⟩:=hN σ3 H3 n3
   exact ⟨m',hm,σ3,H3,I3,w3⟩
  | cont =>
   obtain ⟨σ3,H3,I3,n3⟩:=q3
   obtain ⟨m',hm,w3⟩:=hN σ3 H3 n3
   exact ⟨m',hm,σ3,H3,I3,w3⟩
  | brk=>exact q3
  | ret v=>exact q3
 | false =>
  rw [if_neg Bool.false_ne_true]
  exact wpAny_execs_nil ⟨σ1,H2,I2,q2⟩
end
structure It where
 go:Nat → Hp → Prop
 U3:Nat → Hp → V → Hp → Prop
 stop:Nat → Hp → Prop
noncomputable def FH (X:Cx) (pins:List (Addr × Obj)) (H:Hp) (b:Addr):Prop :=
 H b = none ∧ b ≠ X.env.locals ∧ b ∉ X.fs ∧ (b ∈ X.ex ∨ X.vz.heap.objs.size ≤ b) ∧ (∀ x c,X.env.cells.lookup x = some c → c ≠ b) ∧ ∀ p ∈ X.pn ++ pins,p.1 ≠ b
theorem Inv.adQ {X:Cx} {pins:List (Addr × Obj)} {σ:St} {H H':Hp} {s:Shared} {b:Addr} (I:Inv X pins σ H s) (hb:s.heap.objs.size ≤ b) (hn:H' b = none):FH X pins H' b:=by
 refine ⟨hn,Nat.ne_of_gt (Nat.lt_of_lt_of_le I.lt hb),I.apA hb,.inr (Nat.le_trans I.sz hb),fun x c e z=>?_,fun p hp z=>?_⟩
 ·obtain ⟨v,q⟩:=I.cell x c e
  exact absurd (Nat.lt_of_lt_of_le q.lt (by rw [z]; exact hb)) (Nat.lt_irrefl _)
 ·exact absurd (Nat.lt_of_lt_of_le (Heap.lt_size (I.pin p hp).1) (by rw [z]; exact hb)) (Nat.lt_irrefl _)
structure Turn (P:Program) (w:World) (K:W.Frag) (tg:Expr) (J:It) (fp:List Addr) (it:Addr) (tn:Nat → Heap → Prop):Prop where
 mem:it ∈ fp
 obj:∀ i h,tn i h → ∀ b ∈ fp,∃ o,h.get? b = some o ∧ ∀ v,o.data ≠ .cell v
 keep:∀ i h h',tn i h → (∀ b ∈ fp,∀ o,h.get? b = some o → h'.get? b = some o) → tn i h'
 item:∀ (X:Cx),X.prog = P → X.w = w → X.K = K → X.calm = true → ∀ (i:Nat) (pins:List (Addr × Obj)) (s:Shared) (σ:St) (H:Hp) (E:Value → Shared → Prop),Inv X pins σ H s → (∀ b ∈ fp,FH X pins H b) → tn i s.heap → J.go i H →
  wpAny (model P w) X.A (pyNext (.ref it)) (fun r s1=>∃ u,r = some u ∧
   wpAny (model P w) X.A (letOwnedTupleGo tg (.ref it) u) (fun _ s2=>∃ x H',Inv X pins σ H' s2 ∧ RelV x u ∧ J.U3 i H x H' ∧ tn (i + 1) s2.heap ∧ ∀ b ∈ fp,H' b = none) E s1) E s
 done:∀ (X:Cx),X.prog = P → X.w = w → X.K = K → X.calm = true → ∀ (i:Nat) (pins:List (Addr × Obj)) (s:Shared) (σ:St) (H:Hp) (E:Value → Shared → Prop),Inv X pins σ H s → (∀ b ∈ fp,FH X pins H b) → tn i s.heap → J.stop i H →
  wpAny (model P w) X.A (pyNext (.ref it)) (fun r s1=>r = none ∧ Inv X pins σ H s1) E s
 self:∀ (A:Around) (i:Nat) (s:Shared) (Q:Value → Shared → Prop) (E:Value → Shared → Prop),tn i s.heap → Q (.ref it) s → wpAny (model P w) A (pyIter (.ref it)) Q E s
noncomputable abbrev TI:=St → Hp → (It → Hp → Prop) → Prop
noncomputable def PIE (X:Cx) (pins:List (Addr × Obj)) (σ:St) (tg:Expr) (R:It → Hp → Prop) (itv:Value) (s2:Shared):Prop :=
 ∃ (it:Addr) (fp:List Addr) (tn:Nat → Heap → Prop) (J:It) (H':Hp),itv = .ref it ∧ Inv X pins σ H' s2 ∧ Turn X.prog X.w X.K tg J fp it tn ∧ tn 0 s2.heap ∧ (∀ b ∈ fp,FH X pins H' b) ∧ R J H'
noncomputable def PI (X:Cx) (tg iter:Expr) (wi:TI):Prop :=
 ∀ (pins:List (Addr × Obj)) (s:Shared) (σ:St) (H:Hp) (R:It → Hp → Prop),Inv X pins σ H s → wi σ H R →
  wpAny (model X.prog X.w) X.A (eval iter X.env) (fun v s1=>wpAny (model X.prog X.w) X.A (pyIter v) (PIE X pins σ tg R) X.xe s1) X.xe s
theorem ahA {M:Model} {A:Around} {E:Value → Shared → Prop} {s:Shared} {tg:Expr} {it:Addr} {u:Value} {o:Obj} {n:String} {vs:Array Value} {Q:Unit → Shared → Prop} (ho:s.heap.get? it = some o) (hc:o.cls = .type n) (hd:o.data = .fields vs)
  (hn:["enumerate","zip","dict_itemiterator","dict_reverseitemiterator","odict_iterator","itertools.zip_longest","itertools.pairwise"].contains n = false) (hQ:Q () s):wpAny M A (letOwnedTupleGo tg (.ref it) u) Q E s:=by
 unfold letOwnedTupleGo
 cases tg <;> first
  | exact wpAny_pure hQ
  | (cases u <;> first
    | exact wpAny_pure hQ
    | (refine wpAny_bind (wpAny_load ho ?_)
       rw [hc,hd]
       show wpAny M A (if (["enumerate","zip","dict_itemiterator","dict_reverseitemiterator","odict_iterator","itertools.zip_longest","itertools.pairwise"].contains n && vs[0]? == some (rawInt _)) = true then _ else _) Q E s
       rw [if_neg (by intro h; rw [hn,Bool.false_and] at h; cases h)]
       exact wpAny_pure hQ))
noncomputable def Itl (K:W.Frag) (a:Addr):It :=
 ⟨fun i H=>∃ xs x,aM K H a xs ∧ xs[i]? = some x,fun i H x H'=>H' = H ∧ ∀ xs,aM K H a xs → xs[i]? = some x,fun i H=>∃ xs,aM K H a xs ∧ xs.length ≤ i⟩
noncomputable def W6 (lo:Int) (n:Nat):It:=⟨fun i _=>i < n,fun i H x H'=>H' = H ∧ x = .int (lo + i),fun i _=>n ≤ i⟩
theorem ahW {P:Program} {w:World} {K:W.Frag} {tg:Expr} (a it:Addr):Turn P w K tg (Itl K a) [it] it (fun i h=>h.IsListIter it a i) where
 mem:=by simp
 obj:=fun i h st b hb=>by
  have e:b = it:=by simpa using hb
  subst e
  obtain ⟨o,e,c,d⟩:=st
  exact ⟨o,e,fun v z=>by rw [d] at z; cases z⟩
 keep:=fun i h h' st k=>st.at fun o e=>k it (by simp) o e
 item:=by
  intro X hP hw hK hc i pins s σ H E I hf st hg
  subst hP hw hK
  obtain ⟨xs,x,hq,hx⟩:=hg
  obtain ⟨aT,rv,p,hz⟩:=I.list hq
  obtain ⟨u,hu,ru⟩:=rv.get hx
  obtain ⟨f0,f1,f2,f3,f4,f5⟩:=hf it (by simp)
  refine wpAny_pyNext_list_item st p.isList (x:=u) (by simpa using hu) fun h' lq sb=>?_
  have I1:Inv X pins σ H { s with heap:=h' }:=I.turned (t':=s.toks) (fun b o hb e=>(sb.2 b hb).trans e) f0 f1 f3 f4 f5
  obtain ⟨o,e,c,d⟩:=id lq
  exact ⟨u,rfl,ahA (s:={ s with heap:=h' }) e c d (by decide) ⟨x,H,I1,ru,⟨rfl,fun ys hy=>by rw [I.adf hy hq]; exact hx⟩,lq,fun b hb=>(hf b hb).1⟩⟩
 done:=by
  intro X hP hw hK hc i pins s σ H E I hf st hg
  subst hP hw hK
  obtain ⟨xs,hq,hx⟩:=hg
  obtain ⟨aT,rv,p,hz⟩:=I.list hq
  obtain ⟨f0,f1,f2,f3,f4,f5⟩:=hf it (by simp)
  have hl:=rv.length
  exact wpAny_pyNext_list_end (I.ok.hd hc) st p.isList (by simp; omega) fun h' eb=>⟨rfl,I.turned (t':=s.toks) (fun b o hb e=>eb b o hb e) f0 f1 f3 f4 f5⟩
 self:=fun _ _ _ _ _ st h=>wpAny_pyIter_listiter st h
theorem agu {P:Program} {w:World} {K:W.Frag} {tg:Expr} (it:Addr) (lo:Int) (n:Nat):Turn P w K tg (W6 lo n) [it] it (fun i h=>IsRangeIter h it (lo + (i:Nat) * 1) ((n:Int) - (i:Nat)) 1) where
 mem:=by simp
 obj:=fun i h st b hb=>by
  have e:b = it:=by simpa using hb
  subst e
  exact ⟨_,st,fun v z=>by
   have z':Data.fields _ = Data.cell v:=z
   cases z'⟩
 keep:=fun i h h' st k=>k it (by simp) _ st
 item:=by
  intro X hP hw hK hc i pins s σ H E I hf st hg
  subst hP hw hK
  obtain ⟨f0,f1,f2,f3,f4,f5⟩:=hf it (by simp)
  have W:=Walks.range (prog:=X.prog) (w:=X.w) (I.ok.hd hc) it lo 1 n
  refine W.item i s _ _ hg st fun v h' tk hv lq kk=>?_
  obtain ⟨t,rfl⟩:=hv
  have I1:Inv X pins σ H { s with heap:=h',toks:=tk }:=I.turned (fun b o hb e=>kk b o (by simpa using hb) e) f0 f1 f3 f4 f5
  refine ⟨_,rfl,ahA (s:={ s with heap:=h',toks:=tk }) (n:="range_iterator") lq rfl rfl (by decide) ⟨.int (lo + i),H,I1,⟨t,?_⟩,⟨rfl,rfl⟩,lq,fun b hb=>(hf b hb).1⟩⟩
  rw [Int.mul_one]
 done:=by
  intro X hP hw hK hc i pins s σ H E I hf st hg
  subst hP hw hK
  obtain ⟨f0,f1,f2,f3,f4,f5⟩:=hf it (by simp)
  exact wpAny_pyNext_range_end (I.ok.hd hc) st (by have:n ≤ i:=hg; omega) fun h' eb=>⟨rfl,I.turned (t':=s.toks) (fun b o hb e=>eb b o hb e) f0 f1 f3 f4 f5⟩
 self:=fun _ _ _ _ _ st h=>wpAny_pyIter_rangeiter st h
end L2
namespace L2
open PySem PySem.Spec PyProof.Rows
section
variable {X:Cx} {tg:Expr}
noncomputable def aox (K:W.Frag) (tl:TE):TI:=fun σ H R=>tl σ H fun x H1=>∃ a,x = .ref a ∧ (∃ xs,aM K H1 a xs) ∧ R (Itl K a) H1
theorem ir {l:Expr} {tl:TE} (hl:PE X l tl):PI X tg l (aox X.K tl):=by
 intro pins s σ H R I h
 refine bR (hl pins s σ H _ I h) fun v s1 ⟨x,H1,I1,r1,q1⟩=>?_
 obtain ⟨a,e,⟨xs,hq⟩,q⟩:=q1
 subst e
 cases r1
 obtain ⟨aT,rv,p,hz⟩:=I1.list hq
 refine wpAny_pyIter_list p.isList ?_
 refine ⟨s1.heap.objs.size,[s1.heap.objs.size],_,_,H1,rfl,I1.kept (t':=s1.toks) fun b o e=>Heap.get?_push_of_some _ e,ahW a _,⟨_,Heap.get?_push_size _ rfl,rfl,rfl⟩,fun b hb=>?_,q⟩
 have e:b = s1.heap.objs.size:=by simpa using hb
 subst e
 exact I1.adQ (Nat.le_refl _) (I1.bJ.fresh (Nat.le_refl _))
theorem ajD {pins:List (Addr × Obj)} {σ:St} {H:Hp} {s:Shared} {R:It → Hp → Prop} {E:Value → Shared → Prop} {lo hi:Int} {t u v:Tok} {tk:Nat} (I:Inv X pins σ H s) (h1:-(2 ^ 62) ≤ lo) (h2:lo < 2 ^ 62) (h3:-(2 ^ 62) ≤ hi) (h4:hi < 2 ^ 62)
  (q:R (W6 lo (hi - lo).toNat) H):wpAny (model X.prog X.w) X.A (pyIter (.ref s.heap.objs.size)) (PIE X pins σ tg R) E { s with heap:=s.heap.push { cls:=.type "range",data:=.fields #[.int lo t,.int hi u,.int 1 v] },toks:=tk }:=by
 refine wpAny_pyIter_range (IsRange.new ..) (small_one h1 h2 h3 h4) ?_
 have I1:Inv X pins σ H { s with heap:=s.heap.push { cls:=.type "range",data:=.fields #[.int lo t,.int hi u,.int 1 v] },toks:=tk }:=I.kept fun b o e=>Heap.get?_push_of_some _ e
 refine ⟨(s.heap.push { cls:=.type "range",data:=.fields #[.int lo t,.int hi u,.int 1 v] }).objs.size,[(s.heap.push { cls:=.type "range",data:=.fields #[.int lo t,.int hi u,.int 1 v] }).objs.size],_,_,H,rfl,
  I1.kept (t':=tk) fun b o e=>Heap.get?_push_of_some _ e,agu _ lo (hi - lo).toNat,?_,fun b hb=>?_,q⟩
 ·have e1:lo + ((0:Nat):Int) * 1 = lo:=by simp
  have e2:(((hi - lo).toNat:Nat):Int) - ((0:Nat):Int) = Builtin.Range.rangeSize lo hi 1:=by rw [rangeSize_one]; split <;> omega
  show IsRangeIter _ _ (lo + ((0:Nat):Int) * 1) ((((hi - lo).toNat:Nat):Int) - ((0:Nat):Int)) 1
  rw [e1,e2]
  exact Heap.get?_push_size _ rfl
 ·have e:b = (s.heap.push { cls:=.type "range",data:=.fields #[.int lo t,.int hi u,.int 1 v] }).objs.size:=by simpa using hb
  subst e
  exact I1.adQ (Nat.le_refl _) (I1.bJ.fresh (Nat.le_refl _))
noncomputable def aow (ta:TA):TI:=fun σ H R=>ta σ H fun vs H1=>∃ j:Int,vs = [.int j] ∧ -(2 ^ 62) ≤ j ∧ j < 2 ^ 62 ∧ R (W6 0 j.toNat) H1
theorem OF {a:Expr} {ta:TA} {p pos:Pos} (hg:Gl X "range") (hm:X.mg "range" = none) (ha:PA X [a] ta) (hs:starEach [a] X.env = [(false,eval a X.env)]:=by rfl):PI X tg (.Call (.Name "range" p) [a] [] pos) (aow ta):=by
 intro pins s σ H R I h
 refine Call_ (O8 I hg hm boot_range (PyProof.Rows.callWith_type1 (bR (ha pos pins s σ H _ I h) fun us s1 ⟨vs,H1,I1,r1,q1⟩=>?_) hs rfl))
 obtain ⟨j,e,q1,q2,q⟩:=q1
 subst e
 cases r1 with
 | cons r rr =>
  cases rr
  obtain ⟨t,rfl⟩:=r
  exact call_range_1 (ajD I1 (by omega) (by omega) q1 q2 (by simpa using q))
noncomputable def apl (wi:TI) (g:TG) (tb:TS):TS:=fun D σ H=>wi σ H fun J H1=>∃ W:Nat → Nat → St → Hp → Prop,(∃ m,W 0 m σ H1) ∧ ∀ i m σ H,W i m σ H →
 (J.stop i H ∧ D.nx σ H) ∨ (J.go i H ∧ ∃ N:St → Hp → Prop,(∀ σ' H',N σ' H' → ∃ m',m' < m ∧ W (i + 1) m' σ' H') ∧ ∀ x H',J.U3 i H x H' → g x σ H' fun σ2 H2=>tb { D with nx:=N,ct:=N,bk:=D.nx } σ2 H2)
noncomputable def OE (fp:List Addr) (h:Heap):List (Addr × Obj):=fp.filterMap fun b=>(h.get? b).map fun o=>(b,o)
theorem LC {fp:List Addr} {h:Heap} {b:Addr} {o:Obj} (hb:b ∈ fp) (e:h.get? b = some o):(b,o) ∈ OE fp h:=List.mem_filterMap.mpr ⟨b,hb,by rw [e]; rfl⟩
theorem aiu {fp:List Addr} {h:Heap} {p:Addr × Obj} (hp:p ∈ OE fp h):p.1 ∈ fp ∧ h.get? p.1 = some p.2:=by
 obtain ⟨b,hb,e⟩:=List.mem_filterMap.mp hp
 cases q:h.get? b with
 | none=>rw [q] at e; cases e
 | some o =>
  rw [q] at e
  have e':(b,o) = p:=Option.some.inj e
  subst e'
  exact ⟨hb,q⟩
theorem Inv.pinned {pins:List (Addr × Obj)} {σ:St} {H:Hp} {s:Shared} {fp:List Addr} (I:Inv X pins σ H s) (hf:∀ b ∈ fp,FH X pins H b) (ho:∀ b ∈ fp,∃ o,s.heap.get? b = some o ∧ ∀ v,o.data ≠ .cell v):Inv X (pins ++ OE fp s.heap) σ H s :=
 I.afG fun p hp=>(List.mem_append.mp hp).elim (fun z=>I.pin p (List.mem_append_right _ z)) fun z=>by
  obtain ⟨hb,e⟩:=aiu z
  obtain ⟨f0,f1,f2,_⟩:=hf p.1 hb
  obtain ⟨o,e',d⟩:=ho p.1 hb
  rw [e] at e'; cases e'
  exact ⟨e,f0,f1,f2,d⟩
theorem Inv.K0 {pins pl:List (Addr × Obj)} {σ:St} {H:Hp} {s:Shared} (I:Inv X (pins ++ pl) σ H s):Inv X pins σ H s:=I.afG fun p hp=>I.pin p (List.mem_append_right _ (List.mem_append_left _ hp))
theorem jX {iter:Expr} {body:List Stmt} {wi:TI} {g:TG} {tb:TS} {pos:Pos} (hp:PassesOwn (model X.prog X.w) X.A X.env X.xe) (hc:X.calm = true) (hi:PI X tg iter wi) (hg:PG X tg g) (hb:cg X body tb)
  (hs:∀ x,foldedSetIterable iter X.env x = pure x:=by intro _; rfl):PS X (.For tg iter body [] pos) (apl wi g tb):=by
 intro pins s σ H D I h
 refine wpAny_For (bR (hi pins s σ H _ I h) fun v s1 h1=>bR h1 fun itv s2 h2=>?_) hs
 obtain ⟨it,fp,tn,J,H2,e,I2,T,c7,f2,W,⟨m0,w0⟩,turn⟩:=h2
 subst e
 have Tr:∀ {H':Hp},(∀ b ∈ fp,H' b = none) → ∀ b ∈ fp,FH X pins H' b:=fun hn b hb=>⟨hn b hb,(f2 b hb).2⟩
 refine codeAny_forLoop_any (fun n s'=>∃ i σ' H',Inv X pins σ' H' s' ∧ tn i s'.heap ∧ (∀ b ∈ fp,H' b = none) ∧ W i n σ' H') ?_ m0 ⟨0,σ,H2,I2,c7,fun b hb=>(f2 b hb).1,w0⟩
 rintro n s3 ⟨i,σ3,H3,I3,m5,fr3,w3⟩
 rcases turn i n σ3 H3 w3 with ⟨stop,qn⟩ | ⟨go,N,hN,step⟩
 ·refine wpAny_passesOwn hp (bR (T.done X rfl rfl rfl hc i pins s3 σ3 H3 X.xe I3 (Tr fr3) m5 stop) fun r s4 ⟨hr,I4⟩=>?_)
  subst hr
  exact wpAny_execs_nil ⟨σ3,H3,I4,qn⟩
 ·refine wpAny_passesOwn hp (bR (T.item X rfl rfl rfl hc i pins s3 σ3 H3 X.xe I3 (Tr fr3) m5 go) fun r s4 ⟨u,hr,h4⟩=>?_)
  subst hr
  refine wpAny_passesOwn hp (bR h4 fun _ s5 ⟨x,H5,I5,r5,y5,Zs,fr5⟩=>?_)
  have I5':=I5.pinned (Tr fr5) (T.obj _ _ Zs)
  refine wpAny_passesOwn hp (bR (hg _ s5 σ3 H5 x u _ I5' r5 (step x H5 y5)) fun _ s6 ⟨σ6,H6,I6,q6⟩=>?_)
  refine wpAny_passesOwn hp (bR (hb _ s6 σ6 H6 _ I6 q6) fun f s7 q7=>?_)
  have again:∀ {σ7:St} {H7:Hp},Inv X (pins ++ OE fp s5.heap) σ7 H7 s7 → N σ7 H7 → ∃ m,m < n ∧ ∃ i σ' H',Inv X pins σ' H' s7 ∧ tn i s7.heap ∧ (∀ b ∈ fp,H' b = none) ∧ W i m σ' H':=fun {σ7 H7} I7 n7=>by
   obtain ⟨m',hm,w7⟩:=hN σ7 H7 n7
   refine ⟨m',hm,i + 1,σ7,H7,I7.K0,T.keep _ _ _ Zs fun b hb o e=>(I7.pin (b,o) (List.mem_append_right _ (List.mem_append_right _ (LC hb e)))).1,fun b hb=>?_,w7⟩
   obtain ⟨o,e,d⟩:=T.obj _ _ Zs b hb
   exact (I7.pin (b,o) (List.mem_append_right _ (List.mem_append_right _ (LC hb e)))).2.1
  cases f with
  | next=>obtain ⟨σ7,H7,I7,n7⟩:=q7; exact again I7 n7
  | cont=>obtain ⟨σ7,H7,I7,n7⟩:=q7; exact again I7 n7
  | brk=>obtain ⟨σ7,H7,I7,q7⟩:=q7; exact ⟨σ7,H7,I7.K0,q7⟩
  | ret v=>obtain ⟨x7,σ7,H7,I7,r7,q7⟩:=q7; exact ⟨x7,σ7,H7,I7.K0,r7,q7⟩
end
theorem iK {K:W.Frag} {a:Addr} {xs:List V} {g:TG} {tb:TS} {D:Ends} {σ:St} {H:Hp} (Pv:Nat → St → Hp → Prop) (h0:Pv 0 σ H) (hl:∀ i σ H,i ≤ xs.length → Pv i σ H → aM K H a xs)
  (hs:∀ i x σ H,xs[i]? = some x → Pv i σ H → g x σ H fun σ2 H2=>tb { D with nx:=Pv (i + 1),ct:=Pv (i + 1),bk:=D.nx } σ2 H2) (hd:∀ σ H,Pv xs.length σ H → D.nx σ H) :
  ∃ W:Nat → Nat → St → Hp → Prop,(∃ m,W 0 m σ H) ∧ ∀ i m σ H,W i m σ H →
   ((Itl K a).stop i H ∧ D.nx σ H) ∨ ((Itl K a).go i H ∧ ∃ N:St → Hp → Prop,(∀ σ' H',N σ' H' → ∃ m',m' < m ∧ W (i + 1) m' σ' H') ∧ ∀ x H',(Itl K a).U3 i H x H' → g x σ H' fun σ2 H2=>tb { D with nx:=N,ct:=N,bk:=D.nx } σ2 H2):=by
 refine ⟨fun i m σ H=>m = xs.length - i ∧ i ≤ xs.length ∧ Pv i σ H,⟨xs.length,by simp,Nat.zero_le _,h0⟩,?_⟩
 rintro i m σ H ⟨rfl,hi,p⟩
 have q:=hl i σ H hi p
 by_cases fk:i < xs.length
 ·refine .inr ⟨⟨xs,xs[i],q,by simp [fk]⟩,Pv (i + 1),fun σ' H' p'=>⟨xs.length - (i + 1),by omega,rfl,fk,p'⟩,fun x H' y=>?_⟩
  obtain ⟨e,y⟩:=y
  subst e
  exact hs i x σ _ (y xs q) p
 ·have e:i = xs.length:=by omega
  subst e
  exact .inl ⟨⟨xs,q,Nat.le_refl _⟩,hd σ H p⟩
theorem aiO {lo:Int} {n:Nat} {g:TG} {tb:TS} {D:Ends} {σ:St} {H:Hp} (Pv:Nat → St → Hp → Prop) (h0:Pv 0 σ H)
  (hs:∀ i σ H,i < n → Pv i σ H → g (.int (lo + i)) σ H fun σ2 H2=>tb { D with nx:=Pv (i + 1),ct:=Pv (i + 1),bk:=D.nx } σ2 H2) (hd:∀ σ H,Pv n σ H → D.nx σ H) :
  ∃ W:Nat → Nat → St → Hp → Prop,(∃ m,W 0 m σ H) ∧ ∀ i m σ H,W i m σ H →
   ((W6 lo n).stop i H ∧ D.nx σ H) ∨ ((W6 lo n).go i H ∧ ∃ N:St → Hp → Prop,(∀ σ' H',N σ' H' → ∃ m',m' < m ∧ W (i + 1) m' σ' H') ∧ ∀ x H',(W6 lo n).U3 i H x H' → g x σ H' fun σ2 H2=>tb { D with nx:=N,ct:=N,bk:=D.nx } σ2 H2):=by
 refine ⟨fun i m σ H=>m = n - i ∧ i ≤ n ∧ Pv i σ H,⟨n,by simp,Nat.zero_le _,h0⟩,?_⟩
 rintro i m σ H ⟨rfl,hi,p⟩
 by_cases fk:i < n
 ·refine .inr ⟨fk,Pv (i + 1),fun σ' H' p'=>⟨n - (i + 1),by omega,rfl,fk,p'⟩,fun x H' y=>?_⟩
  obtain ⟨e,y⟩:=y
  subst e y
  exact hs i σ _ fk p
 ·have e:i = n:=by omega
  subst e
  exact .inl ⟨Nat.le_refl _,hd σ H p⟩
end L2
namespace L2
open PySem PySem.Spec PyProof.Rows
noncomputable abbrev R2:=V → V → Hp → VK → Prop
noncomputable def rQ (X:Cx) (f:Value → Value → Sem Value) (r:R2):Prop :=
 ∀ (pins:List (Addr × Obj)) (s:Shared) (σ:St) (H:Hp) (x y:V) (v u:Value) (Q:VK),Inv X pins σ H s → RelV x v → RelV y u → r x y H Q →
  wpAny (model X.prog X.w) X.A (f v u) (EP X pins σ Q) X.xe s
noncomputable def UnR (X:Cx) (f:Value → Sem Value) (r:V → Hp → VK → Prop):Prop :=
 ∀ (pins:List (Addr × Obj)) (s:Shared) (σ:St) (H:Hp) (x:V) (v:Value) (Q:VK),Inv X pins σ H s → RelV x v → r x H Q →
  wpAny (model X.prog X.w) X.A (f v) (EP X pins σ Q) X.xe s
noncomputable def Dv (X:Cx) (f:Value) (r:List V → Hp → VK → Prop):Prop :=
 ∀ (pins:List (Addr × Obj)) (s:Shared) (σ:St) (H:Hp) (xs:List V) (us:List Value) (Q:VK),Inv X pins σ H s → Vals xs us → r xs H Q →
  wpAny (model X.prog X.w) X.A (call f us) (EP X pins σ Q) X.xe s
noncomputable def aqn (X:Cx) (r:V → Hp → (Bool → Hp → Prop) → Prop):Prop :=
 ∀ (pins:List (Addr × Obj)) (s:Shared) (σ:St) (H:Hp) (x:V) (v:Value) (Q:Bool → Hp → Prop),Inv X pins σ H s → RelV x v → r x H Q →
  wpAny (model X.prog X.w) X.A (truthy v) (TP X pins σ Q) X.xe s
noncomputable def tOp (r:R2) (ta tb:TE):TE:=fun σ H Q=>ta σ H fun x H1=>tb σ H1 fun y H2=>r x y H2 Q
noncomputable def tUn (r:V → Hp → VK → Prop) (ta:TE):TE:=fun σ H Q=>ta σ H fun x H1=>r x H1 Q
noncomputable def rI (C:Int → Int → Prop) (g:Int → Int → V):R2:=fun x y H Q=>∃ i j,x = .int i ∧ y = .int j ∧ C i j ∧ Q (g i j) H
noncomputable def Zu (g:Int → Int → V):R2:=fun x y H Q=>∃ i j,x = .int i ∧ y = .int j ∧ Q (g i j) H
noncomputable def rU (g:Int → V):V → Hp → VK → Prop:=fun x H Q=>∃ i,x = .int i ∧ Q (g i) H
section
variable {X:Cx} {a b c:Expr} {ta tb tc:TE} {pos:Pos}
theorem akr (ha:PE X a ta) (hb:PE X b tb) {pins:List (Addr × Obj)} {s:Shared} {σ:St} {H:Hp} {R:V → V → Hp → Prop} (I:Inv X pins σ H s)
  (h:ta σ H fun x H1=>tb σ H1 fun y H2=>R x y H2) {Q:Value → Shared → Prop} {f:Value → Value → Sem Value}
  (hf:∀ v u s2 x y H2,Inv X pins σ H2 s2 → RelV x v → RelV y u → R x y H2 → wpAny (model X.prog X.w) X.A (f v u) Q X.xe s2) :
  wpAny (model X.prog X.w) X.A (eval a X.env) (fun v s₁=>wpAny (model X.prog X.w) X.A (eval b X.env) (fun u s₂=>wpAny (model X.prog X.w) X.A (f v u) Q X.xe s₂) X.xe s₁) X.xe s:=by
 refine bR (ha pins s σ H _ I h) fun v s1 ⟨x,H1,I1,r1,q1⟩=>?_
 refine bR (hb pins s1 σ H1 _ I1 q1) fun u s2 ⟨y,H2,I2,r2,q2⟩=>?_
 exact hf v u s2 x y H2 I2 r1 r2 q2
theorem j1 {op:Operator} {r:R2} (ho:rQ X (binaryOp op) r) (ha:PE X a ta) (hb:PE X b tb):PE X (.BinOp a op b pos) (tOp r ta tb):=by
 intro pins s σ H Q I h
 exact wpAny_BinOp (akr ha hb I h fun v u s2 x y H2 I2 rx ry q=>ho pins s2 σ H2 x y v u Q I2 rx ry q)
theorem kZ {op:UnaryOp} {r:V → Hp → VK → Prop} (ho:UnR X (unaryOp op) r) (ha:PE X a ta):PE X (.UnaryOp op a pos) (tUn r ta):=by
 intro pins s σ H Q I h
 exact UnaryOp_ (bR (ha pins s σ H _ I h) fun v s1 ⟨x,H1,I1,r1,q1⟩=>ho pins s1 σ H1 x v Q I1 r1 q1)
theorem opI {f:Value → Value → Sem Value} {C:Int → Int → Prop} {g:Int → Int → Int}
  (rule:∀ (i j:Int) (t u:Tok) (s:Shared) (Q:Value → Shared → Prop) (E:Value → Shared → Prop),C i j → Q (.int (g i j) s.toks) { s with toks:=s.toks + 1 } → wpAny (model X.prog X.w) X.A (f (.int i t) (.int j u)) Q E s) :
  rQ X f (rI C fun i j=>.int (g i j)):=by
 intro pins s σ H x y v u Q I rx ry h
 obtain ⟨i,j,rfl,rfl,hc,q⟩:=h
 obtain ⟨t,rfl⟩:=rx
 obtain ⟨t',rfl⟩:=ry
 exact rule i j t t' s _ _ hc ⟨.int (g i j),H,I.tok _,⟨_,rfl⟩,q⟩
theorem amU {f:Value → Value → Sem Value} {g:Int → Int → Int}
  (rule:∀ (i j:Int) (t u:Tok) (s:Shared) (Q:Value → Shared → Prop) (E:Value → Shared → Prop),Q (.int (g i j) s.toks) { s with toks:=s.toks + 1 } → wpAny (model X.prog X.w) X.A (f (.int i t) (.int j u)) Q E s) :
  rQ X f (Zu fun i j=>.int (g i j)):=by
 intro pins s σ H x y v u Q I rx ry h
 obtain ⟨i,j,rfl,rfl,q⟩:=h
 obtain ⟨t,rfl⟩:=rx
 obtain ⟨t',rfl⟩:=ry
 exact rule i j t t' s _ _ ⟨.int (g i j),H,I.tok _,⟨_,rfl⟩,q⟩
theorem agY {f:Value → Value → Sem Value} {g:Int → Int → Bool}
  (rule:∀ (i j:Int) (t u:Tok) (s:Shared) (Q:Value → Shared → Prop) (E:Value → Shared → Prop),Q (.bool (g i j)) s → wpAny (model X.prog X.w) X.A (f (.int i t) (.int j u)) Q E s) :
  rQ X f (Zu fun i j=>.bl (g i j)):=by
 intro pins s σ H x y v u Q I rx ry h
 obtain ⟨i,j,rfl,rfl,q⟩:=h
 obtain ⟨t,rfl⟩:=rx
 obtain ⟨t',rfl⟩:=ry
 exact rule i j t t' s _ _ ⟨.bl (g i j),H,I,rfl,q⟩
theorem jY:rQ X (binaryOp .Add) (Zu fun i j=>.int (i + j)):=amU fun _ _ _ _ _ _ _ q=>add_int q
theorem amQ:rQ X (binaryOp .Sub) (Zu fun i j=>.int (i - j)):=amU fun _ _ _ _ _ _ _ q=>sub_int q
theorem amR:rQ X (binaryOp .Mod) (rI (fun _ j=>0 < j) fun i j=>.int (i % j)):=opI fun i j _ _ _ _ _ hc q=>by
 have h1:(0:Int) < j:=hc
 exact mod_int' (by omega) (by rw [Int.fmod_eq_emod_of_nonneg i (by omega)]; exact q)
theorem unI {f:Value → Sem Value} {g:Int → Int}
  (rule:∀ (i:Int) (t:Tok) (s:Shared) (Q:Value → Shared → Prop) (E:Value → Shared → Prop),Q (.int (g i) s.toks) { s with toks:=s.toks + 1 } → wpAny (model X.prog X.w) X.A (f (.int i t)) Q E s) :
  UnR X f (rU fun i=>.int (g i)):=by
 intro pins s σ H x v Q I rx h
 obtain ⟨i,rfl,q⟩:=h
 obtain ⟨t,rfl⟩:=rx
 exact rule i t s _ _ ⟨.int (g i),H,I.tok _,⟨_,rfl⟩,q⟩
theorem iY:UnR X (unaryOp .USub) (rU fun i=>.int (-i)):=unI fun _ _ _ _ _ q=>neg_int q
end
noncomputable def amE:V → V → Bool
 | .bL,.bL=>true | .bL,.int _=>true | .int _,.bL=>true | .bL,.bl _=>true | .bl _,.bL=>true | .bL,.str _=>true | .str _,.bL=>true
 | .int _,.int _=>true | .bl _,.bl _=>true | .str _,.str _=>true | .yN _,.yN _=>true
 | .int _,.str _=>true | .str _,.int _=>true | .bl _,.str _=>true | .str _,.bl _=>true
 | _,_=>false
noncomputable def rEq:R2:=fun x y H Q=>amE x y = true ∧ Q (.bl (decide (x = y))) H
noncomputable def rNe:R2:=fun x y H Q=>amE x y = true ∧ Q (.bl (!decide (x = y))) H
theorem YH {i j:Int}:decide (V.int i = V.int j) = (i == j):=by
 rw [Bool.eq_iff_iff]
 simp
theorem aiT {i j:Bool}:decide (V.bl i = V.bl j) = (i == j):=by
 rw [Bool.eq_iff_iff]
 simp
theorem afX {i j:Str}:decide (V.str i = V.str j) = (i == j):=by
 rw [Bool.eq_iff_iff]
 simp
theorem afY {i j:Array UInt8}:decide (V.yN i = V.yN j) = (i.toList == j.toList):=by
 rw [Bool.eq_iff_iff]
 cases i
 cases j
 simp
section
variable {X:Cx} {a b c:Expr} {ta tb tc:TE} {pos:Pos}
theorem dm {pins:List (Addr × Obj)} {σ:St} {H:Hp} {s:Shared} {Q:VK} {k k':Bool} (I:Inv X pins σ H s) (q:Q (.bl k) H) (e:k = k'):EP X pins σ Q (.bool k') s:=by
 subst e
 exact ⟨.bl k,H,I,rfl,q⟩
theorem mP:rQ X (compareOp .Eq) rEq:=by
 intro pins s σ H x y v u Q I rx ry h
 obtain ⟨hs,q⟩:=h
 cases x with
 | bL =>
  cases rx
  cases y with
  | bL=>cases ry; exact PySem.EqNone.eq_none_none (dm I q (by simp))
  | bl j=>cases ry; exact PySem.EqNone.eq_none_bool (dm I q (by simp))
  | int j=>obtain ⟨t',rfl⟩:=ry; exact PySem.EqNone.eq_none_int (dm I q (by simp))
  | str j=>obtain ⟨t',rfl⟩:=ry; exact PySem.EqNone.eq_none_str (dm I q (by simp))
  | _=>exact absurd (show false = true from hs) Bool.false_ne_true
 | bl i =>
  cases rx
  cases y with
  | bL=>cases ry; exact PySem.EqNone.eq_bool_none (dm I q (by simp))
  | bl j=>cases ry; exact eq_bool (dm I q aiT)
  | str j=>obtain ⟨t',rfl⟩:=ry; exact PySem.EqMixed.eq_bool_str (dm I q (by simp))
  | _=>exact absurd (show false = true from hs) Bool.false_ne_true
 | int i =>
  obtain ⟨t,rfl⟩:=rx
  cases y with
  | bL=>cases ry; exact PySem.EqNone.eq_int_none (dm I q (by simp))
  | int j=>obtain ⟨t',rfl⟩:=ry; exact eq_int (dm I q YH)
  | str j=>obtain ⟨t',rfl⟩:=ry; exact PySem.EqMixed.eq_int_str (dm I q (by simp))
  | _=>exact absurd (show false = true from hs) Bool.false_ne_true
 | str i =>
  obtain ⟨t,rfl⟩:=rx
  cases y with
  | bL=>cases ry; exact PySem.EqNone.eq_str_none (dm I q (by simp))
  | bl j=>cases ry; exact PySem.EqMixed.eq_str_bool (dm I q (by simp))
  | int j=>obtain ⟨t',rfl⟩:=ry; exact PySem.EqMixed.eq_str_int (dm I q (by simp))
  | str j=>obtain ⟨t',rfl⟩:=ry; exact eq_str (dm I q afX)
  | _=>exact absurd (show false = true from hs) Bool.false_ne_true
 | yN i =>
  obtain ⟨t,rfl⟩:=rx
  cases y with
  | yN j=>obtain ⟨t',rfl⟩:=ry; exact W.eq_bytes (dm I q afY)
  | _=>exact absurd (show false = true from hs) Bool.false_ne_true
 | _=>cases y <;> exact absurd (show false = true from hs) Bool.false_ne_true
theorem Dr:rQ X (compareOp .NotEq) rNe:=by
 intro pins s σ H x y v u Q I rx ry h
 obtain ⟨hs,q⟩:=h
 cases x with
 | bL =>
  cases rx
  cases y with
  | bL=>cases ry; exact PySem.EqNone.ne_none_none (dm I q (by simp))
  | bl j=>cases ry; exact PySem.EqNone.ne_none_bool (dm I q (by simp))
  | int j=>obtain ⟨t',rfl⟩:=ry; exact PySem.EqNone.ne_none_int (dm I q (by simp))
  | str j=>obtain ⟨t',rfl⟩:=ry; exact PySem.EqNone.ne_none_str (dm I q (by simp))
  | _=>exact absurd (show false = true from hs) Bool.false_ne_true
 | bl i =>
  cases rx
  cases y with
  | bL=>cases ry; exact PySem.EqNone.ne_bool_none (dm I q (by simp))
  | bl j=>cases ry; exact ne_bool (dm I q (congrArg not aiT))
  | str j=>obtain ⟨t',rfl⟩:=ry; exact PySem.EqMixed.ne_bool_str (dm I q (by simp))
  | _=>exact absurd (show false = true from hs) Bool.false_ne_true
 | int i =>
  obtain ⟨t,rfl⟩:=rx
  cases y with
  | bL=>cases ry; exact PySem.EqNone.ne_int_none (dm I q (by simp))
  | int j=>obtain ⟨t',rfl⟩:=ry; exact ne_int (dm I q (congrArg not YH))
  | str j=>obtain ⟨t',rfl⟩:=ry; exact PySem.EqMixed.ne_int_str (dm I q (by simp))
  | _=>exact absurd (show false = true from hs) Bool.false_ne_true
 | str i =>
  obtain ⟨t,rfl⟩:=rx
  cases y with
  | bL=>cases ry; exact PySem.EqNone.ne_str_none (dm I q (by simp))
  | bl j=>cases ry; exact PySem.EqMixed.ne_str_bool (dm I q (by simp))
  | int j=>obtain ⟨t',rfl⟩:=ry; exact PySem.EqMixed.ne_str_int (dm I q (by simp))
  | str j=>obtain ⟨t',rfl⟩:=ry; exact ne_str (dm I q (congrArg not afX))
  | _=>exact absurd (show false = true from hs) Bool.false_ne_true
 | yN i =>
  obtain ⟨t,rfl⟩:=rx
  cases y with
  | yN j=>obtain ⟨t',rfl⟩:=ry; exact W.ne_bytes (dm I q (congrArg not afY))
  | _=>exact absurd (show false = true from hs) Bool.false_ne_true
 | _=>cases y <;> exact absurd (show false = true from hs) Bool.false_ne_true
theorem Lo:rQ X (compareOp .Lt) (Zu fun i j=>.bl (decide (i < j))):=agY fun _ _ _ _ _ _ _ q=>lt_int q
theorem ff:rQ X (compareOp .LtE) (Zu fun i j=>.bl (decide (i ≤ j))):=agY fun _ _ _ _ _ _ _ q=>le_int q
theorem abj:rQ X (compareOp .Gt) (Zu fun i j=>.bl (decide (j < i))):=agY fun _ _ _ _ _ _ _ q=>gt_int q
theorem akJ:rQ X (compareOp .GtE) (Zu fun i j=>.bl (decide (j ≤ i))):=agY fun _ _ _ _ _ _ _ q=>ge_int q
theorem amS:rQ X (compareOp .Is) (fun x y H Q=>y = .bL ∧ Q (.bl (decide (x = .bL))) H):=by
 intro pins s σ H x y v u Q I rx ry h
 obtain ⟨rfl,q⟩:=h
 cases ry
 refine is_none_gen (dm I q ?_)
 cases x <;> first
  | (cases rx; rfl)
  | (obtain ⟨t,rfl⟩:=rx; rfl)
theorem afI:rQ X (compareOp .IsNot) (fun x y H Q=>y = .bL ∧ Q (.bl (!decide (x = .bL))) H):=by
 intro pins s σ H x y v u Q I rx ry h
 obtain ⟨rfl,q⟩:=h
 cases ry
 refine isnot_none_gen (dm I q ?_)
 cases x <;> first
  | (cases rx; rfl)
  | (obtain ⟨t,rfl⟩:=rx; rfl)
theorem cj (b:Expr) {op:CmpOp} (h:op ≠ .In:=by decide) (h2:op ≠ .NotIn:=by decide):behindInMarks op b = false:=by
 have e1:(op == CmpOp.In) = false:=by cases op <;> first | rfl | exact absurd rfl h
 have e2:(op == CmpOp.NotIn) = false:=by cases op <;> first | rfl | exact absurd rfl h2
 cases b <;> simp [behindInMarks,e1,e2]
theorem Jq {op:CmpOp} {r:R2} (ho:rQ X (compareOp op) r) (ha:PE X a ta) (hb:PE X b tb) (hm:behindInMarks op b = false):PE X (.Compare a [op] [b] pos) (tOp r ta tb):=by
 intro pins s σ H Q I h
 exact wpAny_Compare1 (akr ha hb I h fun v u s2 x y H2 I2 rx ry q=>ho pins s2 σ H2 x y v u Q I2 rx ry q) hm
noncomputable def akC (t:TE):TT:=fun σ H Q=>t σ H fun x H'=>∃ k,x = .bl k ∧ Q k H'
theorem bQ {op:CmpOp} {r:R2} (ho:rQ X (compareOp op) r) (ha:PE X a ta) (hb:PE X b tb) (hm:behindInMarks op b = false):PT X (.Compare a [op] [b] pos) (akC (tOp r ta tb)):=by
 intro pins s σ H Q I h
 refine wpAny_isTrue_Compare1 (bR (ha pins s σ H _ I h) fun v s1 ⟨x,H1,I1,r1,q1⟩=>bR (hb pins s1 σ H1 _ I1 q1) fun u s2 ⟨y,H2,I2,r2,q2⟩ =>
  bR (ho pins s2 σ H2 x y v u _ I2 r1 r2 q2) fun c s3 ⟨z,H3,I3,r3,k,e,q3⟩=>?_) hm
 subst e
 cases r3
 exact wpAny_truthy_bool ⟨H3,I3,q3⟩
noncomputable def ah5 (r r':R2) (ta tb tc:TE):TE:=fun σ H Q=>ta σ H fun x H1=>tb σ H1 fun y H2=>r x y H2 fun z H3=>∃ k,z = .bl k ∧
 (if k = true then tc σ H3 fun w' H4=>r' y w' H4 Q else Q (.bl false) H3)
theorem l5 {op op':CmpOp} {r r':R2} (ho:rQ X (compareOp op) r) (Gm:rQ X (compareOp op') r') (ha:PE X a ta) (hb:PE X b tb) (hc:PE X c tc)
  (hm:lastMarks [op,op'] [b,c] = false:=by with_unfolding_all rfl):PE X (.Compare a [op,op'] [b,c] pos) (ah5 r r' ta tb tc):=by
 intro pins s σ H Q I h
 refine Compare_chain (bR (ha pins s σ H _ I h) fun v s1 ⟨x,H1,I1,r1,q1⟩=>chain_link (bR (hb pins s1 σ H1 _ I1 q1) fun u s2 ⟨y,H2,I2,r2,q2⟩ =>
  bR (ho pins s2 σ H2 x y v u _ I2 r1 r2 q2) fun d s3 ⟨z,H3,I3,r3,k,e,q3⟩=>?_)) hm
 subst e
 cases r3
 refine wpAny_truthy_bool ?_
 cases k with
 | false=>exact ite_ff ⟨.bl false,H3,I3,rfl,q3⟩
 | true=>exact ite_tt (chain_last (bR (hc pins s3 σ H3 _ I3 q3) fun w' s4 ⟨z',H4,I4,r4,q4⟩=>Gm pins s4 σ H4 y z' u w' Q I4 r2 r4 q4))
theorem Lg {op op':CmpOp} {r r':R2} (ho:rQ X (compareOp op) r) (Gm:rQ X (compareOp op') r') (ha:PE X a ta) (hb:PE X b tb) (hc:PE X c tc)
  (hm:lastMarks [op,op'] [b,c] = false:=by with_unfolding_all rfl):PT X (.Compare a [op,op'] [b,c] pos) (akC (ah5 r r' ta tb tc)):=by
 intro pins s σ H Q I h
 refine isTrue_chain (bR (ha pins s σ H _ I h) fun v s1 ⟨x,H1,I1,r1,q1⟩=>test_link (bR (hb pins s1 σ H1 _ I1 q1) fun u s2 ⟨y,H2,I2,r2,q2⟩ =>
  bR (ho pins s2 σ H2 x y v u _ I2 r1 r2 q2) fun d s3 ⟨z,H3,I3,r3,k,e,q3⟩=>?_)) hm
 subst e
 cases r3
 refine wpAny_truthy_bool ?_
 cases k with
 | false =>
  obtain ⟨k',e',q'⟩:=q3
  cases e'
  exact ite_ff ⟨H3,I3,q'⟩
 | true =>
  refine ite_tt (test_last (bR (hc pins s3 σ H3 _ I3 q3) fun w' s4 ⟨z',H4,I4,r4,q4⟩=>bR (Gm pins s4 σ H4 y z' u w' _ I4 r2 r4 q4) fun d' s5 ⟨z2,H5,I5,r5,k2,e2,q5⟩=>?_))
  subst e2
  cases r5
  exact wpAny_truthy_bool ⟨H5,I5,q5⟩
noncomputable def akv (K:W.Frag) (x:V) (H:Hp) (k:Bool):Prop :=
 match x with
 | .bL=>k = false
 | .bl b=>k = b
 | .int i=>k = (i != 0)
 | .str y=>y.length ≤ sizeLine ∧ k = ((y.length:Int) != 0)
 | .yN y=>y.size ≤ sizeLine ∧ k = ((y.size:Int) != 0)
 | .ref p=>(∃ xs,aM K H p xs ∧ k = !xs.isEmpty) ∨ (∃ xs,j0 K H p xs ∧ k = !xs.isEmpty) ∨ ∃ kvs,H p = some (.dK kvs) ∧ k = !kvs.isEmpty
 | _=>False
theorem ahn {κ:Type} {kvs:List (κ × V)} {vs:List (κ × Value)} (r:KV kvs vs):(!vs.isEmpty) = !kvs.isEmpty:=by
 cases r <;> rfl
theorem Wb {xs:List V} {aT:List Value} (r:Vals xs aT):(!aT.toArray.isEmpty) = !xs.isEmpty:=by
 cases r <;> simp
theorem O7:(sizeLine:Nat) < 2 ^ 63:=by rw [sizeLine_eq]; decide
theorem amo:aqn X (fun x H Q=>∃ k,akv X.K x H k ∧ Q k H):=by
 intro pins s σ H x v Q I rx h
 obtain ⟨k,e,q⟩:=h
 have hl:=O7
 have hs:sizeLine = 16777216:=sizeLine_eq
 cases x with
 | bL =>
  cases rx
  have e':k = false:=e
  subst e'
  exact truthy_none ⟨H,I,q⟩
 | bl b =>
  cases rx
  have e':k = b:=e
  subst e'
  exact wpAny_truthy_bool ⟨H,I,q⟩
 | int i =>
  obtain ⟨t,rfl⟩:=rx
  have e':k = (i != 0):=e
  subst e'
  exact PySem.P.truthy_int ⟨H,I,q⟩
 | str y =>
  obtain ⟨t,rfl⟩:=rx
  obtain ⟨hy,e'⟩:y.length ≤ sizeLine ∧ k = ((y.length:Int) != 0):=e
  subst e'
  exact PySem.P.truthy_str (by omega) ⟨H,I.tok _,q⟩
 | yN y =>
  obtain ⟨t,rfl⟩:=rx
  obtain ⟨hy,e'⟩:y.size ≤ sizeLine ∧ k = ((y.size:Int) != 0):=e
  subst e'
  exact W.truthy_bytes (by omega) ⟨H,I.tok _,q⟩
 | ref p =>
  cases rx
  have e':(∃ xs,aM X.K H p xs ∧ k = !xs.isEmpty) ∨ (∃ xs,j0 X.K H p xs ∧ k = !xs.isEmpty) ∨ ∃ kvs,H p = some (.dK kvs) ∧ k = !kvs.isEmpty:=e
  rcases e' with ⟨xs,hx,e'⟩ | ⟨xs,hx,e'⟩ | ⟨kvs,hx,e'⟩
  ·subst e'
   obtain ⟨aT,r,pl,hz⟩:=I.list hx
   have hlen:=r.length
   exact wpAny_truthy_list pl.isList (by simp only [List.size_toArray]; omega) ⟨H,I.tok _,by rw [Wb r]; exact q⟩
  ·subst e'
   obtain ⟨aT,r,pl,hz⟩:=I.tuple hx
   have hlen:=r.length
   exact truthy_tuple pl (by simp only [List.size_toArray]; omega) ⟨H,I.tok _,by rw [Wb r]; exact q⟩
  ·subst e'
   obtain ⟨hz,hS,vs,r,m⟩:kvs.length ≤ sizeLine ∧ (p == sysModules) = false ∧ ∃ vs,KV kvs vs ∧ s.heap.DictOf (fL X.prog X.w) p vs:=I.bJ p _ hx
   have hlen:kvs.length = vs.length:=Paired.length r
   exact wpAny_truthy_dict hS m (by omega) ⟨H,I.tok _,by rw [ahn r]; exact q⟩
 | _=>exact (show False from e).elim
theorem cA (ha:PE X a ta) (he:∀ whole,isTrue a X.env whole = (do let v ← whole; standAt a.pos; holding [v] (truthy v))) :
  PT X a (fun σ H Q=>ta σ H fun x H'=>∃ k,akv X.K x H' k ∧ Q k H'):=by
 intro pins s σ H Q I h
 exact isTrue_plain (bR (ha pins s σ H _ I h) fun v s1 ⟨x,H1,I1,r1,q1⟩=>amo pins s1 σ H1 x v Q I1 r1 q1) (he _)
theorem vals1 {x:V} {us:List Value} (r:Vals [x] us):∃ u,us = [u] ∧ RelV x u:=by
 cases r with
 | cons r1 r2=>cases r2; exact ⟨_,rfl,r1⟩
theorem vals2 {x y:V} {us:List Value} (r:Vals [x,y] us):∃ u w',us = [u,w'] ∧ RelV x u ∧ RelV y w':=by
 cases r with
 | cons r1 r2 =>
  cases r2 with
  | cons r3 r4=>cases r4; exact ⟨_,_,rfl,r1,r3⟩
theorem Z7 (hc:X.calm = true):Dv X (.builtin "max") (fun xs H Q=>∃ i j,xs = [.int i,.int j] ∧ Q (.int (if j > i then j else i)) H):=by
 intro pins s σ H xs us Q I r h
 obtain ⟨i,j,rfl,q⟩:=h
 obtain ⟨u,w',rfl,⟨t,rfl⟩,⟨t',rfl⟩⟩:=vals2 r
 refine max_two_ints (I.ok.hd hc) fun h' tk k=>⟨_,H,I.kept k,?_,q⟩
 by_cases hj:j > i
 ·rw [if_pos hj,if_pos hj]; exact ⟨_,rfl⟩
 ·rw [if_neg hj,if_neg hj]; exact ⟨_,rfl⟩
end
end L2
namespace L2
open PySem PySem.Spec PyProof.Rows
structure UT (h:Heap) (x dx C:Addr) (mA:Str → Option Value):Prop where
 obj:h.get? x = some (W.instObj C dx)
 ns:h.Ns1 dx mA
 ne:dx ≠ x
theorem aiF {h:Heap} {dx:Addr} {mA:Str → Option Value} (n:h.Ns1 dx mA):∃ od,h.get? dx = some od ∧ ∀ name,W.lookIn name od = some (mA name):=by
 obtain ⟨o,es,ep,ho,hd,hk,_,hm⟩:=n
 refine ⟨o,ho,fun name=>?_⟩
 have e:=hm name
 unfold nsFind findBy at e
 rw [← Array.find?_toList] at e
 unfold W.lookIn
 rw [hd]
 dsimp only
 split
 ·rename_i y q
  rw [q] at e
  exact congrArg some e
 ·rename_i q
  rw [q] at e
  have a:es.toList.any (·.refKey) = false:=by
   rw [List.any_eq_false]
   intro y hy
   obtain ⟨z,t,apW⟩:=hk y (Array.mem_toList_iff.mp hy)
   simp [DictEntry.refKey,apW]
  have a':¬ es.toList.any (·.refKey) = true:=by rw [a]; exact Bool.false_ne_true
  rw [if_neg a']
  exact congrArg some e
theorem UT.look {h:Heap} {x dx C:Addr} {mA:Str → Option Value} (I:UT h x dx C mA):∃ od,W.InstAt h x (W.instObj C dx) C (some od) ∧ ∀ name,W.lookIn name od = some (mA name) :=
 let ⟨od,ho,hl⟩:=aiF I.ns
 ⟨od,⟨I.obj,rfl,rfl,ho⟩,hl⟩
section
variable {prog:Program} {w:World} {A:Around} {E:Value → Shared → Prop} {s:Shared} {K:W.Frag} {x dx C f:Addr} {mA:Str → Option Value} {name:Str} {v:Value}
theorem get_map {expr:Bool} {Q:Value → Shared → Prop} (X:K.In s.heap) (I:UT s.heap x dx C mA) (hg:W.plainGet K C name = true) (hh:W.hasDictIn K C = true)
  (ha:W.findIn K (.ref C) name = some none) (hv:mA name = some v) (hv':W.handedIn v = true) (h:Q v { s with toks:=s.toks + 1 }) :
  wpAny (model prog w) A (getAttr (.ref x) name expr) Q E s:=by
 obtain ⟨od,J,hl⟩:=I.look
 exact W.get_value X J (W.plainGet_of hg).1 (W.findObj_own hh ha rfl (by rw [hl,hv])) hv' h
theorem aki {pl:Sem Bool} {Q:Value × List Value → Shared → Prop} (X:K.In s.heap) (I:UT s.heap x dx C mA) (hg:W.plainGet K C name = true)
  (hf:W.findIn K (.ref C) name = some (some (.ref f))) (ht:W.isFn K (.ref f) = true) (hv:mA name = none) (h:Q (.ref f,[.ref x]) s) :
  wpAny (model prog w) A (getMethod (.ref x) name pl) Q E s:=by
 obtain ⟨od,J,hl⟩:=I.look
 exact W.method_fn X J (W.plainGet_of hg).1 (W.plainGet_of hg).2 hf (beq_iff_eq.mp ht) (by show (W.lookIn name od).map (·.isSome) = some false; rw [hl,hv]; rfl) h
theorem alf {ns:List Str} {Q:Unit → Shared → Prop} (X:K.In s.heap) (I:UT s.heap x dx C mA)
  (hs:W.findIn K (.ref C) "__setattr__" = some (some (.builtin "object.__setattr__"))) (hp:W.plainOver K C = true) (ht:W.takerIn K C name = some none) (hh:W.hasDictIn K C = true)
  (hw:PySem.Within mA ns) (hsz:ns.length ≤ sizeLine)
  (h:∀ h',UT h' x dx C (fun y=>if y = name then some v else mA y) → Heap.SameBut dx s.heap h' → Q () { s with heap:=h',toks:=s.toks + 2 }) :
  wpAny (model prog w) A (setAttr (.ref x) name v) Q E s:=by
 obtain ⟨od,J,hl⟩:=I.look
 refine W.set_plain X J hs (W.osa_open (s:={ s with toks:=s.toks + 1 }) (r:=none) X J hp ht fun b=>?_)
 obtain ⟨cd,hc,Wk⟩:=W.any_some hh
 have hx:s.heap.get? x = some ⟨.ref C,some dx,.plain,#[]⟩:=I.obj
 refine wpAny_bind (wpAny_pure (wpAny_bind (wpAny_bind (wpAny_loadPart hx (wpAny_bind (W.Looks.here (s:={ s with toks:=s.toks + 1 }) (W.looks_clsIn X hc) ?_))))))
 rw [Wk]
 refine wpAny_pure (a:=some dx) (wpAny_bind (wpAny_pure (wpAny_bind ?_)))
 refine wpAny_nsSet1 (s:={ s with toks:=s.toks + 1 }) I.ns fun h' hn2 hs2=>?_
 obtain ⟨oD,esD,epD,hoD,hdD,hcD⟩:=hn2.count (PySem.Within.cons name v hw)
 refine wpAny_bind (wpAny_lookBehind hoD (by rw [hdD]; exact pastItsLine_dict (Nat.le_trans hcD (by rw [List.length_cons]; omega))) ?_)
 exact wpAny_pure (h _ ⟨(hs2.2 _ (Ne.symm I.ne)).trans I.obj,hn2,I.ne⟩ hs2)
theorem aj4 {R:Result → Shared → Prop} {vs:List Value} {kw:List (Str × Value)} (X:K.In s.heap) (hm:W.makesIn K C = true)
  (hi:W.findIn K (.ref C) "__init__" = some (some (.ref f))) (hf:W.typeIn K (.ref f) = some (.type "function"))
  (h:codeAny (model prog w) (A.under (.builtin "type.__call__" ⟨.ref C :: vs,kw⟩)) (.call (.ref f) ⟨.ref (s.heap.objs.size + 1) :: vs,kw⟩) (W.InitBack (s.heap.objs.size + 1) R)
   { s with heap:=(s.heap.push W.emptyDict).push (W.instObj C s.heap.objs.size) }) :
  codeAny (model prog w) A (.call (.ref C) ⟨vs,kw⟩) R s:=by
 obtain ⟨hh,g,d,t,os⟩:=s
 exact W.make_core (W.makes_of X hm) (W.looks_findIn X hi) (fun self=>W.bind_fn X self hf) (.inl rfl) h
end
noncomputable def bz (f:Str) (v:V):List (Str × V) → List (Str × V)
 | []=>[(f,v)]
 | (g,x) :: r=>if g = f then (g,v) :: r else (g,x) :: bz f v r
theorem Sz (f g:Str) (v:V):∀ fs:List (Str × V),(bz f v fs).lookup g = if g = f then some v else fs.lookup g
 | []=>by
  show List.lookup g [(f,v)] = _
  by_cases h:g = f
  ·have hb:(g == f) = true:=beq_iff_eq.mpr h
   simp only [List.lookup,hb,if_pos h]
  ·have hb:(g == f) = false:=beq_eq_false_iff_ne.mpr h
   simp only [List.lookup,hb,if_neg h]
 | (k,x) :: r=>by
  have ih:=Sz f g v r
  rw [show bz f v ((k,x) :: r) = (if k = f then (k,v) :: r else (k,x) :: bz f v r) from rfl]
  by_cases hk:k = f
  ·rw [if_pos hk]
   by_cases h:g = k
   ·have hb:(g == k) = true:=beq_iff_eq.mpr h
    simp only [List.lookup,hb,if_pos (h.trans hk)]
   ·have hb:(g == k) = false:=beq_eq_false_iff_ne.mpr h
    simp only [List.lookup,hb,if_neg (fun e:g = f=>h (e.trans hk.symm))]
  ·rw [if_neg hk]
   by_cases h:g = k
   ·have hb:(g == k) = true:=beq_iff_eq.mpr h
    simp only [List.lookup,hb,if_neg (fun e:g = f=>hk (h.symm.trans e))]
   ·have hb:(g == k) = false:=beq_eq_false_iff_ne.mpr h
    simp only [List.lookup,hb]
    exact ih
theorem Pe (f:Str) (v:V):∀ fs:List (Str × V),f ∈ (bz f v fs).map (·.1) ∧ ∀ g,g ∈ fs.map (·.1) → g ∈ (bz f v fs).map (·.1)
 | []=>⟨by simp [bz],fun g h=>by simp at h⟩
 | (k,x) :: r=>by
  obtain ⟨i1,i2⟩:=Pe f v r
  rw [show bz f v ((k,x) :: r) = (if k = f then (k,v) :: r else (k,x) :: bz f v r) from rfl]
  by_cases hk:k = f
  ·rw [if_pos hk]
   subst hk
   exact ⟨by simp,fun g h=>by simpa using h⟩
  ·rw [if_neg hk]
   refine ⟨?_,fun g h=>?_⟩
   ·rw [List.map_cons]
    exact List.mem_cons_of_mem _ i1
   ·rw [List.map_cons] at h ⊢
    rcases List.mem_cons.mp h with e | e
    ·exact List.mem_cons.mpr (.inl e)
    ·exact List.mem_cons_of_mem _ (i2 g e)
theorem HK (f:Str) (v:V):∀ fs:List (Str × V),(bz f v fs).length ≤ fs.length + 1
 | []=>by simp [bz]
 | (k,x) :: r=>by
  have ih:=HK f v r
  rw [show bz f v ((k,x) :: r) = (if k = f then (k,v) :: r else (k,x) :: bz f v r) from rfl]
  by_cases hk:k = f
  ·rw [if_pos hk,List.length_cons,List.length_cons]; omega
  ·rw [if_neg hk,List.length_cons,List.length_cons]; omega
theorem rP.some_of {v:V} {o:Option Value} (r:rP (some v) o):∃ u,o = some u ∧ RelV v u:=by
 cases o with
 | none=>exact (show False from r).elim
 | some u=>exact ⟨u,rfl,r⟩
theorem rP.none_of {o:Option Value} (r:rP none o):o = none:=by
 cases o with
 | none=>rfl
 | some u=>exact (show False from r).elim
theorem aiL {v:V} {u:Value} (r:RelV v u):W.handedIn u = true:=by
 cases v with
 | bL=>cases (show u = Value.none from r); rfl
 | bl b=>cases (show u = Value.bool b from r); rfl
 | int i=>obtain ⟨t,e⟩:=(show ∃ t,u = Value.int i t from r); cases e; rfl
 | str x=>obtain ⟨t,e⟩:=(show ∃ t,u = Value.str x t from r); cases e; rfl
 | yN b=>obtain ⟨t,e⟩:=(show ∃ t,u = Value.bytes b t from r); cases e; rfl
 | flt b=>obtain ⟨t,e⟩:=(show ∃ t,u = Value.float b t from r); cases e; rfl
 | ref a=>cases (show u = Value.ref a from r); rfl
 | ty n=>cases (show u = Value.type n from r); rfl
section
variable {P:Program} {w:World} {H H':Hp} {h h':Heap} {a C dx:Addr} {fs fs':List (Str × V)}
theorem Yy (bJ:jC P w H h) (e:H a = some (.ins C dx fs)):∃ mA,UT h a dx C mA ∧ (∀ f,rP (fs.lookup f) (mA f)) ∧ PySem.Within mA (fs.map (·.1)) ∧ fs.length ≤ 1000 ∧ H dx = some (.own a):=by
 obtain ⟨d,z,ne,ob,mA,n,r,q⟩:=(show gK P w H h a (.ins C dx fs) from bJ a _ e)
 exact ⟨mA,⟨ob,n,ne⟩,r,q,z,d⟩
end
structure yq (K:W.Frag) (C:Addr):Prop where
 pg:W.plainGet K C Str.empty = true
 hd:W.hasDictIn K C = true
 po:W.plainOver K C = true
 sa:W.findIn K (.ref C) "__setattr__" = some (some (.builtin "object.__setattr__"))
theorem yq.get {K:W.Frag} {C:Addr} (c:yq K C) (f:Str):W.plainGet K C f = true:=c.pg
noncomputable def bO (K:W.Frag) (C:Addr) (f:Str):Prop:=W.findIn K (.ref C) f = some none
theorem bO.aof {K:W.Frag} {C:Addr} {f:Str} (n:bO K C f):W.takerIn K C f = some none:=by
 unfold W.takerIn
 rw [show W.findIn K (.ref C) f = some none from n]
 rfl
structure Meth (K:W.Frag) (C:Addr) (m:Str) (f:Addr):Prop where
 at_:W.findIn K (.ref C) m = some (some (.ref f))
 fn:W.isFn K (.ref f) = true
 kp:W.keepIn K (.ref f) = true
section
variable {X:Cx} {pins:List (Addr × Obj)} {σ:St} {H:Hp} {s:Shared} {a C dx:Addr} {fs:List (Str × V)} {f:Str} {v:V} {A:Around} {E:Value → Shared → Prop}
theorem Ws {b:Bool} {Q:Value → Shared → Prop} (I:Inv X pins σ H s) (e:H a = some (.ins C dx fs)) (c:yq X.K C) (n:bO X.K C f) (l:fs.lookup f = some v)
  (h:∀ u s',Inv X pins σ H s' → RelV v u → Q u s'):wpAny (model X.prog X.w) A (getAttr (.ref a) f b) Q E s:=by
 obtain ⟨mA,O,r,_,_,_⟩:=Yy I.bJ e
 obtain ⟨u,hu,ru⟩:=rP.some_of (v:=v) (o:=mA f) (by rw [← l]; exact r f)
 exact get_map I.yE O (c.get f) c.hd n hu (aiL ru) (h u _ (I.tok _) ru)
theorem Wr {m:Str} {g:Addr} {pl:Sem Bool} {Q:Value × List Value → Shared → Prop} (I:Inv X pins σ H s) (e:H a = some (.ins C dx fs)) (c:yq X.K C) (k:Meth X.K C m g) (l:fs.lookup m = none)
  (h:Q (.ref g,[.ref a]) s):wpAny (model X.prog X.w) A (getMethod (.ref a) m pl) Q E s:=by
 obtain ⟨mA,O,r,_,_,_⟩:=Yy I.bJ e
 have hn:mA m = none:=rP.none_of (by rw [← l]; exact r m)
 exact aki I.yE O (c.get m) k.at_ k.fn hn h
theorem Vm {y:V} {u:Value} {Q:Unit → Shared → Prop} (I:Inv X pins σ H s) (e:H a = some (.ins C dx fs)) (c:yq X.K C) (n:bO X.K C f) (hl:fs.length < 1000) (ry:RelV y u)
  (h:∀ s',Inv X pins σ (upd H a (.ins C dx (bz f y fs))) s' → Q () s'):wpAny (model X.prog X.w) A (setAttr (.ref a) f u) Q E s:=by
 obtain ⟨mA,O,r,wi,_,ho⟩:=Yy I.bJ e
 have hz:(fs.map (·.1)).length ≤ sizeLine:=by rw [List.length_map,sizeLine_eq]; omega
 refine alf I.yE O c.sa c.po n.aof c.hd wi hz fun h' O' sb=>h _ ?_
 have hd:∃ o,h'.get? dx = some o:=let ⟨o,_,_,e',_⟩:=O'.ns; ⟨o,e'⟩
 refine I.write (x:=a) (e:=dx) (by rw [e]; exact True.intro) (.inr ho) (fun b q hb z=>(sb.2 b hb).trans z) hd ?_
 refine ⟨by rw [ak O.ne]; exact ho,?_,O.ne,O'.obj,_,O'.ns,fun g=>?_,fun g hg=>?_⟩
 ·have:=HK f y fs; omega
 ·show rP ((bz f y fs).lookup g) (if g = f then some u else mA g)
  rw [Sz]
  by_cases q:g = f
  ·rw [if_pos q,if_pos q]; exact ry
  ·rw [if_neg q,if_neg q]; exact r g
 ·by_cases q:g = f
  ·rw [q]; exact (Pe f y fs).1
  ·refine (Pe f y fs).2 g (wi g fun z=>hg ?_)
   show (if g = f then some u else mA g) = none
   rw [if_neg q]; exact z
theorem Inv.made (I:Inv X pins σ H s):Inv X pins σ (upd (upd H s.heap.objs.size (.own (s.heap.objs.size + 1))) (s.heap.objs.size + 1) (.ins C s.heap.objs.size []))
  { s with heap:=(s.heap.push W.emptyDict).push (W.instObj C s.heap.objs.size) }:=by
 have e1:(s.heap.push W.emptyDict).get? s.heap.objs.size = some W.emptyDict:=Heap.get?_push_size s.heap rfl
 have e2:((s.heap.push W.emptyDict).push (W.instObj C s.heap.objs.size)).get? (s.heap.objs.size + 1) = some (W.instObj C s.heap.objs.size):=by
  have:=Heap.get?_push_size (s.heap.push W.emptyDict) (o:=W.instObj C s.heap.objs.size) rfl
  rwa [Heap.size_push] at this
 have e3:(s.heap.push W.emptyDict).Ns s.heap.objs.size (fun _=>none):=⟨W.emptyDict,#[],_,e1,rfl,(fun e he=>absurd he (by simp)),fun _=>rfl⟩
 have I1:=I.laid (a:=s.heap.objs.size) (o:=.own (s.heap.objs.size + 1)) (h':=s.heap.push W.emptyDict) (t':=s.toks) (fun b u q=>Heap.get?_push_of_some _ q) (Nat.le_refl _) ⟨_,e1⟩
 refine I1.laid (a:=s.heap.objs.size + 1) (o:=.ins C s.heap.objs.size []) (t':=s.toks) (fun b u q=>Heap.get?_push_of_some _ q) (Nat.le_of_eq (Heap.size_push _ _)) ?_
 have ne:s.heap.objs.size ≠ s.heap.objs.size + 1:=Nat.ne_of_lt (Nat.lt_succ_self _)
 refine ⟨by rw [ak ne,ae],Nat.zero_le _,ne,e2,fun _=>none,(Heap.Ns1.of_empty e3).at fun o q=>Heap.get?_push_of_some _ q,fun _=>True.intro,fun y hy=>absurd rfl hy⟩
theorem al5 {prog:Program} {w:World} {env:Env} {e:Expr} {f:Str} {pos:Pos} {s:Shared} {Q:Value → Shared → Prop} (hb:attributeBase e f env (eval e env) = eval e env)
  (h:wpAny (model prog w) A (eval e env) (fun o s₁=>wpAny (model prog w) A (getAttr o f true) Q E s₁) E s):wpAny (model prog w) A (eval (.Attribute e f pos) env) Q E s :=
 Attribute_any_ h (by rw [arm_eval_Attribute,hb])
end
noncomputable def amv (K:W.Frag) (ta:TE) (f:Str):TE:=fun σ H Q=>ta σ H fun x H1=>∃ a C dx fs v,x = .ref a ∧ H1 a = some (.ins C dx fs) ∧ yq K C ∧ bO K C f ∧ fs.lookup f = some v ∧ Q v H1
noncomputable def apr (K:W.Frag) (ta tv:TE) (f:Str):TS:=fun D σ H=>tv σ H fun y H1=>ta σ H1 fun x H2=>∃ a C dx fs,x = .ref a ∧ H2 a = some (.ins C dx fs) ∧ yq K C ∧ bO K C f ∧ fs.length < 1000 ∧
 D.nx σ (upd H2 a (.ins C dx (bz f y fs)))
noncomputable def aky (X:Cx) (op:Operator) (rd:V → V → Hp → VK → Prop):Prop :=
 ∀ (pins:List (Addr × Obj)) (s:Shared) (σ:St) (H:Hp) (x y:V) (u v:Value) (Q:VK),Inv X pins σ H s → RelV x u → RelV y v → rd x y H Q → wpAny (model X.prog X.w) X.A (inplaceOp op u v) (EP X pins σ Q) X.xe s
noncomputable def alj (K:W.Frag) (ta tv:TE) (rd:V → V → Hp → VK → Prop) (f:Str):TS:=fun D σ H=>ta σ H fun x H1=>∃ a C dx fs v,x = .ref a ∧ H1 a = some (.ins C dx fs) ∧ yq K C ∧ bO K C f ∧ fs.lookup f = some v ∧
 tv σ H1 fun y H2=>rd v y H2 fun z H3=>∃ g9 fs',H3 a = some (.ins C g9 fs') ∧ fs'.length < 1000 ∧ D.nx σ (upd H3 a (.ins C g9 (bz f z fs')))
section
variable {X:Cx} {o e value:Expr} {f:Str} {pos pos' Ti:Pos} {ta tv:TE}
theorem ai (he:PE X e ta) (hb:attributeBase e f X.env (eval e X.env) = eval e X.env):PE X (.Attribute e f pos) (amv X.K ta f):=by
 intro pins s σ H Q I h
 refine al5 hb (bR (he pins s σ H _ I h) fun u s1 ⟨x,H1,I1,rx,a,C,dx,fs,v,ex,ea,c,n,l,q⟩=>?_)
 subst ex
 obtain rfl:u = Value.ref a:=rx
 exact Ws I1 ea c n l fun u' s2 I2 ru=>⟨v,H1,I2,ru,q⟩
theorem bM (ha:PE X o ta) (hv:PE X value tv) (hs:swapsWith value (some (.Attribute o f pos')) pos.line X.env = pure false):PS X (.Assign [.Attribute o f pos'] value pos) (apr X.K ta tv f):=by
 intro pins s σ H D I h
 refine plainObj_wpAny_Assign_Attribute (bR (hv pins s σ H _ I h) fun u s1 ⟨y,H1,I1,ry,q⟩=>bR (ha pins s1 σ H1 _ I1 q) fun ov s2 ⟨x,H2,I2,rx,a,C,dx,fs,ex,ea,c,n,l,q2⟩=>?_) hs
 subst ex
 obtain rfl:ov = Value.ref a:=rx
 exact Vm I2 ea c n l ry fun s3 I3=>⟨σ,_,I3,q2⟩
theorem qI {op:Operator} {rd:V → V → Hp → VK → Prop} (ha:PE X o ta) (hv:PE X value tv) (hop:aky X op rd):PS X (.AugAssign (.Attribute o f Ti) op value pos) (alj X.K ta tv rd f):=by
 intro pins s σ H D I h
 refine wpAny_AugAssign_AttributeAny (bR (ha pins s σ H _ I h) fun ov s1 ⟨x,H1,I1,rx,a,C,dx,fs,v,ex,ea,c,n,l,q⟩=>?_)
 subst ex
 obtain rfl:ov = Value.ref a:=rx
 refine Ws I1 ea c n l fun u s2 I2 ru=>bR (hv pins s2 σ H1 _ I2 q) fun w3 s3 ⟨y,H2,I3,ry,q3⟩=>bR (hop pins s3 σ H2 v y u w3 _ I3 ru ry q3) fun w4 s4 ⟨z,H3,I4,rz,g9,fs',ea',l',q4⟩=>?_
 exact Vm I4 ea' c n l' rz fun s5 I5=>⟨σ,_,I5,q4⟩
noncomputable def apw:V → V → Hp → VK → Prop:=fun x y H Q=>∃ i j,x = .int i ∧ y = .int j ∧ Q (.int (i + j)) H
theorem xm:aky X .Add apw:=by
 rintro pins s σ H x y u v Q I rx ry ⟨i,j,rfl,rfl,q⟩
 obtain ⟨t,rfl⟩:=(show ∃ t,u = Value.int i t from rx)
 obtain ⟨t',rfl⟩:=(show ∃ t',v = Value.int j t' from ry)
 exact PyProof.Rows.iadd_int ⟨.int (i + j),H,I.tok _,⟨_,rfl⟩,q⟩
end
end L2
namespace L2
open PySem PySem.Spec PyProof.Rows
structure aX (k:Nat) (A:Around):Prop where
 hd:A.handled = none
 dp:A.depth + 3 * k + 5 < recursionLimit
 un:A.units + 16 * k + 200 < cLine
theorem aX.mono {j k:Nat} {A:Around} (r:aX k A) (h:j ≤ k):aX j A:=⟨r.hd,by have:=r.dp; omega,by have:=r.un; omega⟩
theorem aX.deeper {k:Nat} {A:Around} (r:aX (k + 1) A) (env:Env):aX k (A.deeper env) :=
 ⟨r.hd,by have:=r.dp; show A.depth + 1 + 3 * k + 5 < _; omega,by have:=r.un; show A.units + 3 + 16 * k + 200 < _; omega⟩
theorem ahj {A:Around} {C:Addr} {us:List Value} {kw:List (Str × Value)}:(A.under (.builtin "type.__call__" ⟨.ref C :: us,kw⟩)).depth = A.depth + 1:=by
 first | rfl | simp [Around.under,Code.weight,Code.isCreation,Code.isGuard,Code.isCaller,Code.frames,Code.isFrame,guardIds]
theorem ahi {A:Around} {C:Addr} {us:List Value} {kw:List (Str × Value)}:(A.under (.builtin "type.__call__" ⟨.ref C :: us,kw⟩)).units = A.units + 1:=by
 first | rfl | simp [Around.under,Code.cUnits,Code.frames,Code.isFrame]
theorem aX.make {k:Nat} {A:Around} (r:aX (k + 1) A) (C:Addr) (us:List Value) (kw:List (Str × Value)):aX k (A.under (.builtin "type.__call__" ⟨.ref C :: us,kw⟩)) :=
 ⟨r.hd,by have:=r.dp; rw [ahj]; omega,by have:=r.un; rw [ahi]; omega⟩
theorem aX.depth {k:Nat} {A:Around} (r:aX k A):A.depth < recursionLimit:=by have:=r.dp; omega
theorem aX.units {k:Nat} {A:Around} (r:aX k A):A.units + 64 < cLine:=by have:=r.un; omega
noncomputable def ajl:TA:=fun _ H Q=>Q [] H
noncomputable def wk (ta:TE) (tr:TA):TA:=fun σ H Q=>ta σ H fun x H1=>tr σ H1 fun xs H2=>Q (x :: xs) H2
section
variable {X:Cx} {e:Expr} {es:List Expr} {te:TE} {t:TA} {pos:Pos}
theorem aj:PA X [] ajl:=fun _ _ _ _ H Q I h=>Calls.spliced_nil ⟨[],H,I,.nil,h⟩
theorem pQ (ha:PE X e te) (hr:PA X es t) (hs:starEach (e :: es) X.env = (false,eval e X.env) :: starEach es X.env:=by rfl):PA X (e :: es) (wk te t):=by
 intro pos pins s σ H Q I h
 rw [hs]
 show wpAny _ _ (spliced ((false,eval e X.env) :: backTo pos (starEach es X.env))) _ _ s
 refine Calls.spliced_cons (bR (ha pins s σ H _ I h) fun u s1 ⟨x,H1,I1,r1,q1⟩=>?_)
 exact bR (hr pos pins s1 σ H1 _ I1 q1) fun us s2 ⟨xs,H2,I2,r2,q2⟩=>⟨x :: xs,H2,I2,.cons r1 r2,q2⟩
noncomputable def apg (t:TA):TE:=fun σ H Q=>t σ H fun xs H1=>xs.length ≤ sizeLine ∧ ∀ p,H1 p = none → Q (.ref p) (upd H1 p (.tup xs))
noncomputable def apj (t:TA):TE:=fun σ H Q=>t σ H fun xs H1=>xs.length ≤ sizeLine ∧ ∀ p,H1 p = none → Q (.ref p) (upd H1 p (.lst xs))
theorem VF {x1} (h:PA X es t):PE X (.Tuple es x1 pos) (apg t):=by
 intro pins s σ H Q I hq
 refine wpAny_Tuple_spliced (bR (h pos pins s σ H _ I hq) fun us s1 ⟨xs,H1,I1,r,z,q⟩=>⟨by rw [← r.length]; exact z,?_⟩)
 have hf:H1 s1.heap.objs.size = none:=I1.bJ.fresh (Nat.le_refl _)
 refine ⟨.ref s1.heap.objs.size,upd H1 s1.heap.objs.size (.tup xs),I1.laid (t':=s1.toks) (fun b u e=>Heap.get?_push_of_some _ e) (Nat.le_refl _) ?_,rfl,q _ hf⟩
 exact ⟨z,us,r,⟨_,Heap.get?_push_size _ rfl,rfl,_,rfl⟩⟩
theorem bN (h:PA X es t):PE X (.List es pos) (apj t):=by
 intro pins s σ H Q I hq
 refine wpAny_List_spliced (bR (h pos pins s σ H _ I hq) fun us s1 ⟨xs,H1,I1,r,z,q⟩=>⟨by rw [← r.length]; exact z,?_⟩)
 have hf:H1 s1.heap.objs.size = none:=I1.bJ.fresh (Nat.le_refl _)
 refine ⟨.ref s1.heap.objs.size,upd H1 s1.heap.objs.size (.lst xs),I1.laid (t':=s1.toks) (fun b u e=>Heap.get?_push_of_some _ e) (Nat.le_refl _) ?_,rfl,q _ hf⟩
 exact ⟨z,us,0,r,Heap.get?_push_size _ rfl⟩
end
noncomputable abbrev Sp:=List V → Hp → VK → XK → Prop
noncomputable abbrev KR:=List Env → Hp → Shared → XK → Value → Shared → Prop
structure U1 (P:Program) (w:World) (K:W.Frag) (mg:Str → Option Value) (base:Heap) (A:Around) (outer:List Env) (s:Shared) (H:Hp):Prop where
 frames:A.frames = some outer
 mod:Mod K mg base
 bs:∀ b o,base.get? b = some o → s.heap.get? b = some o ∧ H b = none
 WQ:base.objs.size ≤ s.heap.objs.size
 Cb:s.heap.FunFrames base outer
 frf:∀ b ∈ PZ outer,H b = none
 bJ:jC P w H s.heap
 bare:AllBare s.gens
noncomputable def CE (outer:List Env) (P:Program) (w:World) (H:Hp) (s:Shared) (Q:VK) (u:Value) (s':Shared):Prop :=
 ∃ v H',s'.os = s.os ∧ AllBare s'.gens ∧ Un (PZ outer) [] H H' s.heap s'.heap ∧ jC P w H' s'.heap ∧ RelV v u ∧ Q v H'
noncomputable def CR (CX:KR) (outer:List Env) (P:Program) (w:World) (H:Hp) (s:Shared) (Q:VK) (E:XK) (r:Result) (s':Shared):Prop :=
 match r with
 | .ok (.ret u)=>CE outer P w H s Q u s'
 | .ok _=>False
 | .error e=>CX outer H s E e s'
structure aD (P:Program) (w:World) (K:W.Frag) (mg:Str → Option Value) (base:Heap) (CX:KR) (k:Nat) (f:Addr) (fd:FuncData) (ps:List Str) (sp:Sp):Prop where
 len:∀ vs H Q E,sp vs H Q E → vs.length = ps.length
 run:∀ (A:Around) (outer:List Env) (s:Shared) (H:Hp) (args:Args) (us:List Value) (vs:List V) (Q:VK) (E:XK),aX k A → U1 P w K mg base A outer s H → BindsTo s fd args (ps.zip us) → Vals vs us → sp vs H Q E →
  codeAny (model P w) A (.call (.ref f) args) (CR CX outer P w H s Q E) s
theorem aD.mono {P:Program} {w:World} {K:W.Frag} {mg:Str → Option Value} {base:Heap} {CX:KR} {j k:Nat} {f:Addr} {fd:FuncData} {ps:List Str} {sp:Sp} (F:aD P w K mg base CX j f fd ps sp) (h:j ≤ k) :
  aD P w K mg base CX k f fd ps sp:=⟨F.len,fun A outer s H args us vs Q E hr=>F.run A outer s H args us vs Q E (hr.mono h)⟩
theorem U1.make {P:Program} {w:World} {K:W.Frag} {mg:Str → Option Value} {base:Heap} {A:Around} {outer:List Env} {s:Shared} {H:Hp} (e:U1 P w K mg base A outer s H) (C:Addr) (us:List Value) (kw:List (Str × Value)) :
  U1 P w K mg base (A.under (.builtin "type.__call__" ⟨.ref C :: us,kw⟩)) outer s H:=⟨by first | exact e.frames | (simpa [Around.under,Code.envs,Code.isFrame,pushEnvs] using e.frames),e.mod,e.bs,e.WQ,e.Cb,e.frf,e.bJ,e.bare⟩
section
variable {X:Cx} {pins:List (Addr × Obj)} {σ:St} {H:Hp} {s s':Shared}
theorem Inv.anD (I:Inv X pins σ H s):U1 X.prog X.w X.K X.mg X.base X.A X.stack s H :=
 ⟨I.ok.frames,I.ok.mod,I.bs,Nat.le_trans I.ok.WQ I.sz,I.stack,I.afs,I.bJ,I.bare⟩
theorem Inv.after {Q:VK} {u:Value} (I:Inv X pins σ H s) (h:CE X.stack X.prog X.w H s Q u s'):EP X pins σ Q u s':=by
 obtain ⟨v,H',os,bare,un,bJ,r,q⟩:=h
 obtain ⟨hh,g,d,t,os'⟩:=s'
 obtain rfl:os' = s.os:=os
 exact ⟨v,H',I.call (h':=hh) (g':=g) (d':=d) (t':=t) (ch:=[]) un bJ bare (fun b z=>absurd z (by simp)),r,q⟩
end
noncomputable def aol (sp:Sp) (qv:List V) (E:XK) (t:TA):TE:=fun σ H Q=>t σ H fun vs H1=>sp (vs ++ qv) H1 Q E
noncomputable def akD (C:Addr) (m:Str) (sp:Sp) (qv:List V) (E:XK) (ta:TE) (t:TA):TE:=fun σ H Q=>ta σ H fun x H1=>∃ a dx fs,x = .ref a ∧ H1 a = some (.ins C dx fs) ∧ fs.lookup m = none ∧
 t σ H1 fun vs H2=>sp (x :: (vs ++ qv)) H2 Q E
noncomputable def akE (C:Addr) (sp:Sp) (qv:List V) (E:XK) (t:TA):TE:=fun σ H Q=>t σ H fun vs H1=>∀ x dx,H1 x = none → H1 dx = none → dx ≠ x →
 sp (.ref x :: (vs ++ qv)) (upd (upd H1 dx (.own x)) x (.ins C dx [])) (fun v H2=>v = .bL ∧ Q (.ref x) H2) E
noncomputable def Binds (K:W.Frag) (fd:FuncData) (ps:List Str) (ds:List Value):Prop :=
 ∀ (s:Shared) (us:List Value),K.In s.heap → (us ++ ds).length = ps.length → BindsTo s fd ⟨us,[]⟩ (ps.zip (us ++ ds))
theorem Binds.all {K:W.Frag} {fd:FuncData} {ps:List Str} (h:∀ us:List Value,us.length = ps.length → bindArgs fd ⟨us,[]⟩ = pure (ps.zip us)):Binds K fd ps []:=fun s us _ hl=>by
 rw [List.append_nil] at hl ⊢
 exact .of_eq (h us hl)
noncomputable def Passes (CX:KR) (X:Cx) (E:XK):Prop:=∀ (pins:List (Addr × Obj)) (σ:St) (H:Hp) (s:Shared) (e:Value) (s':Shared),Inv X pins σ H s → CX X.stack H s E e s' → X.xe e s'
section
variable {X:Cx} {CX:KR} {k:Nat} {f C:Addr} {fd:FuncData} {ps:List Str} {sp:Sp} {qv:List V} {ds:List Value} {E:XK} {x m:Str} {p pos apos:Pos} {e o:Expr} {es:List Expr} {ta:TE} {t:TA}
theorem Vu {pins:List (Addr × Obj)} {σ:St} {H:Hp} {s:Shared} {Q:VK} {us:List Value} {vs:List V} (F:aD X.prog X.w X.K X.mg X.base CX k f fd ps sp) (hr:aX k X.A) (hb:Binds X.K fd ps ds) (hd:Vals qv ds) (hx:Passes CX X E)
  (I:Inv X pins σ H s) (r:Vals vs us) (h:sp (vs ++ qv) H Q E):wpAny (model X.prog X.w) X.A (call (.ref f) us) (EP X pins σ Q) X.xe s:=by
 have r2:Vals (vs ++ qv) (us ++ ds):=r.append hd
 have hl:(us ++ ds).length = ps.length:=by rw [← r2.length]; exact F.len _ _ _ _ h
 refine wpAny_call (codeAny_mono (F.run X.A X.stack s H ⟨us,[]⟩ (us ++ ds) (vs ++ qv) Q E hr I.anD (hb s us I.yE hl) r2 h) fun r s' hq=>?_)
 cases r with
 | error e=>exact hx pins σ H s e s' I hq
 | ok fl =>
  cases fl with
  | ret u=>exact I.after hq
  | next=>exact False.elim hq
  | brk=>exact False.elim hq
  | cont=>exact False.elim hq
theorem bB (F:aD X.prog X.w X.K X.mg X.base CX k f fd ps sp) (hr:aX k X.A) (hg:Gl X x) (hm:X.mg x = some (.ref f)) (hk:W.keepIn X.K (.ref f) = true) (hb:Binds X.K fd ps ds) (hd:Vals qv ds) (hx:Passes CX X E)
  (ha:PA X (e :: es) t) (Wj:(x == ("__debug__":Str)) = false:=by decide) (he:starEach (e :: es) X.env = (false,eval e X.env) :: starEach es X.env:=by rfl) (C4:(backTo pos (starEach es X.env)).any (·.1) = false:=by rfl) :
  PE X (.Call (.Name x p) (e :: es) [] pos) (aol sp qv E t):=by
 intro pins s σ H Q I h
 refine wpAny_Call_Name_kw (DH I hg hm ?_ Wj)
 refine W.callWith_K (h₀:=X.base) I.ok.mod.kin hk (bR (ha pos pins s σ H _ I h) fun us s1 ⟨vs,H1,I1,r,q⟩=>⟨I1.yE,?_⟩) he C4
 exact Vu F hr hb hd hx I1 r q
theorem eB {pl:Sem Bool} (he:PE X o ta) (c:yq X.K C) (hm:Meth X.K C m f) (F:aD X.prog X.w X.K X.mg X.base CX k f fd ps sp) (hr:aX k X.A) (hb:Binds X.K fd ps ds) (hd:Vals qv ds) (hx:Passes CX X E) (ha:PA X (e :: es) t)
  (pA:starEach (e :: es) X.env = (false,eval e X.env) :: starEach es X.env:=by rfl) (C4:(backTo pos (starEach es X.env)).any (·.1) = false:=by rfl)
  (ht:eval (.Call (.Attribute o m apos) (e :: es) [] pos) X.env = (do
   let ov ← eval o X.env
   standAt apos.atName
   let (f,first) ← holding [ov] (getMethod ov m pl)
   callWith pos f first (backTo pos (starEach (e :: es) X.env)) (backToKw pos (keywordEach [] X.env))):=by rfl) :
  PE X (.Call (.Attribute o m apos) (e :: es) [] pos) (akD C m sp qv E ta t):=by
 intro pins s σ H Q I h
 refine W.methodCall_KW (pl:=pl) (bR (he pins s σ H _ I h) fun u s1 ⟨x,H1,I1,rx,a,dx,fs,ex,ea,l,q⟩=>?_) ht
 subst ex
 obtain rfl:u = Value.ref a:=rx
 refine Wr I1 ea c hm l ?_
 refine W.callWith_K (first:=[.ref a]) (h₀:=X.base) I.ok.mod.kin hm.kp (bR (ha pos pins s1 σ H1 _ I1 q) fun us s2 ⟨vs,H2,I2,r,q2⟩=>⟨I2.yE,?_⟩) pA C4
 exact Vu (us:=.ref a :: us) (vs:=.ref a :: vs) F hr hb hd hx I2 (.cons rfl r) q2
theorem lZ {pl:Sem Bool} (he:PE X o ta) (c:yq X.K C) (hm:Meth X.K C m f) (F:aD X.prog X.w X.K X.mg X.base CX k f fd ps sp) (hr:aX k X.A) (hb:Binds X.K fd ps ds) (hd:Vals qv ds) (hx:Passes CX X E)
  (ht:eval (.Call (.Attribute o m apos) [] [] pos) X.env = (do
   let ov ← eval o X.env
   standAt apos.atName
   let (f,first) ← holding [ov] (getMethod ov m pl)
   callWith pos f first (backTo pos (starEach [] X.env)) (backToKw pos (keywordEach [] X.env))):=by rfl) :
  PE X (.Call (.Attribute o m apos) [] [] pos) (akD C m sp qv E ta ajl):=by
 intro pins s σ H Q I h
 refine W.methodCall_KW (pl:=pl) (bR (he pins s σ H _ I h) fun u s1 ⟨x,H1,I1,rx,a,dx,fs,ex,ea,l,q⟩=>?_) ht
 subst ex
 obtain rfl:u = Value.ref a:=rx
 refine Wr I1 ea c hm l ?_
 exact W.callWith_K0 (first:=[.ref a]) I1.yE hm.kp (Vu (us:=[.ref a]) (vs:=[.ref a]) F hr hb hd hx I1 (.cons rfl .nil) q)
structure Mk (K:W.Frag) (C f:Addr):Prop where
 makes:W.makesIn K C = true
 init:W.findIn K (.ref C) "__init__" = some (some (.ref f))
 fn:W.isFn K (.ref f) = true
 kp:W.keepIn K (.ref C) = true
theorem acr {pins:List (Addr × Obj)} {σ:St} {H:Hp} {s:Shared} {Q:VK} {us:List Value} {vs:List V} (M:Mk X.K C f) (F:aD X.prog X.w X.K X.mg X.base CX k f fd ps sp) (hr:aX (k + 1) X.A) (hb:Binds X.K fd ps ds) (hd:Vals qv ds)
  (hx:Passes CX X E) (I:Inv X pins σ H s) (r:Vals vs us)
  (h:∀ x dx,H x = none → H dx = none → dx ≠ x → sp (.ref x :: (vs ++ qv)) (upd (upd H dx (.own x)) x (.ins C dx [])) (fun v H2=>v = .bL ∧ Q (.ref x) H2) E) :
  wpAny (model X.prog X.w) X.A (call (.ref C) us) (EP X pins σ Q) X.xe s:=by
 have hq:=h (s.heap.objs.size + 1) s.heap.objs.size (I.bJ.fresh (Nat.le_succ _)) (I.bJ.fresh (Nat.le_refl _)) (Nat.ne_of_lt (Nat.lt_succ_self _))
 have I2:=Inv.made (C:=C) I
 have r2:Vals (V.ref (s.heap.objs.size + 1) :: (vs ++ qv)) (Value.ref (s.heap.objs.size + 1) :: (us ++ ds)):=.cons rfl (r.append hd)
 have hl:(Value.ref (s.heap.objs.size + 1) :: us ++ ds).length = ps.length:=by
  have e:=r2.length
  rw [F.len _ _ _ _ hq] at e
  exact e.symm
 refine wpAny_call (aj4 (f:=f) I.yE M.makes M.init (beq_iff_eq.mp M.fn) (codeAny_mono (F.run _ X.stack _ _ ⟨Value.ref (s.heap.objs.size + 1) :: us,[]⟩ (Value.ref (s.heap.objs.size + 1) :: (us ++ ds)) _ _ E (hr.make C us [])
  (I2.anD.make C us []) (hb _ (Value.ref (s.heap.objs.size + 1) :: us) I2.yE hl) r2 hq) fun r s' qp=>?_))
 cases r with
 | error e=>exact hx pins σ _ _ e s' I2 qp
 | ok fl =>
  cases fl with
  | ret u =>
   obtain ⟨v,H',I3,rv,ev,q3⟩:=I2.after qp
   subst ev
   exact ⟨rv,⟨V.ref (s.heap.objs.size + 1),H',I3,rfl,q3⟩⟩
  | next=>exact False.elim qp
  | brk=>exact False.elim qp
  | cont=>exact False.elim qp
theorem kr (M:Mk X.K C f) (F:aD X.prog X.w X.K X.mg X.base CX k f fd ps sp) (hr:aX (k + 1) X.A) (hg:Gl X x) (hm:X.mg x = some (.ref C)) (hb:Binds X.K fd ps ds) (hd:Vals qv ds) (hx:Passes CX X E)
  (ha:PA X (e :: es) t) (Wj:(x == ("__debug__":Str)) = false:=by decide) (he:starEach (e :: es) X.env = (false,eval e X.env) :: starEach es X.env:=by rfl) (C4:(backTo pos (starEach es X.env)).any (·.1) = false:=by rfl) :
  PE X (.Call (.Name x p) (e :: es) [] pos) (akE C sp qv E t):=by
 intro pins s σ H Q I h
 refine wpAny_Call_Name_kw (DH I hg hm ?_ Wj)
 refine W.callWith_K (h₀:=X.base) I.ok.mod.kin M.kp (bR (ha pos pins s σ H _ I h) fun us s1 ⟨vs,H1,I1,r,q⟩=>⟨I1.yE,?_⟩) he C4
 exact acr M F hr hb hd hx I1 r q
theorem TR (M:Mk X.K C f) (F:aD X.prog X.w X.K X.mg X.base CX k f fd ps sp) (hr:aX (k + 1) X.A) (hg:Gl X x) (hm:X.mg x = some (.ref C)) (hb:Binds X.K fd ps ds) (hd:Vals qv ds) (hx:Passes CX X E)
  (Wj:(x == ("__debug__":Str)) = false:=by decide):PE X (.Call (.Name x p) [] [] pos) (akE C sp qv E ajl):=by
 intro pins s σ H Q I h
 refine wpAny_Call_Name_kw (DH I hg hm ?_ Wj)
 exact W.callWith_K0 I.yE M.kp (acr (us:=[]) M F hr hb hd hx I .nil h)
end
structure aJ (N P:List Str) (sc:Scope):Prop where
 kind:sc.kind = .function
 co:sc.isCoroutine = false
 gen:sc.isGenerator = false
 nd:N.Nodup
 pre:N.take P.length = P
 par:∀ x ∈ P,sc.names.lookup x = some .local ∨ sc.names.lookup x = some .cell
 am1:∀ y ∈ sc.names,y.2 ≠ .free
theorem Z8 {kindOf:Str → Option NameKind} {x:Str}:∀ {binds:List (Str × Value)} {m:Str → Option Value},(∀ v,(x,v) ∉ binds) → bindL kindOf binds m x = m x
 | [],_,_=>rfl
 | (n,v) :: r,m,h=>by
  unfold bindL
  rw [Z8 fun w hw=>h w (List.mem_cons_of_mem _ hw)]
  split
  ·have:x ≠ n:=by rintro rfl; exact h v List.mem_cons_self
   simp [this]
  ·rfl
theorem aaa {kindOf:Str → Option NameKind} {x:Str}:∀ {binds:List (Str × Value)} {m:Str → Option Value},(∀ v,(x,v) ∉ binds) → bindC kindOf binds m x = m x
 | [],_,_=>rfl
 | (n,v) :: r,m,h=>by
  unfold bindC
  rw [aaa fun w hw=>h w (List.mem_cons_of_mem _ hw)]
  split
  ·rfl
  ·have:x ≠ n:=by rintro rfl; exact h v List.mem_cons_self
   simp [this]
theorem Z9 {kindOf:Str → Option NameKind} {x:Str} {v:Value}:∀ {P:List Str} {vs:List Value} {i:Nat} {m:Str → Option Value},P.Nodup → P[i]? = some x → vs[i]? = some v → kindOf x = some .local →
  bindL kindOf (P.zip vs) m x = some v
 | [],_,_,_,_,h,_,_=>by simp at h
 | _ :: _,[],_,_,_,_,h,_=>by simp at h
 | p :: P,w :: vs,0,m,nd,h1,h2,hk=>by
  simp at h1 h2; subst h1; subst h2
  show bindL kindOf ((p,w) :: P.zip vs) m p = _
  unfold bindL
  rw [Z8 fun v hv=>(List.nodup_cons.mp nd).1 (List.of_mem_zip hv).1,if_pos hk]
  simp
 | p :: P,w :: vs,i + 1,m,nd,h1,h2,hk=>by
  show bindL kindOf ((p,w) :: P.zip vs) m x = _
  unfold bindL
  exact Z9 (i:=i) (List.nodup_cons.mp nd).2 (by simpa using h1) (by simpa using h2) hk
theorem aab {kindOf:Str → Option NameKind} {x:Str} {v:Value}:∀ {P:List Str} {vs:List Value} {i:Nat} {m:Str → Option Value},P.Nodup → P[i]? = some x → vs[i]? = some v → kindOf x ≠ some .local →
  bindC kindOf (P.zip vs) m x = some v
 | [],_,_,_,_,h,_,_=>by simp at h
 | _ :: _,[],_,_,_,_,h,_=>by simp at h
 | p :: P,w :: vs,0,m,nd,h1,h2,hk=>by
  simp at h1 h2; subst h1; subst h2
  show bindC kindOf ((p,w) :: P.zip vs) m p = _
  unfold bindC
  rw [aaa fun v hv=>(List.nodup_cons.mp nd).1 (List.of_mem_zip hv).1,if_neg hk]
  simp
 | p :: P,w :: vs,i + 1,m,nd,h1,h2,hk=>by
  show bindC kindOf ((p,w) :: P.zip vs) m x = _
  unfold bindC
  exact aab (i:=i) (List.nodup_cons.mp nd).2 (by simpa using h1) (by simpa using h2) hk
noncomputable def start (N:List Str) (vs:List V):St:=vs.map some ++ List.replicate (N.length - vs.length) none
noncomputable def bC (CX:KR) (P:Program) (w:World) (K:W.Frag) (mg:Str → Option Value) (base:Heap) (N:List Str) (qual:Str) (scope:Scope) (f:Addr) (cd:Value) (A:Around) (outer:List Env) (s:Shared) (H:Hp) (E:XK):Cx where
 prog:=P
 w:=w
 K:=K
 mg:=mg
 base:=base
 A:=A.deeper (envOfC qual scope s.heap.objs.size f cd)
 N:=N
 vz:=s
 H_0:=H
 env:=envOfC qual scope s.heap.objs.size f cd
 outer:=outer
 stack:=envOfC qual scope s.heap.objs.size f cd :: outer
 ex:=[]
 calm:=true
 fn:=fun _=>true
 pn:=[]
 xe:=fun e s'=>wpAny (model P w) (A.deeper (envOfC qual scope s.heap.objs.size f cd)) (leaving (envOfC qual scope s.heap.objs.size f cd) e) (fun _ s''=>CX outer H s E e s'') (fun e' s''=>CX outer H s E e' s'') s'
theorem aek {sc:Scope} {n:Nat} {x:Str} (h:sc.names.lookup x = some .cell):∃ c,(cellsFrom n sc.names []).lookup x = some c:=by
 have q:=W.cellsFrom_some sc.names n [] (.inl h)
 exact Option.isSome_iff_exists.mp q
theorem aiJ {CX:KR} {P:Program} {w:World} {K:W.Frag} {mg:Str → Option Value} {base:Heap} {N ps:List Str} {qual:Str} {scope:Scope} {f:Addr} {cd:Value} {A:Around} {outer:List Env} {s s1:Shared} {H:Hp} {E:XK} {us:List Value} {vs:List V}
  (S:aJ N ps scope) (hd:A.handled = none) (e0:U1 P w K mg base A outer s H) (hl:vs.length = ps.length) (r:Vals vs us)
  (x:InCallC s s.heap.objs.size (bindL (envOfC qual scope s.heap.objs.size f cd).kindOf (ps.zip us) fun _=>none) (cellsFrom (s.heap.objs.size + 1) scope.names []) (bindC (envOfC qual scope s.heap.objs.size f cd).kindOf (ps.zip us) fun _=>none) s1) :
  Inv (bC CX P w K mg base N qual scope f cd A outer s H E) [] (start N vs) H s1:=by
 have C4:ps.length ≤ N.length:=by have:=congrArg List.length S.pre; rw [List.length_take] at this; omega
 obtain ⟨h1,tk,rfl,hk⟩:=x.done
 have noA:∀ b:Addr,b ∉ (bC CX P w K mg base N qual scope f cd A outer s H E).ex:=fun b z=>absurd (show b ∈ ([]:List Addr) from z) (by simp)
 refine ⟨⟨e0.mod,S.kind,rfl,rfl,Nat.le_refl _,fun y z c h1 h2=>?_,fun y hy=>?_,fun y c _ h=>?_,fun _=>hd,Around.frames_deeper e0.frames,.inr ⟨rfl,rfl⟩,fun b z=>absurd z (noA b),e0.bs,e0.WQ,fun b _ _=>noA b,fun b z=>absurd z (noA b),e0.Cb,e0.frf⟩,
  rfl,e0.bare,Un.kept hk,⟨_,x.toInCall.ns,fun i y v h1 h2 h3=>?_⟩,fun y c h=>⟨_,x.cell y c h⟩,e0.bJ.fresh (Nat.le_refl _),fun y c h=>?_,fun p hp=>absurd (show p ∈ ([]:List (Addr × Obj)) from hp) (by simp),e0.bJ.kept hk,?_⟩
 ·exact name_of_addr x.apart (PySem.mem_of_lookup h1) (PySem.mem_of_lookup h2)
 ·have hy:scope.names.lookup y = some .cell ∨ scope.names.lookup y = some .free:=hy
  rcases hy with hy | hy
  ·exact aek hy
  ·exact absurd rfl (S.am1 _ (PySem.mem_of_lookup hy))
 ·exact Nat.le_of_lt (x.above y c (PySem.mem_of_lookup h))
 ·have hi:i < vs.length:=by
   unfold start at h2
   by_cases hi:i < vs.length
   ·exact hi
   ·rw [List.getElem?_append_right (by simpa using hi)] at h2
    rw [List.getElem?_replicate] at h2
    split at h2 <;> cases h2
  have ha:vs[i]? = some v:=by
   unfold start at h2
   rw [List.getElem?_append_left (by simpa using hi),List.getElem?_map] at h2
   cases e:vs[i]? with
   | none=>rw [e] at h2; cases h2
   | some a=>rw [e] at h2; cases h2; rfl
  obtain ⟨u,hu,rv⟩:=r.get ha
  have hp:ps[i]? = some y:=by
   rw [← S.pre,List.getElem?_take_of_lt (by omega)]; exact h1
  have ndP:ps.Nodup:=by rw [← S.pre]; exact S.nd.sublist (List.take_sublist _ _)
  refine ⟨u,rv,?_⟩
  rcases S.par y (List.mem_of_getElem? hp) with k | k
  ·exact .inl ⟨k,Z9 ndP hp hu k⟩
  ·obtain ⟨c,e⟩:=aek (n:=s.heap.objs.size + 1) k
   refine .inr ⟨.inl k,c,e,?_⟩
   have q:=x.cell y c e
   rw [aab ndP hp hu (by show scope.names.lookup y ≠ _; rw [k]; decide)] at q
   exact q
 ·exact e0.bJ.fresh (Nat.le_of_lt (x.above y c (PySem.mem_of_lookup h)))
 ·unfold start
  show _ = N.length
  rw [List.length_append,List.length_map,List.length_replicate]
  omega
theorem akR {CX:KR} {P:Program} {w:World} {K:W.Frag} {mg:Str → Option Value} {base:Heap} {k:Nat} {f:Addr} {name qual:Str} {params:Arguments} {body:List Stmt} {scope:Scope} {dV kV doc pm au ct oc:Value} {an od:Option Addr}
  {MH:Array (Option Value)} {N ps:List Str} {sp:Sp} (lk:K.lookup f = some ⟨oc,od,.func (W.fnOf name qual params body scope dV kV doc pm an au ct),MH⟩) (MX:W.codeIn K au qual = true) (S:aJ N ps scope)
  (len:∀ vs H Q E,sp vs H Q E → vs.length = ps.length)
  (Wo:∀ (A:Around) (outer:List Env) (s:Shared) (H:Hp) (vs:List V) (Q:VK) (E:XK),aX k (A.deeper (envOfC qual scope s.heap.objs.size f au)) → sp vs H Q E →
   ∃ t,cg (bC CX P w K mg base N qual scope f au A outer s H E) body t ∧ t { nx:=fun _ H'=>Q .bL H',rt:=Q } (start N vs) H) :
  aD P w K mg base CX (k + 1) f (W.fnOf name qual params body scope dV kV doc pm an au ct) ps sp:=by
 refine ⟨len,fun A outer s H args us vs Q E hr e0 hb r MU=>?_⟩
 have hl:=len _ _ _ _ MU
 have KX:K.In s.heap:=e0.mod.kin.keeps fun b o e=>(e0.bs b o e).1
 have lim:s.heap.NoLimit:=e0.mod.nolimit.keeps fun b o e=>(e0.bs b o e).1
 have aoE:∀ y ∈ ps.zip us,scope.names.lookup y.1 = some .local ∨ (scope.names.lookup y.1 = some .cell ∧ ((cellsFrom (s.heap.objs.size + 1) scope.names []).lookup y.1).isSome = true):=fun ⟨n,v⟩ hy=>by
  rcases S.par n (List.of_mem_zip hy).1 with q | q
  ·exact .inl q
  ·exact .inr ⟨q,W.cellsFrom_some _ _ _ (.inl q)⟩
 refine codeAny_call_function hr.depth (KX _ _ lk) rfl S.co S.gen rfl (W.codeRec_of KX MX) (hb _ _ _ _ ?_)
 refine wpAny_newFunctionEnv_cells S.kind aoE fun env he s1 x=>?_
 subst he
 refine ⟨lim.keeps x.toInCall.keep,codeAny_func ?_⟩
 obtain ⟨t,ht,hq⟩:=Wo A outer s H vs Q E (hr.deeper _) MU
 have I:Inv (bC CX P w K mg base N qual scope f au A outer s H E) [] (start N vs) H s1:=aiJ S hr.hd e0 hl r x
 refine wpAny_mono (ht [] s1 (start N vs) H _ I hq) (fun fl s' hs=>?_) fun e s' hs=>hs
 have fin:∀ {σ':St} {H':Hp} {v:V} {u:Value},Inv (bC CX P w K mg base N qual scope f au A outer s H E) [] σ' H' s' → RelV v u → Q v H' → CE outer P w H s Q u s' :=
  fun {σ' H' v u} J rv q=>⟨v,H',J.os,J.bare,J.base,J.bJ,rv,q⟩
 cases fl with
 | ret u =>
  obtain ⟨v,σ',H',J,rv,q⟩:=hs
  exact fin J rv q
 | next =>
  obtain ⟨σ',H',J,q⟩:=hs
  exact fin (v:=V.bL) (u:=Value.none) J rfl q
 | brk =>
  obtain ⟨_,_,_,q⟩:=hs
  exact False.elim q
 | cont =>
  obtain ⟨_,_,_,q⟩:=hs
  exact False.elim q
end L2
namespace L2
open PySem PySem.Spec PyProof.Rows
section
variable {X:Cx} {x:Str} {p pos:Pos} {e:Expr} {es:List Expr} {t:TA} {id T:String} {r:List V → Hp → VK → Prop}
noncomputable def tCB (r:List V → Hp → VK → Prop) (t:TA):TE:=fun σ H Q=>t σ H fun vs H1=>r vs H1 Q
theorem bV (hc:Dv X (.builtin id) r) (hg:Gl X x) (hm:X.mg x = none) (hv:bootBuiltins x = some (.builtin id)) (ha:PA X (e :: es) t) (hn:x ≠ "__name__":=by decide) (Wj:(x == ("__debug__":Str)) = false:=by decide)
  (he:starEach (e :: es) X.env = (false,eval e X.env) :: starEach es X.env:=by rfl) (C4:(backTo pos (starEach es X.env)).any (·.1) = false:=by rfl):PE X (.Call (.Name x p) (e :: es) [] pos) (tCB r t):=by
 intro pins s σ H Q I h
 refine wpAny_Call_Name_kw (O8 I hg hm hv ?_ hn Wj)
 exact PyProof.Rows.callWith_builtin1 (bR (ha pos pins s σ H _ I h) fun us s1 ⟨vs,H1,I1,r1,q1⟩=>hc pins s1 σ H1 vs us Q I1 r1 q1) he C4
theorem ZC (hc:Dv X (.type T) r) (hg:Gl X x) (hm:X.mg x = none) (hv:bootBuiltins x = some (.type T)) (ha:PA X (e :: es) t) (hn:x ≠ "__name__":=by decide) (Wj:(x == ("__debug__":Str)) = false:=by decide)
  (he:starEach (e :: es) X.env = (false,eval e X.env) :: starEach es X.env:=by rfl) (C4:(backTo pos (starEach es X.env)).any (·.1) = false:=by rfl):PE X (.Call (.Name x p) (e :: es) [] pos) (tCB r t):=by
 intro pins s σ H Q I h
 refine wpAny_Call_Name_kw (O8 I hg hm hv ?_ hn Wj)
 exact PyProof.Rows.callWith_type1 (bR (ha pos pins s σ H _ I h) fun us s1 ⟨vs,H1,I1,r1,q1⟩=>hc pins s1 σ H1 vs us Q I1 r1 q1) he C4
end
end L2
namespace HT
open PySem PyProof.Rows
section
variable {prog:Program} {w:World} {A:Around} {E:Value → Shared → Prop} {s:Shared}
noncomputable def AJ (n d:Nat):Option Int → Nat
 | none=>d
 | some v=>if v < 0 then (v + (n:Int)).toNat else min v.toNat n
theorem ajy (n d:Nat):AJ n d none = d:=rfl
theorem XD (n d k:Nat):AJ n d (some (k:Int)) = min k n:=by
 show (if (k:Int) < 0 then ((k:Int) + (n:Int)).toNat else min (k:Int).toNat n) = min k n
 rw [if_neg (by omega),Int.toNat_natCast]
end
end HT
namespace L2
open PySem PySem.Spec PyProof.Rows
noncomputable abbrev TO:=St → Hp → (Option Int → Hp → Prop) → Prop
noncomputable def PO (X:Cx) (e:Option Expr) (t:TO):Prop :=
 ∀ (pins:List (Addr × Obj)) (s:Shared) (σ:St) (H:Hp) (Q:Option Int → Hp → Prop),Inv X pins σ H s → t σ H Q →
  wpAny (model X.prog X.w) X.A (evalPart e X.env) (fun u s'=>∃ o H',Inv X pins σ H' s' ∧ IsPart u o ∧ Q o H') X.xe s
noncomputable def ak6:TO:=fun _ H Q=>Q none H
noncomputable def aoh (t:TE):TO:=fun σ H Q=>t σ H fun x H1=>∃ i,x = .int i ∧ Q (some i) H1
section
variable {X:Cx} {e:Expr} {te:TE} {lo hi:Option Expr} {tl th:TO} {pos p2:Pos}
theorem alq:PO X none ak6:=by
 intro pins s σ H Q I h
 rw [evalPart_none]
 exact wpAny_pure ⟨none,H,I,.none,h⟩
theorem ze (h:PE X e te):PO X (some e) (aoh te):=by
 intro pins s σ H Q I hw
 rw [evalPart_some]
 refine bR (h pins s σ H _ I hw) fun u s1 ⟨x,H1,I1,r1,q1⟩=>?_
 obtain ⟨i,rfl,q⟩:=q1
 obtain ⟨t,rfl⟩:=r1
 exact ⟨some i,H1,I1,.int i t,q⟩
noncomputable def SlR (X:Cx) (r:V → Option Int → Option Int → Hp → VK → Prop):Prop :=
 ∀ (pins:List (Addr × Obj)) (s:Shared) (σ:St) (H:Hp) (x:V) (v vl vu:Value) (lo hi:Option Int) (sl:Addr) (Q:VK),Inv X pins σ H s → RelV x v → s.heap.IsSliceOf sl vl vu .none → IsPart vl lo → IsPart vu hi → r x lo hi H Q →
  ∃ T id,typeLookup (.type T) "__getitem__" = pure (some (.builtin id)) ∧ s.TypeIs v T ∧ wpAny (model X.prog X.w) X.A (getItem v (.ref sl)) (EP X pins σ Q) X.xe s
noncomputable def tSl (r:V → Option Int → Option Int → Hp → VK → Prop) (te:TE) (tl th:TO):TE:=fun σ H Q=>te σ H fun x H1=>tl σ H1 fun l H2=>th σ H2 fun u H3=>r x l u H3 Q
theorem Lm {r:V → Option Int → Option Int → Hp → VK → Prop} (hr:SlR X r) (he:PE X e te) (hl:PO X lo tl) (hu:PO X hi th):PE X (.Subscript e (.Slice lo hi none p2) pos) (tSl r te tl th):=by
 intro pins s σ H Q I h
 refine Subscript_ (bR (he pins s σ H _ I h) fun v s1 ⟨x,H1,I1,r1,q1⟩=>?_)
 refine wpAny_Slice (bR (hl pins s1 σ H1 _ I1 q1) fun vl s2 ⟨l,H2,I2,pl,q2⟩=>bR (hu pins s2 σ H2 _ I2 q2) fun vu s3 ⟨u,H3,I3,pu,q3⟩=>?_)
 rw [evalPart_none]
 refine wpAny_pure ?_
 have I4:Inv X pins σ H3 { s3 with heap:=s3.heap.push { cls:=.type "slice",data:=.fields #[vl,vu,.none] } }:=I3.kept (t':=s3.toks) fun b ob q=>Heap.get?_push_of_some _ q
 obtain ⟨T,id,hT,ht,hg⟩:=hr pins { s3 with heap:=s3.heap.push { cls:=.type "slice",data:=.fields #[vl,vu,.none] } } σ H3 x v vl vu l u s3.heap.objs.size Q I4 r1 (Heap.IsSliceOf.new ..) pl pu q3
 show wpAny (model X.prog X.w) X.A (subscriptTail e (.Slice lo hi none p2) v (.ref s3.heap.objs.size)) (EP X pins σ Q) X.xe { s3 with heap:=s3.heap.push { cls:=.type "slice",data:=.fields #[vl,vu,.none] } }
 exact tail_any (ops:=[.ref s3.heap.objs.size,v]) ht hT hg (by with_unfolding_all rfl)
noncomputable def Ci (xs:List V) (lo hi:Option Int):List V:=(xs.drop (HT.AJ xs.length 0 lo)).take (HT.AJ xs.length xs.length hi - HT.AJ xs.length 0 lo)
theorem afc (xs:List V) (lo hi:Option Int):(Ci xs lo hi).length ≤ xs.length:=by
 unfold Ci
 rw [List.length_take,List.length_drop]
 omega
end
end L2
namespace L2
open PySem PySem.Spec PyProof.Rows
noncomputable def Wa (n:Nat) (i:Int):Option Nat:=if 0 ≤ i then (if i < n then some i.toNat else none) else if -(n:Int) ≤ i then some (i + n).toNat else none
noncomputable def Tc {α:Type} (xs:List α) (i:Int):Option α:=(Wa xs.length i).bind fun j=>xs[j]?
theorem afR {n:Nat} {i:Int} {j:Nat} (h:Wa n i = some j):seqIndex? i n = some j ∧ j < n ∧ -(n:Int) ≤ i ∧ i < n:=by
 unfold Wa at h
 by_cases h0:0 ≤ i
 ·rw [if_pos h0] at h
  by_cases h1:i < n
  ·rw [if_pos h1] at h
   have e:i.toNat = j:=Option.some.inj h
   exact ⟨by rw [seqIndex_of h0 h1,e],by omega,by omega,h1⟩
  ·rw [if_neg h1] at h; cases h
 ·rw [if_neg h0] at h
  by_cases h1:-(n:Int) ≤ i
  ·rw [if_pos h1] at h
   have e:(i + n).toNat = j:=Option.some.inj h
   exact ⟨by rw [seqIndex_neg (by omega) h1,e],by omega,h1,by omega⟩
  ·rw [if_neg h1] at h; cases h
theorem agl {α:Type} {xs:List α} {i:Int} {v:α} (h:Tc xs i = some v):∃ j,seqIndex? i xs.length = some j ∧ xs[j]? = some v ∧ j < xs.length ∧ -(xs.length:Int) ≤ i ∧ i < xs.length:=by
 unfold Tc at h
 cases e:Wa xs.length i with
 | none=>rw [e] at h; cases h
 | some j =>
  rw [e] at h
  obtain ⟨h1,h2,h3,h4⟩:=afR e
  exact ⟨j,h1,h,h2,h3,h4⟩
theorem gP {α:Type} {xs:List α} {j:Nat} {v:α} (h:xs[j]? = some v):Tc xs (j:Int) = some v:=by
 have hj:j < xs.length:=(List.getElem?_eq_some_iff.mp h).1
 have e:Wa xs.length (j:Int) = some j:=by
  unfold Wa
  rw [if_pos (by omega),if_pos (by omega)]; simp
 unfold Tc; rw [e]; exact h
noncomputable def al7 (b:Expr):Prop:=∀ o i,subscripted b false o i = operate [o,i] (getItem o i)
noncomputable def IxR (X:Cx) (r:R2):Prop :=
 ∀ (value slice:Expr) (pins:List (Addr × Obj)) (s:Shared) (σ:St) (H:Hp) (x y:V) (v u:Value) (Q:VK),Inv X pins σ H s → RelV x v → RelV y u → r x y H Q →
  subscripted slice false v u = operate [v,u] (getItem v u) → wpAny (model X.prog X.w) X.A (subscriptTail value slice v u) (EP X pins σ Q) X.xe s
noncomputable def MtR (X:Cx) (id:String) (r:V → List V → Hp → VK → Prop):Prop :=
 ∀ (pins:List (Addr × Obj)) (s:Shared) (σ:St) (H:Hp) (x:V) (xs:List V) (v:Value) (us:List Value) (Q:VK),Inv X pins σ H s → RelV x v → Vals xs us → r x xs H Q →
  wpAny (model X.prog X.w) X.A (call (.builtin id) (v :: us)) (EP X pins σ Q) X.xe s
section
variable {X:Cx} {a b:Expr} {ta tb:TE} {pos:Pos}
theorem bE {r:R2} (hr:IxR X r) (ha:PE X a ta) (hb:PE X b tb) (hs:al7 b):PE X (.Subscript a b pos) (tOp r ta tb):=by
 intro pins s σ H Q I h
 exact Subscript_ (akr ha hb I h fun v u s2 x y H2 I2 rx ry q=>hr a b pins s2 σ H2 x y v u Q I2 rx ry q (hs _ _))
noncomputable def apu (K:W.Frag):R2:=fun x y H Q=>∃ p xs i v,x = .ref p ∧ y = .int i ∧ aM K H p xs ∧ Tc xs i = some v ∧ Q v H
noncomputable def amI (K:W.Frag):R2:=fun x y H Q=>∃ p xs i v,x = .ref p ∧ y = .int i ∧ j0 K H p xs ∧ Tc xs i = some v ∧ Q v H
theorem bj:IxR X (apu X.K):=by
 intro value slice pins s σ H x y v u Q I rx ry h hs
 obtain ⟨p,xs,i,z,rfl,rfl,hq,he,q⟩:=h
 cases rx
 obtain ⟨t,rfl⟩:=ry
 obtain ⟨aT,r,pl,hz⟩:=I.list hq
 obtain ⟨j,h1,h2,h3,h4,h5⟩:=agl he
 obtain ⟨w,ew,AK⟩:=r.get h2
 have hl:=r.length
 have hn:=O7
 have fin:EP X pins σ Q w s:=⟨z,H,I,AK,q⟩
 by_cases h0:0 ≤ i
 ·have hj:i.toNat = j:=by
   rw [seqIndex_of h0 h5] at h1
   exact Option.some.inj h1
  exact item_listR pl.isList h0 (by omega) (by rw [hj]; simpa using ew) fin hs
 ·have hj:(i + (aT.toArray.size:Int)).toNat = j:=by
   rw [seqIndex_neg (by omega) h4] at h1
   rw [List.size_toArray,← hl]
   exact Option.some.inj h1
  exact subscriptTail_builtinR (x:=w) pl.isList.typeIs slot_list_getitem.lookup
   (wpAny_getItem_list_neg (Q:=fun r s'=>r = w ∧ EP X pins σ Q r s') pl.isList (by omega) (by rw [List.size_toArray] <;> omega) (by omega) (by rw [hj]; simpa using ew) ⟨rfl,fin⟩) hs
theorem nJ:IxR X (amI X.K):=by
 intro value slice pins s σ H x y v u Q I rx ry h hs
 obtain ⟨p,xs,i,z,rfl,rfl,hq,he,q⟩:=h
 cases rx
 obtain ⟨t,rfl⟩:=ry
 obtain ⟨aT,r,pl,hz⟩:=I.tuple hq
 obtain ⟨j,h1,h2,h3,h4,h5⟩:=agl he
 obtain ⟨w,ew,AK⟩:=r.get h2
 have hl:=r.length
 have hn:=O7
 have fin:EP X pins σ Q w s:=⟨z,H,I,AK,q⟩
 exact subscriptTail_builtinR (x:=w) pl.typeIs slot_tuple_getitem.lookup
  (getItem_tuple (j:=j) (Q:=fun r s'=>r = w ∧ EP X pins σ Q r s') pl (by omega) (by omega) (by rw [List.size_toArray,← hl]; exact h1) (by simpa using ew) ⟨rfl,fin⟩) hs
theorem ahh (aT:List Value) (n j:Nat) (u:Value):Obj.mapSeq (·.setIfInBounds j u) { cls:=.type "list",data:=.seq aT.toArray n } = { cls:=.type "list",data:=.seq (aT.set j u).toArray n }:=by
 simp [Obj.mapSeq]
theorem Inv.lst {pins:List (Addr × Obj)} {σ:St} {H:Hp} {s:Shared} {p:Addr} {xs:List V} (I:Inv X pins σ H s) (h:H p = some (.lst xs)) :
  ∃ (aT:List Value) (n:Nat),Vals xs aT ∧ s.heap.get? p = some { cls:=.type "list",data:=.seq aT.toArray n } ∧ xs.length ≤ sizeLine:=by
 obtain ⟨z,aT,n,r,e⟩:=I.bJ p _ h
 exact ⟨aT,n,r,e,z⟩
theorem Inv.ana {pins:List (Addr × Obj)} {σ:St} {H:Hp} {s:Shared} {p:Addr} {xs ys:List V} {aT xj:List Value} {n n':Nat} {f:Obj → Obj} (I:Inv X pins σ H s) (h:H p = some (.lst xs))
  (ho:s.heap.get? p = some { cls:=.type "list",data:=.seq aT.toArray n }) (hf:f { cls:=.type "list",data:=.seq aT.toArray n } = { cls:=.type "list",data:=.seq xj.toArray n' }) (r:Vals ys xj) (hz:ys.length ≤ sizeLine) (t:Nat) :
  Inv X pins σ (upd H p (.lst ys)) { s with heap:=s.heap.update p f,toks:=t }:=by
 have e:(s.heap.update p f).get? p = some { cls:=.type "list",data:=.seq xj.toArray n' }:=by
  rw [Heap.get?_update_self f ho (by rw [hf] <;> rfl),hf]
 refine I.write (x:=p) (e:=p) (by rw [h]; trivial) (.inl rfl) (fun b u hb q=>(Heap.get?_update_other _ _ (Ne.symm hb)).trans q) ⟨_,e⟩ ?_
 exact ⟨hz,xj,n',r,e⟩
noncomputable def aor:V → V → V → Hp → (Hp → Prop) → Prop:=fun o i v H Q=>∃ p xs k j,o = .ref p ∧ i = .int k ∧ H p = some (.lst xs) ∧ Wa xs.length k = some j ∧ Q (upd H p (.lst (xs.set j v)))
theorem set_list:an1 X aor:=by
 intro pins s σ H o i v ov iv u Q I ro ri rv h
 obtain ⟨p,xs,k,j,rfl,rfl,hp,hj,q⟩:=h
 cases ro
 obtain ⟨t,rfl⟩:=ri
 obtain ⟨aT,n,r,ho,hz⟩:=I.lst hp
 obtain ⟨h1,h2,h3,h4⟩:=afR hj
 have hl:=r.length
 have hn:=O7
 have I':Inv X pins σ (upd H p (.lst (xs.set j v))) { s with heap:=s.heap.update p (Obj.mapSeq (·.setIfInBounds j u)) } :=
  I.ana hp ho (ahh aT n j u) (r.set rv j) (by rw [List.length_set]; exact hz) s.toks
 by_cases h0:0 ≤ k
 ·have hk:k.toNat = j:=by
   rw [seqIndex_of h0 h4] at h1
   exact Option.some.inj h1
  exact W.ki_setAt ho h0 (by omega) (by rw [List.size_toArray,← hl]; exact h4) (by rw [hk]; exact ⟨_,I',q⟩)
 ·have hk:(k + (aT.toArray.size:Int)).toNat = j:=by
   rw [seqIndex_neg (by omega) h3] at h1
   rw [List.size_toArray,← hl]
   exact Option.some.inj h1
  exact W.ki_setBack ho (by omega) (by rw [List.size_toArray,← hl]; exact h3) (by omega) (by rw [hk]; exact ⟨_,I',q⟩)
theorem ab4 (lo hi:Option Int) (n:Nat):(sliceBounds lo hi none n).1 = ((HT.AJ n 0 lo:Nat):Int) ∧ (sliceBounds lo hi none n).2.1 = ((HT.AJ n n hi:Nat):Int) ∧ (sliceBounds lo hi none n).2.2 = 1:=by
 refine ⟨?_,?_,rfl⟩
 ·cases lo with
  | none=>simp [sliceBounds,HT.AJ]
  | some i =>
   simp only [sliceBounds,HT.AJ,Option.getD_none,show (1:Int) > 0 by decide,if_true]
   by_cases h:i < 0
   ·simp only [h,if_true] <;> omega
   ·simp only [h,if_false] <;> omega
 ·cases hi with
  | none=>simp [sliceBounds,HT.AJ]
  | some i =>
   simp only [sliceBounds,HT.AJ,Option.getD_none,show (1:Int) > 0 by decide,if_true]
   by_cases h:i < 0
   ·simp only [h,if_true] <;> omega
   ·simp only [h,if_false] <;> omega
theorem aax (aT:List Value) (lo hi:Option Int):slicePick aT.toArray lo hi none = ((aT.drop (HT.AJ aT.length 0 lo)).take (HT.AJ aT.length aT.length hi - HT.AJ aT.length 0 lo)).toArray:=by
 obtain ⟨h1,h2,h3⟩:=ab4 lo hi aT.toArray.size
 unfold slicePick
 rw [h1,h2,h3]
 simp only [sliceRange_one,pick_run,List.size_toArray] <;> rfl
noncomputable def amG (K:W.Frag):V → Option Int → Option Int → Hp → VK → Prop:=fun x lo hi H Q=>∃ a xs,x = .ref a ∧ aM K H a xs ∧ ∀ p,H p = none → Q (.ref p) (upd H p (.lst (Ci xs lo hi)))
theorem Ru:SlR X (amG X.K):=by
 intro pins s σ H x v vl vu lo hi sl Q I rx hs pl pu h
 obtain ⟨a,xs,rfl,hx,q⟩:=h
 cases rx
 obtain ⟨aT,r,ht,hz⟩:=I.list hx
 have hlen:=r.length
 refine ⟨"list",_,slot_list_getitem.lookup,ht.isList.typeIs,?_⟩
 refine wpAny_getItem_list_slice ht.isList hs pl pu .none (by simp) ?_ (by rw [List.size_toArray] <;> omega)
 rw [aax,← hlen]
 refine ⟨.ref s.heap.objs.size,_,I.laid (t':=s.toks) (o:=.lst (Ci xs lo hi)) (fun b ob q=>Heap.get?_push_of_some _ q) (Nat.le_refl _) ?_,rfl,q _ (I.bJ.fresh (Nat.le_refl _))⟩
 exact ⟨Nat.le_trans (afc xs lo hi) hz,_,0,(r.drop (HT.AJ xs.length 0 lo)).take (HT.AJ xs.length xs.length hi - HT.AJ xs.length 0 lo),Heap.get?_push_size _ rfl⟩
noncomputable def Gq:V → Bool
 | .bL=>true
 | .bl _=>true
 | .int _=>true
 | .str _=>true
 | _=>false
noncomputable def ZT:V → V → Bool
 | .bL,.bL=>true
 | .bl a,.bl b=>a == b
 | .bl a,.int b=>(if a then 1 else 0) == b
 | .int a,.bl b=>a == (if b then 1 else 0)
 | .int a,.int b=>a == b
 | .str a,.str b=>a == b
 | _,_=>false
theorem anC {A:Around} {s:Shared} {y x:V} {u v:Value} (ry:RelV y u) (rx:RelV x v) (fy:Gq y = true) (fx:Gq x = true):SeqAt.EqAt A s u v (ZT y x):=by
 cases y with
 | bL =>
  cases ry
  cases x with
  | bL=>cases rx; exact SeqAt.EqAt.same _
  | bl b=>cases rx; exact SeqAt.EqAt.none_bool b
  | int b=>obtain ⟨t,rfl⟩:=rx; exact SeqAt.EqAt.none_int b t
  | str b=>obtain ⟨t,rfl⟩:=rx; exact SeqAt.EqAt.none_str b t
  | _=>exact absurd (show false = true from fx) Bool.false_ne_true
 | bl a =>
  cases ry
  cases x with
  | bL=>cases rx; exact SeqAt.EqAt.bool_none a
  | bl b=>cases rx; exact SeqAt.EqAt.bool_bool a b
  | int b=>obtain ⟨t,rfl⟩:=rx; exact SeqAt.EqAt.bool_int a b t
  | str b=>obtain ⟨t,rfl⟩:=rx; exact SeqAt.EqAt.bool_str a b t
  | _=>exact absurd (show false = true from fx) Bool.false_ne_true
 | int a =>
  obtain ⟨t',rfl⟩:=ry
  cases x with
  | bL=>cases rx; exact SeqAt.EqAt.int_none a t'
  | bl b=>cases rx; exact SeqAt.EqAt.int_bool a t' b
  | int b=>obtain ⟨t,rfl⟩:=rx; exact SeqAt.EqAt.int_int a t' b t
  | str b=>obtain ⟨t,rfl⟩:=rx; exact SeqAt.EqAt.int_str a t' b t
  | _=>exact absurd (show false = true from fx) Bool.false_ne_true
 | str a =>
  obtain ⟨t',rfl⟩:=ry
  cases x with
  | bL=>cases rx; exact SeqAt.EqAt.str_none a t'
  | bl b=>cases rx; exact SeqAt.EqAt.str_bool a t' b
  | int b=>obtain ⟨t,rfl⟩:=rx; exact SeqAt.EqAt.str_int a t' b t
  | str b=>obtain ⟨t,rfl⟩:=rx; exact SeqAt.EqAt.str_str a t' b t
  | _=>exact absurd (show false = true from fx) Bool.false_ne_true
 | _=>exact absurd (show false = true from fy) Bool.false_ne_true
noncomputable def Wu (x:V) (u:Value):Bool:=match u with
 | .none=>ZT .bL x
 | .bool b=>ZT (.bl b) x
 | .int i _=>ZT (.int i) x
 | .str z _=>ZT (.str z) x
 | _=>false
theorem aiQ {x y:V} {u:Value} (r:RelV y u) (f:Gq y = true):Wu x u = ZT y x:=by
 cases y with
 | bL=>cases r; rfl
 | bl b=>cases r; rfl
 | int i=>obtain ⟨t,rfl⟩:=r; rfl
 | str z=>obtain ⟨t,rfl⟩:=r; rfl
 | _=>exact absurd (show false = true from f) Bool.false_ne_true
theorem Za {x:V}:∀ {xs:List V} {us:List Value},Vals xs us → xs.all Gq = true → us.any (Wu x) = xs.any fun y=>ZT y x
 | _,_,.nil,_=>rfl
 | y :: xs,u :: us,.cons r t,f=>by
  rw [List.all_cons,Bool.and_eq_true] at f
  rw [List.any_cons,List.any_cons,aiQ r f.1,Za t f.2]
theorem T9 {A:Around} {s:Shared} {x:V} {v:Value} (rx:RelV x v) (fx:Gq x = true):∀ {xs:List V} {us:List Value},Vals xs us → xs.all Gq = true → ∀ u ∈ us,SeqAt.EqAt A s u v (Wu x u)
 | _,_,.nil,_=>fun u hu=>by cases hu
 | y :: xs,u :: us,.cons r t,f=>fun u' hu=>by
  rw [List.all_cons,Bool.and_eq_true] at f
  rcases List.mem_cons.mp hu with rfl | hu
  ·rw [aiQ r f.1]; exact anC r rx f.1 fx
  ·exact T9 rx fx t f.2 u' hu
noncomputable def ZK (x:V) (xs:List V):Bool:=xs.any fun y=>ZT y x
noncomputable def rIn (K:W.Frag) (neg:Bool):R2:=fun x y H Q=>∃ p xs,y = .ref p ∧ (aM K H p xs ∨ j0 K H p xs) ∧ Gq x = true ∧ xs.all Gq = true ∧ Q (.bl (if neg then !ZK x xs else ZK x xs)) H
theorem OL:rQ X (compareOp .In) (rIn X.K false):=by
 intro pins s σ H x y v u Q I rx ry h
 obtain ⟨p,xs,rfl,hq,fx,fs,q⟩:=h
 cases ry
 rcases hq with hq | hq
 ·obtain ⟨aT,r,pl,hz⟩:=I.list hq
  refine SeqAt.in_listAt (Wu x) pl.isList (fun w hw=>T9 rx fx r fs w (by simpa using hw)) ⟨.bl _,H,I,rfl,?_⟩
  rw [show aT.toArray.any (Wu x) = aT.any (Wu x) by simp,Za r fs]
  exact q
 ·obtain ⟨aT,r,pl,hz⟩:=I.tuple hq
  refine SeqAt.in_tupleAt (Wu x) pl (fun w hw=>T9 rx fx r fs w (by simpa using hw)) ⟨.bl _,H,I,rfl,?_⟩
  rw [show aT.toArray.any (Wu x) = aT.any (Wu x) by simp,Za r fs]
  exact q
theorem bT:Dv X (.builtin "len") (fun xs H Q=>∃ p ys,xs = [.ref p] ∧ (aM X.K H p ys ∨ j0 X.K H p ys) ∧ Q (.int ys.length) H):=by
 intro pins s σ H xs us Q I r h
 obtain ⟨p,ys,rfl,hq,q⟩:=h
 obtain ⟨u,rfl,rx⟩:=vals1 r
 cases rx
 have hn:=O7
 rcases hq with hq | hq
 ·obtain ⟨aT,r',pl,hz⟩:=I.list hq
  have hlen:=r'.length
  exact Calls.call_len_list pl.isList (by simp only [List.size_toArray] <;> omega) ⟨.int ys.length,H,I.tok _,⟨s.toks + 1,by rw [List.size_toArray,hlen]⟩,q⟩
 ·obtain ⟨aT,r',pl,hz⟩:=I.tuple hq
  have hlen:=r'.length
  exact len_tuple pl (by simp only [List.size_toArray] <;> omega) ⟨.int ys.length,H,I.tok _,⟨s.toks + 1,by rw [List.size_toArray,hlen]⟩,q⟩
theorem aa7:Dv X (.type "tuple") (fun xs H Q=>∃ p ys,xs = [.ref p] ∧ ((aM X.K H p ys ∧ ∀ l,H l = none → Q (.ref l) (upd H l (.tup ys))) ∨ (j0 X.K H p ys ∧ Q (.ref p) H))):=by
 intro pins s σ H xs us Q I r h
 obtain ⟨p,ys,rfl,h⟩:=h
 obtain ⟨u,rfl,rx⟩:=vals1 r
 cases rx
 rcases h with ⟨hq,q⟩ | ⟨hq,q⟩
 ·obtain ⟨aT,r',pl,hz⟩:=I.list hq
  have hlen:=r'.length
  refine call_tuple_list pl.isList (fun h' kp=>?_) (by simp only [List.size_toArray] <;> omega)
  have I1:Inv X pins σ H { s with heap:=h' }:=I.kept (t':=s.toks) kp
  have I2:Inv X pins σ (upd H h'.objs.size (.tup ys)) { s with heap:=h'.push { cls:=.type "tuple",data:=.seq aT.toArray } } :=
   I1.laid (t':=s.toks) (fun b o e=>Heap.get?_push_of_some _ e) (Nat.le_refl _) (show gK X.prog X.w _ _ _ (.tup ys) from ⟨hz,aT,r',IsTup.new _ _⟩)
  exact ⟨.ref h'.objs.size,_,I2,rfl,q _ (I1.bJ.fresh (Nat.le_refl _))⟩
 ·obtain ⟨aT,r',pl,hz⟩:=I.tuple hq
  exact call_tuple_same pl ⟨.ref p,H,I,rfl,q⟩
noncomputable def tyV (K:W.Frag) (T:String) (x:V) (H:Hp):Prop:=match x with
 | .str _=>T = "str"
 | .int _=>T = "int"
 | .ref p=>(T = "list" ∧ ∃ xs,aM K H p xs) ∨ (T = "tuple" ∧ ∃ o,K.lookup p = some o ∧ o.cls = .type "tuple" ∧ o.dict = none) ∨
   (T = "dict" ∧ ((∃ kvs,H p = some (.dK kvs)) ∨ ∃ kvs,H p = some (.dT kvs))) ∨ (T = "set" ∧ ∃ S n,H p = some (.set S n))
 | _=>False
theorem amn {pins:List (Addr × Obj)} {σ:St} {H:Hp} {s:Shared} {T:String} {x:V} {v:Value} (I:Inv X pins σ H s) (r:RelV x v) (ty:tyV X.K T x H) :
  s.TypeIs v T ∧ ∀ a,v = .ref a → ∃ ob,s.heap.get? a = some ob ∧ ob.dict = none:=by
 cases x with
 | str z =>
  obtain ⟨t,rfl⟩:=r
  cases (show T = "str" from ty)
  exact ⟨typeIs_str s z t,fun _ e=>nomatch e⟩
 | int i =>
  obtain ⟨t,rfl⟩:=r
  cases (show T = "int" from ty)
  exact ⟨typeIs_int s i t,fun _ e=>nomatch e⟩
 | ref p =>
  cases r
  rcases ty with ⟨rfl,xs,hq⟩ | ⟨rfl,o,hk,hc,hd⟩ | ⟨rfl,hk⟩ | ⟨rfl,S,n,hk⟩
  ·obtain ⟨aT,_,pl,_⟩:=I.list hq
   refine ⟨pl.isList.typeIs,fun a e=>?_⟩
   cases e
   obtain ⟨o,n,e,c,hd,_⟩:=pl
   exact ⟨o,e,hd⟩
  ·refine ⟨⟨o,I.yE p o hk,hc⟩,fun a e=>?_⟩
   cases e
   exact ⟨o,I.yE _ o hk,hd⟩
  ·have z:∃ o,s.heap.get? p = some o ∧ o.ExactDict:=by
    rcases hk with ⟨kvs,hk⟩ | ⟨kvs,hk⟩
    ·obtain ⟨_,_,_,_,o,_,_,e,ex,_⟩:=I.bJ p _ hk
     exact ⟨o,e,ex⟩
    ·obtain ⟨_,_,_,_,o,_,_,e,ex,_⟩:=I.bJ p _ hk
     exact ⟨o,e,ex⟩
   obtain ⟨o,e,ex⟩:=z
   refine ⟨⟨o,e,ex.1⟩,fun a e2=>?_⟩
   cases e2
   exact ⟨o,e,ex.2.1⟩
  ·obtain ⟨o,_,_,_,e,ex,_⟩:=I.bJ p _ hk
   refine ⟨⟨o,e,ex.1⟩,fun a e2=>?_⟩
   cases e2
   exact ⟨o,e,ex.2.1⟩
 | _=>exact False.elim ty
noncomputable def tBM (K:W.Frag) (T:String) (r:V → List V → Hp → VK → Prop) (to:TE) (t:TA):TE:=fun σ H Q=>to σ H fun x H1=>tyV K T x H1 ∧ t σ H1 fun xs H2=>r x xs H2 Q
variable {o e:Expr} {es:List Expr} {to:TE} {t:TA} {name:Str} {apos uY:Pos} {T id:String} {r:V → List V → Hp → VK → Prop}
theorem iy (pa:PlainAttrs T) (slot:Slot T name id) (hty:typeOf (.builtin id) = pure (.type "method_descriptor")) (hm:MtR X id r) (ho:PE X o to) (ha:PA X (e :: es) t)
  (aoK:attributeBase o name X.env (eval o X.env) = eval o X.env:=by rfl)
  (apZ:((backTo uY (starEach (e :: es) X.env)).all (fun x=>!x.1) && (backToKw uY (keywordEach [] X.env)).all (fun x=>x.1.isSome)
   && decide ((e :: es).length + ([]:List Keyword).length + (if ([]:List Keyword).isEmpty then 0 else 1) < 30)) = true:=by rfl)
  (aoC:(apos.endLine == uY.line) = true:=by rfl) (hs:starEach (e :: es) X.env = (false,eval e X.env) :: starEach es X.env:=by rfl) (ano:(backTo uY (starEach es X.env)).any (·.1) = false:=by rfl) :
  PE X (.Call (.Attribute o name apos) (e :: es) [] uY) (tBM X.K T r to t):=by
 intro pins s σ H Q I h
 refine wpAny_Call_method_late aoK apZ aoC rfl (bR (ho pins s σ H _ I h) fun v s1 ⟨x,H1,I1,r1,ty,q1⟩=>?_)
 obtain ⟨h1,h2⟩:=amn I1 r1 ty
 refine ⟨T,id,pa,slot,hty,h1,h2,?_⟩
 have hA:=ha uY pins s1 σ H1 _ I1 q1
 rw [hs] at hA ⊢
 refine Calls.callWith_builtin (by show (false || (backTo uY (starEach es X.env)).any (·.1)) = false; rw [ano] <;> rfl) (Calls.evalArgs_plain ?_)
 exact bR hA fun us s2 ⟨vs,H2,I2,r2,q2⟩=>hm pins s2 σ H2 x vs v us Q I2 r1 r2 q2
end
end L2
namespace L2
open PySem PySem.Spec PyProof.Rows
noncomputable def MtM (X:Cx) (id:String) (r:V → List V → Hp → VK → Prop):Prop :=
 ∀ (pins:List (Addr × Obj)) (s:Shared) (σ:St) (H:Hp) (x:V) (xs:List V) (v:Value) (us:List Value) (Q:VK),Inv X pins σ H s → RelV x v → Vals xs us → r x xs H Q →
  wpAny (model X.prog X.w) X.A (call (.builtin id) (v :: us)) (EP X pins σ Q) X.xe s
theorem Vals.one:∀ {x:V} {us:List Value},Vals [x] us → ∃ u,us = [u] ∧ RelV x u
 | _,_,.cons r .nil=>⟨_,rfl,r⟩
theorem Vals.eraseIdx:∀ {xs:List V} {us:List Value} (i:Nat),Vals xs us → Vals (xs.eraseIdx i) (us.eraseIdx i)
 | _,_,_,.nil=>.nil
 | _,_,0,.cons _ t=>t
 | _,_,i + 1,.cons r t=>.cons r (Vals.eraseIdx i t)
theorem ZF {α:Type}:∀ (l:List α) (i:Nat),(l.eraseIdx i).length ≤ l.length
 | [],_=>Nat.le_refl _
 | _ :: _,0=>Nat.le_succ _
 | _ :: r,i + 1=>Nat.succ_le_succ (ZF r i)
section
variable {X:Cx} {pins:List (Addr × Obj)} {σ:St} {H:Hp} {s:Shared} {l b:Addr} {xs ys zs:List V}
theorem Inv.ahk {aT xj:List Value} {n:Nat} {f:Array Value → Array Value} {t':Nat} (I:Inv X pins σ H s) (hH:H l = some (.lst xs))
  (e:s.heap.get? l = some { cls:=.type "list",data:=.seq aT.toArray n }) (hf:f aT.toArray = xj.toArray) (hv:Vals ys xj) (hz:ys.length ≤ sizeLine) :
  Inv X pins σ (upd H l (.lst ys)) { s with heap:=s.heap.update l (Obj.mapSeq f),toks:=t' }:=by
 have q:=PySem.IsL.update e f
 rw [hf] at q
 refine I.write (x:=l) (e:=l) (by rw [hH]; exact trivial) (.inl rfl) (fun b' u hb hu=>(Heap.get?_update_other s.heap (Obj.mapSeq f) (Ne.symm hb)).trans hu) ⟨_,q⟩ ?_
 exact ⟨hz,xj,_,hv,q⟩
theorem Inv.apE {aT:List Value} {t':Nat} (I:Inv X pins σ H s) (hv:Vals ys aT) (hz:ys.length ≤ sizeLine) :
  Inv X pins σ (upd H s.heap.objs.size (.lst ys)) { s with heap:=s.heap.push { cls:=.type "list",data:=.seq aT.toArray },toks:=t' } :=
 I.laid (fun _ _ q=>Heap.get?_push_of_some _ q) (Nat.le_refl _) ⟨hz,aT,0,hv,Heap.get?_push_size _ rfl⟩
theorem Inv.fresh (I:Inv X pins σ H s):H s.heap.objs.size = none:=I.bJ.fresh (Nat.le_refl _)
theorem Inv.Ub (I:Inv X pins σ H s) (hH:H l = some (.lst xs)):xs.length ≤ sizeLine ∧ ∃ (aT:List Value) (n:Nat),Vals xs aT ∧ xs.length = aT.length ∧ s.heap.get? l = some { cls:=.type "list",data:=.seq aT.toArray n }:=by
 obtain ⟨z,aT,n,r,e⟩:=I.bJ l _ hH
 exact ⟨z,aT,n,r,r.length,e⟩
theorem adb {n:Nat} (h:n ≤ sizeLine):Builtin.List.listTooLong n = false:=by
 unfold Builtin.List.listTooLong
 exact decide_eq_false (by omega)
end
section
variable {X:Cx}
noncomputable def alm:V → List V → Hp → VK → Prop:=fun x vs H Q=>∃ l xs y,x = .ref l ∧ vs = [y] ∧ H l = some (.lst xs) ∧ xs.length < sizeLine ∧ Q .bL (upd H l (.lst (xs ++ [y])))
theorem kc:MtM X "list.append" alm:=by
 intro pins s σ H x vs v us Q I rx rv h
 obtain ⟨l,xs,y,rfl,rfl,hH,hz,q⟩:=h
 cases rx
 obtain ⟨u,rfl,ru⟩:=rv.one
 obtain ⟨z,aT,n,r,hl,e⟩:=I.Ub hH
 refine call_meets F.slot_list_append ⟨_,e,rfl⟩ F.entry_list_append (F.args_list_append_2 _ _) (PySem.list_append l aT.toArray n u (by rw [List.size_toArray]; omega)) ⟨e,?_⟩
 refine ⟨.bL,_,I.ahk (xj:=aT ++ [u]) hH e (by simp) (r.append (.cons ru .nil)) ?_,rfl,q⟩
 rw [List.length_append,List.length_singleton]
 omega
noncomputable def alk:V → List V → Hp → VK → Prop:=fun x vs H Q=>∃ l b xs zs,x = .ref l ∧ vs = [.ref b] ∧ H l = some (.lst xs) ∧ H b = some (.lst zs) ∧ xs.length + zs.length ≤ sizeLine ∧ Q .bL (upd H l (.lst (xs ++ zs)))
theorem lN:MtM X "list.extend" alk:=by
 intro pins s σ H x vs v us Q I rx rv h
 obtain ⟨l,b,xs,zs,rfl,rfl,hH,hB,hz,q⟩:=h
 cases rx
 obtain ⟨u,rfl,ru⟩:=rv.one
 cases ru
 obtain ⟨z,aT,n,r,hl,e⟩:=I.Ub hH
 obtain ⟨z2,B6,n2,r2,hl2,e2⟩:=I.Ub hB
 have hsz:aT.toArray.size + B6.toArray.size ≤ sizeLine:=by rw [List.size_toArray,List.size_toArray]; omega
 have abm:¬ (!aT.toArray.isEmpty && Builtin.List.listTooLong (aT.toArray.size + B6.toArray.size)) = true:=by
  rw [adb hsz,Bool.and_false]
  exact Bool.false_ne_true
 refine call_meets F.slot_list_extend ⟨_,e,rfl⟩ F.entry_list_extend (F.args_list_extend_2 _ _)
  (AutoSeq1.list_extend_list_list_0 l aT.toArray n b B6.toArray n2 abm (by rw [List.size_toArray]; omega) (by omega)) ⟨e,e2,?_⟩
 refine ⟨.bL,_,I.ahk (xj:=aT ++ B6) hH e (by simp) (r.append r2) ?_,rfl,q⟩
 rw [List.length_append]
 omega
noncomputable def amH:V → List V → Hp → VK → Prop:=fun x vs H Q=>∃ l xs i k y,x = .ref l ∧ vs = [.int i] ∧ H l = some (.lst xs) ∧ -(2 ^ 63) ≤ i ∧ i < 2 ^ 63 ∧ seqIndex? i xs.length = some k ∧ xs[k]? = some y ∧ Q y (upd H l (.lst (xs.eraseIdx k)))
theorem LB:MtM X "list.pop" amH:=by
 intro pins s σ H x vs v us Q I rx rv h
 obtain ⟨l,xs,i,k,y,rfl,rfl,hH,h1,h2,hk,hy,q⟩:=h
 cases rx
 obtain ⟨u,rfl,ru⟩:=rv.one
 obtain ⟨t,rfl⟩:=ru
 obtain ⟨z,aT,n,r,hl,e⟩:=I.Ub hH
 obtain ⟨w,hw,AK⟩:=r.get hy
 refine call_meets F.slot_list_pop ⟨_,e,rfl⟩ F.entry_list_pop (F.args_list_pop_2 _ _)
  (MeetsSeq.list_pop_at l aT.toArray n i t k w (fitsIndex_both h1 h2) (by rw [List.size_toArray,← hl]; exact hk) (by rw [← Array.getElem?_toList]; exact hw) (by rw [List.size_toArray]; omega)) ⟨e,?_⟩
 refine ⟨y,_,I.ahk (xj:=aT.eraseIdx k) hH e ?_ (r.eraseIdx k) ?_,AK,q⟩
 ·show aT.toArray.eraseIdxIfInBounds k = (aT.eraseIdx k).toArray
  rw [List.eraseIdxIfInBounds_toArray]
 ·have:=ZF xs k
  omega
noncomputable def apv:R2:=fun x y H Q=>∃ l b xs zs,x = .ref l ∧ y = .ref b ∧ H l = some (.lst xs) ∧ H b = some (.lst zs) ∧ xs.length + zs.length ≤ sizeLine ∧ ∀ p,H p = none → Q (.ref p) (upd H p (.lst (xs ++ zs)))
theorem amT:rQ X (binaryOp .Add) apv:=by
 intro pins s σ H x y v u Q I rx ry h
 obtain ⟨l,b,xs,zs,rfl,rfl,hH,hB,hz,q⟩:=h
 cases rx
 cases ry
 obtain ⟨z,aT,n,r,hl,e⟩:=I.Ub hH
 obtain ⟨z2,B6,n2,r2,hl2,e2⟩:=I.Ub hB
 refine PySem.P.add_list e e2 ?_ (by rw [List.size_toArray,List.size_toArray]; omega)
 have ea:aT.toArray ++ B6.toArray = (aT ++ B6).toArray:=by simp
 rw [ea]
 exact ⟨.ref _,_,I.apE (t':=s.toks) (r.append r2) (by rw [List.length_append]; omega),rfl,q _ I.fresh⟩
end
end L2
namespace L2
open PySem PySem.Spec PyProof.Rows
theorem Vals.ints:∀ {ns:List Int} {us:List Value},Vals (ns.map V.int) us → IntsAre us ns
 | [],us,h=>by
  rw [List.map_nil] at h
  cases h
  exact IntsAre.nil
 | n :: ns,us,h=>by
  rw [List.map_cons] at h
  cases h with
  | cons r t =>
   obtain ⟨k,rfl⟩:=r
   exact IntsAre.cons n k (Vals.ints t)
theorem NQ:∀ {us:List Value} {ns:List Int},IntsAre us ns → Vals (ns.map V.int) us
 | _,_,.nil=>by rw [List.map_nil]; exact Paired.nil
 | _,_,.cons n t h=>by rw [List.map_cons]; exact Paired.cons (show RelV (V.int n) (Value.int n t) from ⟨t,rfl⟩) (NQ h)
theorem Vals.apt {a:Addr} {us:List Value} (r:Vals [V.ref a] us):us = [Value.ref a]:=by
 cases r with
 | cons r t =>
  cases t
  cases r
  rfl
end L2
namespace L2
open PySem PySem.Spec PyProof.Rows
noncomputable abbrev ai6 (h:Heap) (c:Addr) (v:Option Value):Prop:=h.IsCell c v
noncomputable def aps (scope sc:Scope):Scope :=
 { scope with names:=scope.names.map fun (n,k)=>if (k == .free && sc.kind == .function && sc.names.lookup n == some .cell) then (n,.cell) else (n,k) }
noncomputable def fN (cells:List (Str × Addr)):List (Str × NameKind) → List (Str × Addr) → List (Str × Addr)
 | [],acc=>acc
 | (n,k) :: r,acc=>if k == .free then fN cells r ((n,(cells.lookup n).getD 0) :: acc) else fN cells r acc
theorem QU (env:Env) (f:Str × NameKind → List (Str × Addr) → Sem (ForInStep (List (Str × Addr))))
  (hf:∀ n k c,f (n,k) c = if k == .free then (do let a ← cellOf env n; pure (.yield ((n,a) :: c))) else pure (.yield c)) :
  ∀ (names:List (Str × NameKind)) (acc:List (Str × Addr)),(∀ y ∈ names,y.2 = .free → ∃ c,env.cells.lookup y.1 = some c) → forIn names acc f = pure (fN env.cells names acc)
 | [],acc,_=>by rw [List.forIn_nil]; rfl
 | (n,k) :: r,acc,h=>by
  rw [List.forIn_cons,hf]
  have ih:=fun acc=>QU env f hf r acc fun y hy=>h y (List.mem_cons_of_mem _ hy)
  unfold fN
  by_cases hk:(k == NameKind.free) = true
  ·rw [if_pos hk,if_pos hk]
   obtain ⟨c,hc⟩:=h (n,k) List.mem_cons_self (by simpa using hk)
   have e:cellOf env n = pure c:=by unfold cellOf; rw [hc]
   rw [e]
   have e2:(env.cells.lookup n).getD 0 = c:=by rw [hc]; rfl
   rw [e2]
   exact ih _
  ·rw [if_neg hk,if_neg hk]
   exact ih _
theorem ahK {scope:Scope} {env:Env} (h:∀ y ∈ scope.names,y.2 = .free → ∃ c,env.cells.lookup y.1 = some c):closureFor scope env = pure (fN env.cells scope.names []):=by
 simp only [closureFor]
 rw [QU env _ (fun n k c=>rfl) scope.names [] h]
 rfl
theorem mem_lookup {α:Type}:∀ {l:List (Str × α)} {n:Str} {c:α},(n,c) ∈ l → ∃ c',l.lookup n = some c'
 | (k,v) :: r,n,c,h=>by
  rw [List.lookup_cons]
  cases hb:n == k with
  | true=>exact ⟨_,rfl⟩
  | false =>
   rcases List.mem_cons.mp h with e | h
   ·cases e; simp at hb
   ·exact mem_lookup h
theorem Av {cells:List (Str × Addr)}:∀ {names:List (Str × NameKind)} {acc:List (Str × Addr)} {n:Str} {c:Addr},(n,c) ∈ fN cells names acc → (n,c) ∈ acc ∨ ((n,.free) ∈ names ∧ c = (cells.lookup n).getD 0)
 | [],_,_,_,h=>.inl h
 | (m,k) :: r,acc,n,c,h=>by
  unfold fN at h
  split at h
  ·rename_i hk
   have hk:k = .free:=by simpa using hk
   rcases Av h with h | ⟨h1,h2⟩
   ·rcases List.mem_cons.mp h with e | h
    ·cases e; exact .inr ⟨hk ▸ List.mem_cons_self,rfl⟩
    ·exact .inl h
   ·exact .inr ⟨List.mem_cons_of_mem _ h1,h2⟩
  ·rcases Av h with h | ⟨h1,h2⟩
   ·exact .inl h
   ·exact .inr ⟨List.mem_cons_of_mem _ h1,h2⟩
theorem Ip {cells:List (Str × Addr)}:∀ {names:List (Str × NameKind)} {acc:List (Str × Addr)} {p:Str × Addr},p ∈ acc → p ∈ fN cells names acc
 | [],_,_,h=>h
 | (m,k) :: r,acc,p,h=>by
  unfold fN
  split
  ·exact Ip (List.mem_cons_of_mem _ h)
  ·exact Ip h
theorem Io {cells:List (Str × Addr)}:∀ {names:List (Str × NameKind)} {acc:List (Str × Addr)} {n:Str},(n,.free) ∈ names → (n,(cells.lookup n).getD 0) ∈ fN cells names acc
 | (m,k) :: r,acc,n,h=>by
  unfold fN
  rcases List.mem_cons.mp h with e | h
  ·cases e
   exact Ip List.mem_cons_self
  ·split
   ·exact Io h
   ·exact Io h
theorem Bm:∀ {names:List (Str × NameKind)} {h:Heap} {acc:List (Str × Addr)} {x:Str} {c:Addr},(x,c) ∈ cellsFrom h.objs.size names acc →
  (x,c) ∈ acc ∨ ((x,.cell) ∈ names ∧ h.objs.size ≤ c ∧ ai6 (pushCells h names) c none)
 | [],_,_,_,_,h=>.inl h
 | (n,k) :: r,h,acc,x,c,hm=>by
  unfold cellsFrom at hm
  unfold pushCells
  split at hm
  ·rename_i hk
   rw [if_pos hk]
   have hk:k = .cell:=by simpa using hk
   rw [← Heap.size_push h { cls:=.type "cell",data:=.cell none }] at hm
   rcases Bm hm with hm | ⟨h1,h2,h3⟩
   ·rcases List.mem_cons.mp hm with e | hm
    ·cases e
     exact .inr ⟨hk ▸ List.mem_cons_self,Nat.le_refl _,_,pushCells_keeps r _ _ _ (Heap.get?_push_size _ rfl),rfl⟩
    ·exact .inl hm
   ·rw [Heap.size_push] at h2
    exact .inr ⟨List.mem_cons_of_mem _ h1,Nat.le_of_succ_le h2,h3⟩
  ·rename_i hk
   rw [if_neg hk]
   rcases Bm hm with hm | ⟨h1,h2,h3⟩
   ·exact .inl hm
   ·exact .inr ⟨List.mem_cons_of_mem _ h1,h2,h3⟩
theorem GL:∀ {names:List (Str × NameKind)} {n:Nat} {acc:List (Str × Addr)} {p:Str × Addr},p ∈ acc → p ∈ cellsFrom n names acc
 | [],_,_,_,h=>h
 | (m,k) :: r,n,acc,p,h=>by
  unfold cellsFrom
  split
  ·exact GL (List.mem_cons_of_mem _ h)
  ·exact GL h
theorem QX:∀ {names:List (Str × NameKind)} {n:Nat} {acc:List (Str × Addr)} {x:Str},(x,.cell) ∈ names → ∃ c,(x,c) ∈ cellsFrom n names acc
 | (m,k) :: r,n,acc,x,h=>by
  unfold cellsFrom
  rcases List.mem_cons.mp h with e | h
  ·cases e
   exact ⟨n,GL List.mem_cons_self⟩
  ·split
   ·exact QX h
   ·exact QX h
theorem QW:∀ {names:List (Str × NameKind)} {h:Heap} {acc:List (Str × Addr)} {x y:Str} {c:Addr},(∀ p ∈ acc,p.2 < h.objs.size) → (∀ x y c,(x,c) ∈ acc → (y,c) ∈ acc → x = y) →
  (x,c) ∈ cellsFrom h.objs.size names acc → (y,c) ∈ cellsFrom h.objs.size names acc → x = y
 | [],_,_,_,_,_,_,hi,h1,h2=>hi _ _ _ h1 h2
 | (n,k) :: r,h,acc,x,y,c,hl,hi,h1,h2=>by
  unfold cellsFrom at h1 h2
  split at h1
  ·rename_i hk
   rw [if_pos hk] at h2
   rw [← Heap.size_push h { cls:=.type "cell",data:=.cell none }] at h1 h2
   refine QW (h:=h.push _) (fun p hp=>?_) (fun x y c a b=>?_) h1 h2
   ·rw [Heap.size_push]
    rcases List.mem_cons.mp hp with rfl | hp
    ·exact Nat.lt_succ_self _
    ·exact Nat.lt_succ_of_lt (hl p hp)
   ·rcases List.mem_cons.mp a with e | a <;> rcases List.mem_cons.mp b with e' | b
    ·cases e; cases e'; rfl
    ·cases e; exact absurd (hl _ b) (Nat.lt_irrefl _)
    ·cases e'; exact absurd (hl _ a) (Nat.lt_irrefl _)
    ·exact hi _ _ _ a b
  ·rename_i hk
   rw [if_neg hk] at h2
   exact QW hl hi h1 h2
theorem ae4 {M:Model} {A:Around} {E:Value → Shared → Prop} {s:Shared} {scope:Scope} {globals:Addr} {closure:List (Str × Addr)} {qual:Str} {func:Option Addr} {code:Value} {around:Env} {builtins:Addr} {Q:Env → Shared → Prop}
  (h:Q (newEnv scope s.heap.objs.size globals (cellsFrom (s.heap.objs.size + 1) scope.names closure) qual func code (some around) builtins)
   { s with heap:=pushCells (s.heap.push { cls:=.type "dict",data:=.dict #[] }) scope.names }) :
  wpAny M A (newFunctionEnv scope globals closure [] qual func code (some around) builtins) Q E s:=by
 simp only [newFunctionEnv,Option.isSome_some,if_true]
 refine wpAny_bind (wpAny_alloc ?_)
 refine wpAny_bind (wpAny_layCells _ (fun n k c=>rfl) scope.names closure _ _ ?_)
 rw [show ({ s with heap:=s.heap.push { cls:=.type "dict",data:=.dict #[] } }:Shared).heap.objs.size = s.heap.objs.size + 1 from Heap.size_push ..]
 rw [List.forIn_nil]
 exact wpAny_bind (wpAny_pure (wpAny_pure h))
theorem HH {sc:Scope}:∀ {names:List (Str × NameKind)} {x:Str} {k:NameKind},
  (names.map fun (n,k)=>if (k == NameKind.free && sc.kind == .function && sc.names.lookup n == some .cell) then (n,NameKind.cell) else (n,k)).lookup x = some k →
  ∃ k',names.lookup x = some k' ∧ (k = k' ∨ (k' = .free ∧ k = .cell))
 | [],_,_,h=>by simp at h
 | (n,k₀) :: r,x,k,h=>by
  have ih:=@HH sc r x k
  have h':List.lookup x ((if (k₀ == NameKind.free && sc.kind == .function && sc.names.lookup n == some .cell) = true then (n,NameKind.cell) else (n,k₀)) :: (r.map _)) = some k:=h
  cases hx:x == n with
  | true =>
   simp only [List.lookup_cons,hx]
   by_cases hc:(k₀ == NameKind.free && sc.kind == .function && sc.names.lookup n == some .cell) = true
   ·rw [if_pos hc] at h'
    simp only [List.lookup_cons,hx] at h'
    cases h'
    simp only [Bool.and_eq_true,beq_iff_eq] at hc
    exact ⟨k₀,rfl,.inr ⟨hc.1.1,rfl⟩⟩
   ·rw [if_neg hc] at h'
    simp only [List.lookup_cons,hx] at h'
    cases h'
    exact ⟨_,rfl,.inl rfl⟩
  | false =>
   simp only [List.lookup_cons,hx]
   by_cases hc:(k₀ == NameKind.free && sc.kind == .function && sc.names.lookup n == some .cell) = true
   ·rw [if_pos hc] at h'
    simp only [List.lookup_cons,hx] at h'
    exact ih h'
   ·rw [if_neg hc] at h'
    simp only [List.lookup_cons,hx] at h'
    exact ih h'
structure abr (N:List Str) (sc scope:Scope) (own:List (Str × Nat)):Prop where
 kind:scope.kind = .function
 uniq:∀ y ∈ scope.names,scope.names.lookup y.1 = some y.2
 ix:∀ p ∈ own,N[p.2]? = some p.1
 free:∀ y ∈ scope.names,y.2 = .free → sc.names.lookup y.1 = some .cell ∨ sc.names.lookup y.1 = some .free
 own:∀ y ∈ scope.names,y.2 = .local ∨ y.2 = .cell → y.1 ∈ own.map (·.1) ∨ y.1 ∉ N
noncomputable def wipe (σ:St):List Nat → St
 | []=>σ
 | v :: vs=>(wipe σ vs).set v none
theorem G3 (σ:St):∀ vs:List Nat,(wipe σ vs).length = σ.length
 | []=>rfl
 | v :: vs=>by unfold wipe; rw [List.length_set,G3 σ vs]
theorem NP {σ:St} {i:Nat} {x:V}:∀ {vs:List Nat},(wipe σ vs)[i]? = some (some x) → σ[i]? = some (some x) ∧ i ∉ vs
 | [],h=>⟨h,by simp⟩
 | v :: vs,h=>by
  unfold wipe at h
  by_cases hi:v = i
  ·subst hi
   by_cases hv:v < (wipe σ vs).length
   ·rw [List.getElem?_set_self hv] at h; cases h
   ·rw [List.getElem?_eq_none (by simpa using hv)] at h; cases h
  ·rw [List.getElem?_set_ne hi] at h
   obtain ⟨h1,h2⟩:=NP h
   exact ⟨h1,by simp only [List.mem_cons,not_or]; exact ⟨fun e=>hi e.symm,h2⟩⟩
noncomputable abbrev Cx.Bp (X:Cx) (s:Shared) (H:Hp) (scope:Scope) (iA:Env) (fp:List Addr):Cx:={ X with vz:=s,H_0:=H,env:=iA,outer:=X.stack,ex:=fp,fn:=fun x=>scope.names.lookup x == some .cell,pn:=[],xe:=fun _ _=>False }
section
variable {X:Cx} {pins:List (Addr × Obj)} {σ:St} {H:Hp} {s:Shared}
theorem afd {scope:Scope} {own:List (Str × Nat)} {fp:List Addr} (I:Inv X pins σ H s) (ok:abr X.N X.env.scope scope own) (hN:X.N.Nodup) (hfp:∀ b ∈ fp,FH X pins H b ∧ b < s.heap.objs.size) :
  Inv (X.Bp s H scope (compEnvC scope (cellsFrom (s.heap.objs.size + 1) scope.names (fN X.env.cells scope.names [])) s.heap.objs.size X.env) fp) [] (wipe σ (own.map (·.2))) H { s with heap:=pushCells (s.heap.push { cls:=.type "dict",data:=.dict #[] }) scope.names }:=by
 have RC:∀ y ∈ scope.names,y.2 = .free → ∃ c,X.env.cells.lookup y.1 = some c:=fun y hy e=>by
  rcases ok.free y hy e with k | k
  ·exact I.ok.has _ (.inl k)
  ·exact I.ok.has _ (.inr k)
 generalize Wn:compEnvC scope (cellsFrom (s.heap.objs.size + 1) scope.names (fN X.env.cells scope.names [])) s.heap.objs.size X.env = iA
 have kp:∀ b o,s.heap.get? b = some o → (pushCells (s.heap.push { cls:=.type "dict",data:=.dict #[] }) scope.names).get? b = some o:=fun b o e=>pushCells_keeps _ _ _ _ (Heap.get?_push_of_some _ e)
 have hL:iA.locals = s.heap.objs.size:=by rw [← Wn]; rfl
 have Wm:iA.cells = cellsFrom (s.heap.objs.size + 1) scope.names (fN X.env.cells scope.names []):=by rw [← Wn]; rfl
 have hsc:iA.scope = aps scope X.env.scope:=by rw [← Wn]; rfl
 rw [← Heap.size_push s.heap { cls:=.type "dict",data:=.dict #[] }] at Wm
 have cm:∀ {y c},(y,c) ∈ fN X.env.cells scope.names [] → X.env.cells.lookup y = some c ∧ c < s.heap.objs.size:=fun {y c} hm=>by
  rcases Av hm with hm | ⟨h1,rfl⟩
  ·cases hm
  ·obtain ⟨c,hc⟩:=RC _ h1 rfl
   rw [hc]
   obtain ⟨w,z⟩:=I.cell _ _ hc
   exact ⟨rfl,z.lt⟩
 have mem:∀ {y c},iA.cells.lookup y = some c → (X.env.cells.lookup y = some c ∧ c < s.heap.objs.size) ∨ (s.heap.objs.size + 1 ≤ c ∧ ai6 (pushCells (s.heap.push { cls:=.type "dict",data:=.dict #[] }) scope.names) c none):=fun {y c} e=>by
  rw [Wm] at e
  rcases Bm (PySem.mem_of_lookup e) with hm | ⟨_,h2,h3⟩
  ·exact .inl (cm hm)
  ·rw [Heap.size_push] at h2; exact .inr ⟨h2,h3⟩
 have look:∀ {y},scope.names.lookup y = some .free → ∃ c,iA.cells.lookup y = some c ∧ X.env.cells.lookup y = some c:=fun {y} hl=>by
  have hy:(y,NameKind.free) ∈ scope.names:=PySem.mem_of_lookup hl
  obtain ⟨c',e'⟩:=mem_lookup (GL (names:=scope.names) (n:=(s.heap.push { cls:=.type "dict",data:=.dict #[] }).objs.size) (Io (cells:=X.env.cells) (acc:=[]) hy))
  rw [← Wm] at e'
  refine ⟨c',e',?_⟩
  rw [Wm] at e'
  rcases Bm (PySem.mem_of_lookup e') with hm | ⟨h1,_,_⟩
  ·exact (cm hm).1
  ·have:=ok.uniq _ h1
   rw [hl] at this; cases this
 have okB:(X.Bp s H scope iA fp).Ok:=by
  refine ⟨I.ok.mod,by show iA.scope.kind = _; rw [hsc]; exact ok.kind,by show iA.globals = _; rw [← Wn]; exact I.ok.glob,by show iA.builtins = _; rw [← Wn]; exact I.ok.blt,by show s.heap.objs.size ≤ iA.locals; rw [hL]; exact Nat.le_refl _,
   fun y z c e1 e2=>?_,fun y hy=>?_,fun y c z e=>?_,I.ok.hd,I.ok.frames,.inl rfl,fun b hb=>⟨?_,fun y c e z=>?_⟩,I.bs,Nat.le_trans I.ok.WQ I.sz,fun b o e hb=>?_,fun b hb z=>?_,I.stack,I.afs⟩
  ·have e1:iA.cells.lookup y = some c:=e1
   have e2:iA.cells.lookup z = some c:=e2
   rw [Wm] at e1 e2
   refine QW (fun p hp=>?_) (fun y z c a b=>I.ok.inj y z c (cm a).1 (cm b).1) (PySem.mem_of_lookup e1) (PySem.mem_of_lookup e2)
   rw [Heap.size_push]
   exact Nat.lt_succ_of_lt (cm (y:=p.1) (c:=p.2) hp).2
  ·show ∃ c,iA.cells.lookup y = some c
   have key:∀ k,iA.kindOf y = some k → (k = .cell ∨ k = .free) → ∃ c,iA.cells.lookup y = some c:=fun k hk hk'=>by
    unfold Env.kindOf at hk
    rw [hsc] at hk
    obtain ⟨k',e,r⟩:=HH hk
    have:k' = .cell ∨ k' = .free:=by
     rcases r with rfl | ⟨rfl,_⟩
     ·exact hk'
     ·exact .inr rfl
    rcases this with rfl | rfl
    ·obtain ⟨c,hm⟩:=QX (n:=(s.heap.push { cls:=.type "dict",data:=.dict #[] }).objs.size) (acc:=fN X.env.cells scope.names []) (PySem.mem_of_lookup e)
     obtain ⟨c',e'⟩:=mem_lookup hm
     exact ⟨c',by rw [Wm]; exact e'⟩
    ·obtain ⟨c,h1,_⟩:=look e
     exact ⟨c,h1⟩
   rcases hy with hy | hy
   ·exact key _ hy (.inl rfl)
   ·exact key _ hy (.inr rfl)
  ·have z:(scope.names.lookup y == some NameKind.cell) = true:=z
   have z:scope.names.lookup y = some .cell:=by simpa using z
   have e:iA.cells.lookup y = some c:=e
   rw [Wm] at e
   rcases Bm (PySem.mem_of_lookup e) with hm | ⟨_,h2,_⟩
   ·rcases Av hm with hm | ⟨h1,_⟩
    ·cases hm
    ·have q:=ok.uniq _ h1
     rw [z] at q; cases q
   ·rw [Heap.size_push] at h2
    exact Nat.le_of_succ_le h2
  ·show b ≠ iA.locals
   rw [hL]; exact Nat.ne_of_lt (hfp b hb).2
  ·have e:iA.cells.lookup y = some c:=e
   rcases mem e with ⟨h1,_⟩ | ⟨h1,_⟩
   ·exact (hfp b hb).1.2.2.2.2.1 y c h1 z
   ·have h2:s.heap.objs.size + 1 ≤ b:=by rw [← z]; exact h1
    exact absurd (Nat.lt_of_lt_of_le (hfp b hb).2 (Nat.le_of_succ_le h2)) (Nat.lt_irrefl _)
  ·rcases (hfp b hb).1.2.2.2.1 with z | z
   ·exact I.ok.ade b o e z
   ·exact absurd (Nat.lt_of_lt_of_le (Heap.lt_size e) (Nat.le_trans I.ok.WQ z)) (Nat.lt_irrefl _)
  ·rcases List.mem_cons.mp (I.ab2 b z) with z | z
   ·exact (hfp b hb).1.2.1 z
   ·exact (hfp b hb).1.2.2.1 z
 refine ⟨okB,rfl,I.bare,Un.kept kp,⟨fun _=>none,?_,fun i y av e1 e2 e3=>?_⟩,fun y c e=>?_,?_,fun y c e=>?_,fun p hp=>?_,I.bJ.kept kp,by rw [G3]; exact I.len⟩
 ·show Heap.Ns _ iA.locals _
  rw [hL]
  exact Heap.Ns.keeps (Heap.Ns.new ..) fun b o e=>pushCells_keeps _ _ _ _ e
 ·obtain ⟨e2,Gn⟩:=NP e2
  have hfr:scope.names.lookup y = some .free ∧ (iA.kindOf y = some .cell ∨ iA.kindOf y = some .free):=by
   have key:∀ k,iA.scope.names.lookup y = some k → k = .local ∨ k = .cell ∨ k = .free → scope.names.lookup y = some .free ∧ (iA.kindOf y = some .cell ∨ iA.kindOf y = some .free):=fun k hk hk'=>by
    have hk0:=hk
    rw [hsc] at hk
    obtain ⟨k',e,r⟩:=HH hk
    have no:¬ (k' = .local ∨ k' = .cell):=fun hh=>by
     rcases ok.own _ (PySem.mem_of_lookup e) hh with e' | e'
     ·obtain ⟨p,hp,hpy⟩:=List.mem_map.mp e'
      have e3:=ok.ix p hp
      have:p.1 = y:=hpy
      rw [this] at e3
      exact Gn (List.mem_map.mpr ⟨p,hp,T7 hN e3 e1⟩)
     ·exact e' (List.mem_of_getElem? e1)
    rcases r with rfl | ⟨rfl,rfl⟩
    ·rcases hk' with rfl | rfl | rfl
     ·exact absurd (.inl rfl) no
     ·exact absurd (.inr rfl) no
     ·exact ⟨e,.inr hk0⟩
    ·exact ⟨e,.inl hk0⟩
   have e3:Vis iA.scope y:=e3
   rcases e3 with e3 | e3 | e3
   ·exact key _ e3 (.inl rfl)
   ·exact key _ e3 (.inr (.inl rfl))
   ·exact key _ e3 (.inr (.inr rfl))
  obtain ⟨m,hn,hl⟩:=I.loc
  have apL:Vis X.env.scope y:=(ok.free _ (PySem.mem_of_lookup hfr.1) rfl).elim (fun k=>.inr (.inl k)) (fun k=>.inr (.inr k))
  obtain ⟨w,r,q⟩:=hl i y av e1 e2 apL
  refine ⟨w,r,.inr ⟨hfr.2,?_⟩⟩
  obtain ⟨c,h1,h2⟩:=look hfr.1
  rcases q with ⟨k,_⟩ | ⟨_,c',e',z⟩
  ·have k:X.env.scope.names.lookup y = some .local:=k
   rcases ok.free _ (PySem.mem_of_lookup hfr.1) rfl with k' | k' <;> rw [show X.env.scope.names.lookup y = _ from k'] at k <;> cases k
  ·rw [h2] at e'; cases e'
   exact ⟨c,h1,z.keeps kp⟩
 ·have e:iA.cells.lookup y = some c:=e
  rcases mem e with ⟨h1,_⟩ | ⟨_,z⟩
  ·obtain ⟨w,z⟩:=I.cell y c h1
   exact ⟨w,z.keeps kp⟩
  ·exact ⟨_,z⟩
 ·show H iA.locals = none
  rw [hL]; exact I.bJ.fresh (Nat.le_refl _)
 ·have e:iA.cells.lookup y = some c:=e
  rcases mem e with ⟨h1,_⟩ | ⟨h1,_⟩
  ·exact I.xB y c h1
  ·exact I.bJ.fresh (Nat.le_of_succ_le h1)
 ·exact absurd (show p ∈ ([]:List (Addr × Obj)) ++ [] from hp) (by simp)
theorem anZ {E:Value → Shared → Prop} {D:Addr} {xs:List V} {y:V} {v:Value} {Q:Value → Shared → Prop} (I:Inv X pins σ H s) (hD:H D = some (.lst xs)) (hz:xs.length < sizeLine) (r:RelV y v)
  (h:∀ s',Inv X pins σ (upd H D (.lst (xs ++ [y]))) s' → Q .none s'):wpAny (model X.prog X.w) X.A (call (.builtin "list.append") [.ref D,v]) Q E s:=by
 obtain ⟨hz',aT,n,ri,e⟩:=I.bJ D _ hD
 have hl:=ri.length
 refine append_at (hsz:=by rw [List.size_toArray]; omega) e fun h' sb Gm=>?_
 refine h { s with heap:=h' } (I.write (t':=s.toks) (by rw [hD]; trivial) (.inl rfl) (fun b u hb q=>(sb.2 b hb).trans q) ⟨_,Gm⟩ ⟨by rw [List.length_append]; exact hz,aT ++ [v],n + 1,ri.append (.cons r .nil),?_⟩)
 rw [Gm]
 simp
noncomputable def PTs (X:Cx) (ifs:List Expr) (t:TT):Prop :=
 ∀ (pins:List (Addr × Obj)) (s:Shared) (σ:St) (H:Hp) (Q:Bool → Hp → Prop),Inv X pins σ H s → t σ H Q →
  wpAny (model X.prog X.w) X.A (forIn ifs true fun c r=>if r = true then do let ok ← isTrue c X.env (eval c X.env); pure (ForInStep.yield ok) else pure (ForInStep.yield r)) (TP X pins σ Q) X.xe s
noncomputable def apf:TT:=fun _ H Q=>Q true H
theorem Jf:PTs X [] apf:=fun _ _ _ H _ I h=>wpAny_tests_nil ⟨H,I,h⟩
theorem alo {c:Expr} {t:TT} (h:PT X c t):PTs X [c] t:=fun pins s σ H Q I hw=>wpAny_tests_one (h pins s σ H Q I hw)
end
theorem Xi {α:Type} {t:Sem α} {Q Q':α → Shared → Prop} {M:Model} {A:Around} {E:Value → Shared → Prop} {s:Shared} (h:wpAny M A t Q (fun _ _=>False) s) (hQ:∀ a s,Q a s → Q' a s):wpAny M A t Q' E s:=wpAny_mono h hQ fun _ _ z=>False.elim z
theorem aei {prog:Program} {w:World} {A:Around} {R:Result → Shared → Prop} {s:Shared} {elt target iter:Expr} {ifs:List Expr} {scope:Scope} {pos:Pos} {it acc:Value} {env:Env} (I:Nat → Shared → Prop)
  (turn:∀ n s,I n s → wpAny (model prog w) A (pyNext it) (fun r s₁=>match r with
   | none=>R (.ok .next) s₁
   | some v=>wpAny (model prog w) A (letOwnedTupleGo target it v) (fun _ s₁'=>wpAny (model prog w) A (assign target env v) (fun _ s₂ =>
     wpAny (model prog w) A (forIn ifs true fun c r=>if r = true then do let ok ← isTrue c env (eval c env); pure (ForInStep.yield ok) else pure (ForInStep.yield r)) (fun ok s₃ =>
      if ok = true then wpAny (model prog w) A (eval elt env) (fun x s₄ =>
       wpAny (model prog w) A (call (.builtin "list.append") [acc,x]) (fun _ s₅=>∃ m,m < n ∧ I m s₅) (notedBy (model prog w) A env fun e s'=>R (.error e) s') s₄) (notedBy (model prog w) A env fun e s'=>R (.error e) s') s₃
      else ∃ m,m < n ∧ I m s₃) (notedBy (model prog w) A env fun e s'=>R (.error e) s') s₂) (notedBy (model prog w) A env fun e s'=>R (.error e) s') s₁') (notedBy (model prog w) A env fun e s'=>R (.error e) s') s₁) (notedBy (model prog w) A env fun e s'=>R (.error e) s') s)
  (n:Nat) (h:I n s) :
  codeAny (model prog w) A (.compLoop (.ListComp elt [⟨target,iter,ifs,0⟩] scope pos) 0 it acc env) R s:=by
 refine codeAny_loop rfl I (fun n s hI=>?_) n h
 show wpAny _ A ((compTurn (.ListComp elt [⟨target,iter,ifs,0⟩] scope pos) 0 it acc env).onRaise (fun x=>do noteFrame x env; theTreesLotGoes x)) _ _ s
 refine wpAny_noted ?_
 rw [compTurn_list]
 refine wpAny_bind (wpAny_standAt (wpAny_bind (wpAny_mono (turn n s hI) (fun r s₁ h₁=>?_) fun _ _ h'=>h')))
 cases r with
 | none=>exact wpAny_pure h₁
 | some v =>
  refine wpAny_bind (wpAny_mono h₁ (fun _ s₁' h₁'=>?_) fun _ _ h'=>h')
  refine wpAny_bind (wpAny_mono h₁' (fun _ s₂ h₂=>wpAny_bind (wpAny_mono h₂ (fun ok s₃ h₃=>?_) fun _ _ h'=>h')) fun _ _ h'=>h')
  cases ok with
  | false=>exact wpAny_pure ⟨rfl,h₃⟩
  | true =>
   exact wpAny_bind (wpAny_bind (wpAny_mono h₃ (fun x s₄ h₄=>wpAny_bind (wpAny_mono h₄ (fun _ s₅ h₅=>wpAny_pure (wpAny_pure ⟨rfl,h₅⟩)) fun _ _ h'=>h')) fun _ _ h'=>h'))
section
variable {X:Cx}
noncomputable def tLc (wi:TI) (g:TG) (tt:TT) (te:TE) (vs:List Nat):TE:=fun σ H Q=>wi σ H fun J H1=>∀ D,H1 D = none → ∃ W:Nat → Nat → Hp → Prop,(∃ m,W 0 m (upd H1 D (.lst []))) ∧ ∀ i m H,W i m H →
 (J.stop i H ∧ Q (.ref D) H) ∨ (J.go i H ∧ ∃ Nx:Hp → Prop,(∀ H',Nx H' → ∃ m',m' < m ∧ W (i + 1) m' H') ∧ ∀ x H',J.U3 i H x H' → g x (wipe σ vs) H' fun σ2 H2=>wipe σ2 vs = wipe σ vs ∧ tt σ2 H2 fun b H3 =>
  if b = true then te σ2 H3 fun y H4=>∃ acc,H4 D = some (.lst acc) ∧ acc.length < sizeLine ∧ Nx (upd H4 D (.lst (acc ++ [y]))) else Nx H3)
theorem alU {pins:List (Addr × Obj)} {s:Shared} {σ:St} {H:Hp} {Q:VK} {elt tg iter:Expr} {ifs:List Expr} {scope:Scope} {own:List (Str × Nat)} {pos pos':Pos} {wi:TI} {g:TG} {tt:TT} {te:TE} {use:Option (Value → Sem Unit)} {Qf:Value → Shared → Prop}
  (hc:X.calm = true) (hN:X.N.Nodup) (I:Inv X pins σ H s) (hi:PI X tg iter wi) (ok:abr X.N X.env.scope scope own)
  (hg:∀ (s:Shared) (H:Hp) (C:Addr) (cl:List (Str × Addr)) (fp:List Addr),PG (X.Bp s H scope (compEnvC scope cl C X.env) fp) tg g) (ht:∀ (s:Shared) (H:Hp) (C:Addr) (cl:List (Str × Addr)) (fp:List Addr),PTs (X.Bp s H scope (compEnvC scope cl C X.env) fp) ifs tt)
  (he:∀ (s:Shared) (H:Hp) (C:Addr) (cl:List (Str × Addr)) (fp:List Addr),PE (X.Bp s H scope (compEnvC scope cl C X.env) fp) elt te) (hs:∀ x,foldedSetIterable iter X.env x = pure x)
  (h:tLc wi g tt te (own.map (·.2)) σ H Q)
  (hRR:∀ D C s' m H',Inv X pins σ H' s' → Q (.ref D) H' → s'.heap.Ns C m → FH X pins H' C → compPost (model X.prog X.w) X.A X.xe use Qf (.ref D) C (.ok .next) s') :
  wpAny (model X.prog X.w) X.A (comprehension (.ListComp elt [⟨tg,iter,ifs,0⟩] scope pos) scope X.env pos' (newList []) false (eval iter X.env) use) Qf X.xe s:=by
 have RC:∀ y ∈ scope.names,y.2 = .free → ∃ c,X.env.cells.lookup y.1 = some c:=fun y hy e=>by
  rcases ok.free y hy e with k | k
  ·exact I.ok.has _ (.inl k)
  ·exact I.ok.has _ (.inr k)
 refine wpAny_comprehension_free (use:=use) rfl hs (ahK RC) ok.kind (fun y hy e=>by rw [ok.uniq y hy,e])
  (bR (hi pins s σ H _ I h) fun xv s1 hx=>bR hx fun itv s2 h2=>?_)
 obtain ⟨it,fp,tn,J,H2,e,I2,T,c7,f2,q⟩:=h2
 subst e
 refine wpAny_newObj_type (ae4 ?_) (by show 0 ≤ sizeLine; decide)
 generalize hD:s2.heap.objs.size = D
 have hDn:H2 D = none:=I2.bJ.fresh (Nat.le_of_eq hD)
 obtain ⟨W,⟨m0,w0⟩,turn⟩:=q D hDn
 generalize hs3:({ s2 with heap:=s2.heap.push { cls:=.type "list",data:=.seq ([]:List Value).toArray } }:Shared) = s3
 have I3:Inv X pins σ (upd H2 D (.lst [])) s3:=by
  rw [← hs3]
  refine I2.laid (t':=s2.toks) (fun b o e=>Heap.get?_push_of_some _ e) (Nat.le_of_eq hD) ⟨Nat.zero_le _,[],0,.nil,?_⟩
  rw [← hD]
  exact Heap.get?_push_size _ rfl
 have h3:s3.heap = s2.heap.push { cls:=.type "list",data:=.seq ([]:List Value).toArray }:=by rw [← hs3]
 have sz:∀ b ∈ fp,b < s2.heap.objs.size:=fun b hb=>by
  obtain ⟨o,e,_⟩:=T.obj _ _ c7 b hb
  exact Heap.lt_size e
 have f3:∀ b ∈ fp,FH X pins (upd H2 D (.lst [])) b ∧ b < s3.heap.objs.size:=fun b hb=>by
  have fk:=sz b hb
  refine ⟨⟨?_,(f2 b hb).2⟩,by rw [h3,Heap.size_push]; exact Nat.lt_succ_of_lt fk⟩
  rw [ak (by rw [← hD]; exact Nat.ne_of_lt fk)]
  exact (f2 b hb).1
 have m5:tn 0 s3.heap:=T.keep _ _ _ c7 fun b _ o e=>by rw [h3]; exact Heap.get?_push_of_some _ e
 have I4:=afd I3 ok hN f3
 have pg:=hg s3 (upd H2 D (.lst [])) s3.heap.objs.size (cellsFrom (s3.heap.objs.size + 1) scope.names (fN X.env.cells scope.names [])) fp
 have pt:=ht s3 (upd H2 D (.lst [])) s3.heap.objs.size (cellsFrom (s3.heap.objs.size + 1) scope.names (fN X.env.cells scope.names [])) fp
 have pe:=he s3 (upd H2 D (.lst [])) s3.heap.objs.size (cellsFrom (s3.heap.objs.size + 1) scope.names (fN X.env.cells scope.names [])) fp
 show codeAny _ _ (.compStart (.ListComp elt [⟨tg,iter,ifs,0⟩] scope pos) 0 (.ref it) (.ref D) (compEnvC scope (cellsFrom (s3.heap.objs.size + 1) scope.names (fN X.env.cells scope.names [])) s3.heap.objs.size X.env)) (compPost (model X.prog X.w) X.A X.xe use Qf (.ref D) s3.heap.objs.size) { s3 with heap:=pushCells (s3.heap.push { cls:=.type "dict",data:=.dict #[] }) scope.names }
 have nfp:∀ b ∈ fp,(upd H2 D (.lst [])) b = none:=fun b hb=>(f3 b hb).1.1
 generalize hce:compEnvC scope (cellsFrom (s3.heap.objs.size + 1) scope.names (fN X.env.cells scope.names [])) s3.heap.objs.size X.env = ce at I4 pg pt pe ⊢
 have cL:ce.locals = s3.heap.objs.size:=by subst hce; rfl
 generalize hH3:upd H2 D (.lst []) = H3 at I3 I4 pg pt pe w0 nfp f3
 generalize hs4:({ s3 with heap:=pushCells (s3.heap.push { cls:=.type "dict",data:=.dict #[] }) scope.names }:Shared) = s4 at I4 ⊢
 have st4:tn 0 s4.heap:=T.keep _ _ _ m5 fun b _ o e=>by rw [← hs4]; exact pushCells_keeps _ _ _ _ (Heap.get?_push_of_some _ e)
 have Tr:∀ {σ':St} {H':Hp} {s':Shared},Inv (X.Bp s3 H3 scope ce fp) [] σ' H' s' → (∀ b ∈ fp,H' b = none) → ∀ b ∈ fp,FH (X.Bp s3 H3 scope ce fp) [] H' b:=fun {σ' H' s'} I' hn b hb =>
  ⟨hn b hb,(I'.ok.exf b hb).1,I'.ok.adU b hb,.inl hb,fun x c e=>(I'.ok.exf b hb).2 x c e,fun p hp=>absurd (show p ∈ ([]:List (Addr × Obj)) ++ [] from hp) (by simp)⟩
 have loop:codeAny (model X.prog X.w) X.A (.compLoop (.ListComp elt [⟨tg,iter,ifs,0⟩] scope pos) 0 (.ref it) (.ref D) ce) (compPost (model X.prog X.w) X.A X.xe use Qf (.ref D) s3.heap.objs.size) s4:=by
  refine aei (fun n s'=>∃ i H',Inv (X.Bp s3 H3 scope ce fp) [] (wipe σ (own.map (·.2))) H' s' ∧ tn i s'.heap ∧ (∀ b ∈ fp,H' b = none) ∧ W i n H') ?_ m0 ⟨0,H3,I4,st4,nfp,w0⟩
  rintro n s5 ⟨i,H5,I5,Zs,n5,w5⟩
  rcases turn i n H5 w5 with ⟨stop,qq⟩ | ⟨go,Nx,hNx,step⟩
  ·have td:=T.done (X.Bp s3 H3 scope ce fp) rfl rfl rfl hc i [] s5 _ H5 (fun _ _=>False) I5 (Tr I5 n5) Zs stop
   refine Xi td fun r s6 ⟨hr,I6⟩=>?_
   subst hr
   have I7:Inv X pins σ H5 s6:=I3.aoW (ch:=fp) I6.os I6.base I6.bJ I6.bare fun b hb=>⟨(f3 b hb).1.2.2.2.1,(f3 b hb).1.2.1,(f3 b hb).1.2.2.2.2.1,(f3 b hb).1.2.2.2.2.2⟩
   have nC:H5 s3.heap.objs.size = none:=by
    have z:H5 ce.locals = none:=I6.free
    rw [cL] at z
    exact z
   obtain ⟨m,hn,_⟩:=I6.loc
   have hn:s6.heap.Ns ce.locals m:=hn
   rw [cL] at hn
   exact hRR D s3.heap.objs.size s6 m H5 I7 qq hn (I3.adQ (Nat.le_refl _) nC)
  ·have ti:=T.item (X.Bp s3 H3 scope ce fp) rfl rfl rfl hc i [] s5 _ H5 (fun _ _=>False) I5 (Tr I5 n5) Zs go
   refine Xi ti fun r s6 ⟨u,hr,h6⟩=>?_
   subst hr
   refine Xi h6 fun _ s7 ⟨x,H7,I7,r7,y7,st7,n7⟩=>?_
   have I7':=I7.pinned (Tr I7 n7) (T.obj _ _ st7)
   refine Xi (pg _ s7 _ H7 x u _ I7' r7 (step x H7 y7)) fun _ s8 ⟨σ8,H8,I8,hw8,q8⟩=>?_
   refine Xi (pt _ s8 σ8 H8 _ I8 q8) fun b s9 ⟨H9,I9,q9⟩=>?_
   have fin:∀ {s':Shared} {H':Hp},Inv (X.Bp s3 H3 scope ce fp) ([] ++ OE fp s7.heap) σ8 H' s' → Nx H' → ∃ m,m < n ∧ ∃ i H',Inv (X.Bp s3 H3 scope ce fp) [] (wipe σ (own.map (·.2))) H' s' ∧ tn i s'.heap ∧ (∀ b ∈ fp,H' b = none) ∧ W i m H':=fun {s' H'} I' nx=>by
    obtain ⟨m',hm,w'⟩:=hNx H' nx
    have amL:∀ b ∈ fp,∀ o,s7.heap.get? b = some o → s'.heap.get? b = some o ∧ H' b = none:=fun b hb o e =>
     let z:=I'.pin (b,o) (List.mem_append_right _ (List.mem_append_right _ (LC hb e)))
     ⟨z.1,z.2.1⟩
    have hl:(wipe σ (own.map (·.2))).length = σ8.length:=by rw [← hw8,G3]
    refine ⟨m',hm,i + 1,H',(I'.K0 (pins:=[])).weak hl (fun j v e=>?_),T.keep _ _ _ st7 fun b hb o e=>(amL b hb o e).1,fun b hb=>?_,w'⟩
    ·rw [← hw8] at e
     exact (NP e).1
    ·obtain ⟨o,e,_⟩:=T.obj _ _ st7 b hb
     exact (amL b hb o e).2
   cases b with
   | false =>
    simp only [Bool.false_eq_true,if_false] at q9 ⊢
    exact fin I9 q9
   | true =>
    simp only [if_true] at q9 ⊢
    refine Xi (pe _ s9 σ8 H9 _ I9 q9) fun z s10 ⟨yv,H10,I10,r10,acc,ap7,apK,nx⟩=>?_
    exact anZ (X:=X.Bp s3 H3 scope ce fp) I10 ap7 apK r10 fun s11 I11=>fin I11 nx
 exact codeAny_compStart_list loop (T.self X.A 0 _ _ _ st4 loop)
theorem Rz {elt tg iter:Expr} {ifs:List Expr} {scope:Scope} {own:List (Str × Nat)} {pos:Pos} {wi:TI} {g:TG} {tt:TT} {te:TE} (hc:X.calm = true) (hN:X.N.Nodup) (hi:PI X tg iter wi) (ok:abr X.N X.env.scope scope own)
  (hg:∀ (s:Shared) (H:Hp) (C:Addr) (cl:List (Str × Addr)) (fp:List Addr),PG (X.Bp s H scope (compEnvC scope cl C X.env) fp) tg g) (ht:∀ (s:Shared) (H:Hp) (C:Addr) (cl:List (Str × Addr)) (fp:List Addr),PTs (X.Bp s H scope (compEnvC scope cl C X.env) fp) ifs tt)
  (he:∀ (s:Shared) (H:Hp) (C:Addr) (cl:List (Str × Addr)) (fp:List Addr),PE (X.Bp s H scope (compEnvC scope cl C X.env) fp) elt te) (hs:∀ x,foldedSetIterable iter X.env x = pure x:=by intro _; rfl) :
  PE X (.ListComp elt [⟨tg,iter,ifs,0⟩] scope pos) (tLc wi g tt te (own.map (·.2))):=by
 intro pins s σ H Q I h
 rw [eval_ListComp]
 refine alU hc hN I hi ok hg ht he hs h fun D C s' m H' I' q hn f=>⟨m,hn,fun h'' sb=>?_⟩
 obtain ⟨f0,f1,f2,f3,f4,f5⟩:=f
 exact ⟨.ref D,H',I'.turned (t':=s'.toks) (fun b o hb e=>(sb.2 b hb).trans e) f0 f1 f3 f4 f5,rfl,q⟩
end
theorem adg {lo:Int} {n:Nat} {g:TG} {tt:TT} {te:TE} {vs:List Nat} {σ:St} {H1:Hp} {D:Addr} {Qd:Hp → Prop} (Pv:Nat → Hp → Prop) (h0:Pv 0 (upd H1 D (.lst [])))
  (hs:∀ i H,i < n → Pv i H → g (.int (lo + i)) (wipe σ vs) H fun σ2 H2=>wipe σ2 vs = wipe σ vs ∧ tt σ2 H2 fun b H3 =>
   if b = true then te σ2 H3 fun y H4=>∃ acc,H4 D = some (.lst acc) ∧ acc.length < sizeLine ∧ Pv (i + 1) (upd H4 D (.lst (acc ++ [y]))) else Pv (i + 1) H3) (hd:∀ H,Pv n H → Qd H) :
  ∃ W:Nat → Nat → Hp → Prop,(∃ m,W 0 m (upd H1 D (.lst []))) ∧ ∀ i m H,W i m H →
   ((W6 lo n).stop i H ∧ Qd H) ∨ ((W6 lo n).go i H ∧ ∃ Nx:Hp → Prop,(∀ H',Nx H' → ∃ m',m' < m ∧ W (i + 1) m' H') ∧ ∀ x H',(W6 lo n).U3 i H x H' → g x (wipe σ vs) H' fun σ2 H2=>wipe σ2 vs = wipe σ vs ∧ tt σ2 H2 fun b H3 =>
    if b = true then te σ2 H3 fun y H4=>∃ acc,H4 D = some (.lst acc) ∧ acc.length < sizeLine ∧ Nx (upd H4 D (.lst (acc ++ [y]))) else Nx H3):=by
 refine ⟨fun i m H=>m = n - i ∧ i ≤ n ∧ Pv i H,⟨n,by simp,Nat.zero_le _,h0⟩,?_⟩
 rintro i m H ⟨rfl,hi,p⟩
 by_cases fk:i < n
 ·refine .inr ⟨fk,Pv (i + 1),fun H' p'=>⟨n - (i + 1),by omega,rfl,fk,p'⟩,fun x H' y=>?_⟩
  obtain ⟨e,y⟩:=y
  subst e y
  exact hs i _ fk p
 ·have e:i = n:=by omega
  subst e
  exact .inl ⟨Nat.le_refl _,hd H p⟩
theorem Yk {K:W.Frag} {a:Addr} {xs:List V} {g:TG} {tt:TT} {te:TE} {vs:List Nat} {σ:St} {H1:Hp} {D:Addr} {Qd:Hp → Prop} (Pv:Nat → Hp → Prop) (h0:Pv 0 (upd H1 D (.lst []))) (hl:∀ i H,i ≤ xs.length → Pv i H → aM K H a xs)
  (hs:∀ i x H,xs[i]? = some x → Pv i H → g x (wipe σ vs) H fun σ2 H2=>wipe σ2 vs = wipe σ vs ∧ tt σ2 H2 fun b H3 =>
   if b = true then te σ2 H3 fun y H4=>∃ acc,H4 D = some (.lst acc) ∧ acc.length < sizeLine ∧ Pv (i + 1) (upd H4 D (.lst (acc ++ [y]))) else Pv (i + 1) H3) (hd:∀ H,Pv xs.length H → Qd H) :
  ∃ W:Nat → Nat → Hp → Prop,(∃ m,W 0 m (upd H1 D (.lst []))) ∧ ∀ i m H,W i m H →
   ((Itl K a).stop i H ∧ Qd H) ∨ ((Itl K a).go i H ∧ ∃ Nx:Hp → Prop,(∀ H',Nx H' → ∃ m',m' < m ∧ W (i + 1) m' H') ∧ ∀ x H',(Itl K a).U3 i H x H' → g x (wipe σ vs) H' fun σ2 H2=>wipe σ2 vs = wipe σ vs ∧ tt σ2 H2 fun b H3 =>
    if b = true then te σ2 H3 fun y H4=>∃ acc,H4 D = some (.lst acc) ∧ acc.length < sizeLine ∧ Nx (upd H4 D (.lst (acc ++ [y]))) else Nx H3):=by
 refine ⟨fun i m H=>m = xs.length - i ∧ i ≤ xs.length ∧ Pv i H,⟨xs.length,by simp,Nat.zero_le _,h0⟩,?_⟩
 rintro i m H ⟨rfl,hi,p⟩
 have q:=hl i H hi p
 by_cases fk:i < xs.length
 ·refine .inr ⟨⟨xs,xs[i],q,by simp [fk]⟩,Pv (i + 1),fun H' p'=>⟨xs.length - (i + 1),by omega,rfl,fk,p'⟩,fun x H' y=>?_⟩
  obtain ⟨e,y⟩:=y
  subst e
  exact hs i x _ (y xs q) p
 ·have e:i = xs.length:=by omega
  subst e
  exact .inl ⟨⟨xs,q,Nat.le_refl _⟩,hd H p⟩
noncomputable def anH (N:List Str) (sc scope:Scope) (own:List (Str × Nat)):Bool :=
 (match scope.kind with | .function=>true | _=>false) && (scope.names.all fun y=>decide (scope.names.lookup y.1 = some y.2)) && (own.all fun p=>decide (N[p.2]? = some p.1)) &&
  (scope.names.all fun y=>match y.2 with
   | .free=>(match sc.names.lookup y.1 with | some .cell=>true | some .free=>true | _=>false)
   | .local=>decide (y.1 ∈ own.map (·.1)) || decide (y.1 ∉ N)
   | .cell=>decide (y.1 ∈ own.map (·.1)) || decide (y.1 ∉ N)
   | _=>true)
theorem z7 {N:List Str} {sc scope:Scope} {own:List (Str × Nat)} (h:anH N sc scope own = true):abr N sc scope own:=by
 unfold anH at h
 simp only [Bool.and_eq_true,List.all_eq_true,decide_eq_true_eq] at h
 obtain ⟨⟨⟨h1,h2⟩,h3⟩,h4⟩:=h
 refine ⟨?_,h2,h3,fun y hy e=>?_,fun y hy e=>?_⟩
 ·split at h1
  ·assumption
  ·cases h1
 ·have q:=h4 y hy
  simp only [e] at q
  split at q <;> first | exact .inl (by assumption) | exact .inr (by assumption) | cases q
 ·have q:=h4 y hy
  rcases e with e | e <;> (simp only [e,Bool.or_eq_true,decide_eq_true_eq] at q; exact q)
end L2
namespace L2
open PySem PySem.Spec PyProof.Rows
end L2
namespace L2
open PySem PySem.Spec PyProof.Rows
section
variable {κ:Type} [DecidableEq κ]
noncomputable def iz (kvs:List (κ × V)) (k:κ):Option V:=(kvs.find? fun kv=>decide (kv.1 = k)).map (·.2)
noncomputable def putK (kvs:List (κ × V)) (k:κ) (v:V):List (κ × V) :=
 if (kvs.any fun kv=>decide (kv.1 = k)) = true then kvs.map (fun kv=>if kv.1 = k then (kv.1,v) else kv) else kvs ++ [(k,v)]
noncomputable def LZ (kvs:List (κ × V)) (k:κ):List (κ × V):=kvs.filter fun kv=>decide (kv.1 ≠ k)
theorem KU {p:κ × V} {r:List (κ × V)} {k:κ} (e:p.1 = k):iz (p :: r) k = some p.2:=by simp [iz,List.find?_cons,e]
theorem KW {p:κ × V} {r:List (κ × V)} {k:κ} (e:¬ p.1 = k):iz (p :: r) k = iz r k:=by simp [iz,List.find?_cons,e]
theorem KY (k:κ):∀ kvs:List (κ × V),(kvs.any fun kv=>decide (kv.1 = k)) = (iz kvs k).isSome
 | []=>rfl
 | p :: r=>by
  rw [List.any_cons]
  by_cases e:p.1 = k
  ·simp only [KU e,decide_eq_true e,Bool.true_or,Option.isSome_some]
  ·rw [KW e,decide_eq_false e,Bool.false_or]; exact KY k r
theorem HJ (kvs:List (κ × V)) (k:κ) (v:V):(putK kvs k v).length ≤ kvs.length + 1:=by
 unfold putK
 split
 ·rw [List.length_map]; omega
 ·rw [List.length_append,List.length_cons,List.length_nil]; omega
theorem ajG {kvs:List (κ × V)} {k:κ} (v:V) (h:iz kvs k = none):putK kvs k v = kvs ++ [(k,v)]:=by
 unfold putK
 rw [KY,h]
 exact if_neg (by decide)
theorem rP.A5 {o:Option V} {u:Option Value} (r:rP o u):o.isSome = u.isSome:=by
 cases o with
 | none=>cases u with
  | none=>rfl
  | some _=>exact (show False from r).elim
 | some _=>cases u with
  | none=>exact (show False from r).elim
  | some _=>rfl
theorem KV.val {kvs:List (κ × V)} {vs:List (κ × Value)} (r:KV kvs vs) (k:κ):rP (iz kvs k) (valueAt vs k):=by
 unfold KV at r
 induction r with
 | nil=>exact True.intro
 | @cons p q ps qs h t ih =>
  obtain ⟨h1,h2⟩:=h
  by_cases e:p.1 = k
  ·have e':q.1 = k:=h1.symm.trans e
   have b:valueAt (q :: qs) k = some q.2:=by simp [valueAt,List.find?_cons,e']
   rw [KU e,b]; exact h2
  ·have e':¬ q.1 = k:=fun z=>e (h1.trans z)
   have b:valueAt (q :: qs) k = valueAt qs k:=by simp [valueAt,List.find?_cons,e']
   rw [KW e,b]; exact ih
theorem KV.any {kvs:List (κ × V)} {vs:List (κ × Value)} (r:KV kvs vs) (k:κ):(kvs.any fun kv=>decide (kv.1 = k)) = vs.any fun kv=>decide (kv.1 = k):=by
 unfold KV at r
 induction r with
 | nil=>rfl
 | cons h t ih=>rw [List.any_cons,List.any_cons,ih,h.1]
theorem KV.ajA {kvs:List (κ × V)} {vs:List (κ × Value)} (r:KV kvs vs) (k:κ) {y:V} {u:Value} (ry:RelV y u) :
  KV (kvs.map fun kv=>if kv.1 = k then (kv.1,y) else kv) (vs.map fun kv=>if kv.1 = k then (kv.1,u) else kv):=by
 unfold KV at r ⊢
 induction r with
 | nil=>exact .nil
 | @cons p q ps qs h t ih =>
  rw [List.map_cons,List.map_cons]
  refine .cons ?_ ih
  obtain ⟨h1,h2⟩:=h
  by_cases e:p.1 = k
  ·rw [if_pos e,if_pos (h1.symm.trans e)]; exact ⟨h1,ry⟩
  ·rw [if_neg e,if_neg (fun z=>e (h1.trans z))]; exact ⟨h1,h2⟩
theorem KV.put {kvs:List (κ × V)} {vs:List (κ × Value)} (r:KV kvs vs) (k:κ) {y:V} {u:Value} (ry:RelV y u):KV (putK kvs k y) (stored vs k u):=by
 unfold putK stored
 rw [r.any k]
 by_cases e:(vs.any fun kv=>decide (kv.1 = k)) = true
 ·rw [if_pos e,if_pos e]; exact r.ajA k ry
 ·rw [if_neg e,if_neg e]; exact Paired.snoc r ⟨rfl,ry⟩
theorem KV.drop {kvs:List (κ × V)} {vs:List (κ × Value)} (r:KV kvs vs) (k:κ):KV (LZ kvs k) (without vs k):=by
 unfold KV at r ⊢
 unfold LZ without
 induction r with
 | nil=>exact .nil
 | @cons p q ps qs h t ih =>
  obtain ⟨h1,h2⟩:=h
  rw [List.filter_cons,List.filter_cons]
  by_cases e:p.1 = k
  ·have a:¬ decide (p.1 ≠ k) = true:=by simp [e]
   have b:¬ decide (q.1 ≠ k) = true:=by simp [h1.symm.trans e]
   rw [if_neg a,if_neg b]; exact ih
  ·have e':¬ q.1 = k:=fun z=>e (h1.trans z)
   have a:decide (p.1 ≠ k) = true:=by simp [e]
   have b:decide (q.1 ≠ k) = true:=by simp [e']
   rw [if_pos a,if_pos b]; exact .cons ⟨h1,h2⟩ ih
theorem KV.length {kvs:List (κ × V)} {vs:List (κ × Value)} (r:KV kvs vs):kvs.length = vs.length:=Paired.length r
theorem akp (kvs:List (κ × V)) (k:κ):(LZ kvs k).length ≤ kvs.length:=List.length_filter_le _ _
end
theorem Ds {P:Program} {w:World} {k:Key} {u:Value} (r:RelV (kV k) u):(fL P w).is k u = true:=by
 cases k with
 | inl i=>obtain ⟨t,e⟩:=(show ∃ t,u = Value.int i t from r); subst e; exact HG P w i t
 | inr x=>obtain ⟨t,e⟩:=(show ∃ t,u = Value.str x t from r); subst e; exact ae5 P w x t
theorem ZJ {P:Program} {w:World}:∀ {ks:List Key} {us:List Value},Vals (ks.map kV) us → ItemsAre (fL P w) ks us
 | [],_,r=>by rw [List.map_nil] at r; cases r; exact .nil
 | k :: ks,_,r=>by
  rw [List.map_cons] at r
  cases r with
  | cons h t=>exact .cons (Ds h) (ZJ t)
noncomputable abbrev KT (H:Hp):List (List Key × V) → List (List Key × Addr × Value) → Prop:=Paired fun p q=>p.1 = q.1 ∧ H q.2.1 = some (.tup (p.1.map kV)) ∧ RelV p.2 q.2.2
theorem KT.val {H:Hp} {kvs:List (List Key × V)} {xs:List (List Key × Addr × Value)} (r:KT H kvs xs) (k:List Key):rP (iz kvs k) ((atKey xs k).map (·.2)):=by
 induction r with
 | nil=>exact True.intro
 | @cons p q ps qs h t ih =>
  obtain ⟨h1,_,h2⟩:=h
  by_cases e:p.1 = k
  ·have e':q.1 = k:=h1.symm.trans e
   have b:atKey (q :: qs) k = some q.2:=by simp [atKey,List.find?_cons,e']
   rw [KU e,b]; exact h2
  ·have e':¬ q.1 = k:=fun z=>e (h1.trans z)
   have b:atKey (q :: qs) k = atKey qs k:=by simp [atKey,List.find?_cons,e']
   rw [KW e,b]; exact ih
theorem KT.ajA {H:Hp} {kvs:List (List Key × V)} {xs:List (List Key × Addr × Value)} (r:KT H kvs xs) (k:List Key) {y:V} {u:Value} (ry:RelV y u) :
  KT H (kvs.map fun kv=>if kv.1 = k then (kv.1,y) else kv) (xs.map (putAt k u)):=by
 induction r with
 | nil=>exact .nil
 | @cons p q ps qs h t ih =>
  rw [List.map_cons,List.map_cons]
  refine .cons ?_ ih
  obtain ⟨h1,h2,h3⟩:=h
  unfold putAt
  by_cases e:p.1 = k
  ·rw [if_pos e,if_pos (h1.symm.trans e)]; exact ⟨h1,h2,ry⟩
  ·rw [if_neg e,if_neg (fun z=>e (h1.trans z))]; exact ⟨h1,h2,h3⟩
theorem KT.put {H:Hp} {kvs:List (List Key × V)} {xs:List (List Key × Addr × Value)} (r:KT H kvs xs) (k:List Key) {b:Addr} {y:V} {u:Value} (hb:H b = some (.tup (k.map kV))) (ry:RelV y u) :
  KT H (putK kvs k y) (storedH xs k b u):=by
 have e:(kvs.any fun kv=>decide (kv.1 = k)) = (atKey xs k).isSome:=by
  rw [KY,(r.val k).A5,Option.isSome_map]
 unfold putK storedH
 rw [e]
 by_cases q:(atKey xs k).isSome = true
 ·rw [if_pos q,if_pos q]; exact r.ajA k ry
 ·rw [if_neg q,if_neg q]; exact Paired.snoc r ⟨rfl,hb,ry⟩
theorem KT.keeps {H H':Hp} {kvs:List (List Key × V)} {xs:List (List Key × Addr × Value)} (r:KT H kvs xs) (ht:∀ b ys,H b = some (.tup ys) → H' b = some (.tup ys)):KT H' kvs xs :=
 Paired.aj3 r fun _ _ z=>⟨z.1,ht _ _ z.2.1,z.2.2⟩
section
variable {P:Program} {w:World} {H:Hp} {h:Heap} {a:Addr}
theorem akH {u:HO} (ok:jC P w H h) (e:Rd H a u):gK P w H h a u:=e.ok ok
theorem L0 {kvs:List (Key × V)} (ok:jC P w H h) (e:Rd H a (.dK kvs)):kvs.length ≤ sizeLine ∧ (a == sysModules) = false ∧ ∃ vs,KV kvs vs ∧ h.DictOf (fL P w) a vs :=
 show gK P w H h a (.dK kvs) from akH ok e
theorem Wy {kvs:List (Key × V)} (ok:jC P w H h) (e:H a = some (.dK kvs)):kvs.length ≤ sizeLine ∧ (a == sysModules) = false ∧ ∃ vs,KV kvs vs ∧ h.DictOf (fL P w) a vs:=L0 ok (.inl e)
theorem Pf {ks:List Key} (ok:jC P w H h) (e:H a = some (.tup (ks.map kV))):(tupleKind (fL P w)).is h ks a:=by
 obtain ⟨_,aT,r,o,h1,h2,n,h3⟩:=(show gK P w H h a (.tup (ks.map kV)) from ok a _ e)
 exact ⟨o,aT.toArray,n,h1,h2,h3,by simpa using ZJ r⟩
theorem RG {kvs:List (List Key × V)} (ok:jC P w H h) (e:Rd H a (.dT kvs)):kvs.length ≤ sizeLine ∧ (a == sysModules) = false ∧
  ∃ xs,KT H kvs xs ∧ h.DictOfH (tupleKind (fL P w)) a xs:=by
 obtain ⟨z,y,xs,r,o,es,ep,h1,h2,h3,h4,h5⟩:=(show gK P w H h a (.dT kvs) from akH ok e)
 refine ⟨z,y,xs,r,o,es,ep,h1,h2,h3,h4,fun x hx=>?_,h5⟩
 have all:∀ {l:List (List Key × V)} {m:List (List Key × Addr × Value)},KT H l m → ∀ x ∈ m,(tupleKind (fL P w)).is h x.1 x.2.1:=by
  intro l m q
  induction q with
  | nil=>intro x hx; exact nomatch hx
  | @cons p q ps qs hq t ih =>
   intro x hx
   rcases List.mem_cons.mp hx with e | hx
   ·subst e
    exact Pf ok (by rw [← hq.1]; exact hq.2.1)
   ·exact ih x hx
 exact all r x hx
theorem aoQ {kvs:List (List Key × V)} (ok:jC P w H h) (e:H a = some (.dT kvs)):kvs.length ≤ sizeLine ∧ (a == sysModules) = false ∧
  ∃ xs,KT H kvs xs ∧ h.DictOfH (tupleKind (fL P w)) a xs:=RG ok (.inl e)
end
noncomputable def jn (H:Hp) (a:Addr) (y:V) (r:Option V):Prop :=
 (∃ kvs k,Rd H a (.dK kvs) ∧ y = kV k ∧ r = iz kvs k) ∨ ∃ kvs k b,Rd H a (.dT kvs) ∧ y = .ref b ∧ H b = some (.tup (k.map kV)) ∧ r = iz kvs k
noncomputable def FP (H:Hp) (a:Addr) (y v:V) (H':Hp):Prop :=
 (∃ kvs k,H a = some (.dK kvs) ∧ y = kV k ∧ kvs.length < sizeLine ∧ H' = upd H a (.dK (putK kvs k v))) ∨
 ∃ kvs k b,H a = some (.dT kvs) ∧ y = .ref b ∧ H b = some (.tup (k.map kV)) ∧ kvs.length < sizeLine ∧ H' = upd H a (.dT (putK kvs k v))
theorem jn.k {H:Hp} {a:Addr} {kvs:List (Key × V)} {k:Key} (e:H a = some (.dK kvs)):jn H a (kV k) (iz kvs k):=.inl ⟨kvs,k,.inl e,rfl,rfl⟩
theorem FP.k {H:Hp} {a:Addr} {kvs:List (Key × V)} {k:Key} {v:V} (e:H a = some (.dK kvs)) (hl:kvs.length < sizeLine):FP H a (kV k) v (upd H a (.dK (putK kvs k v))):=.inl ⟨kvs,k,e,rfl,hl,rfl⟩
section
variable {X:Cx} {pins:List (Addr × Obj)} {σ:St} {H:Hp} {s:Shared} {a:Addr} {y v:V} {u r:Value} {o:Option V} {A:Around} {E:Value → Shared → Prop}
theorem Inv.big (I:Inv X pins σ H s):sysModules < s.heap.objs.size:=by
 have h:mainGlobals < s.heap.objs.size:=(I.mod.glob.keeps I.bk).lt
 exact Nat.lt_trans (by decide) h
theorem ZZ {Q:Value → Shared → Prop} (hu:A.units + 1 < cLine) (I:Inv X pins σ H s) (g:jn H a y (some v)) (ry:RelV y u) (h:∀ w' s',Inv X pins σ H s' → RelV v w' → Q w' s') :
  wpAny (model X.prog X.w) A (getItem (.ref a) u) Q E s:=by
 rcases g with ⟨kvs,k,e,ey,l⟩ | ⟨kvs,k,b,e,ey,eb,l⟩
 ·subst ey
  obtain ⟨z,hd,vs,rel,dd⟩:=L0 I.bJ e
  obtain ⟨w',hw,AK⟩:=rP.some_of (v:=v) (o:=valueAt vs k) (by rw [l]; exact rel.val k)
  exact wpAny_getItem_of (Ds ry) dd.mapOf hw (h w' _ (I.tok _) AK)
 ·subst ey
  cases (show u = Value.ref b from ry)
  obtain ⟨z,hd,xs,rel,dd⟩:=RG I.bJ e
  obtain ⟨w',hw,AK⟩:=rP.some_of (v:=v) (o:=(atKey xs k).map (·.2)) (by rw [l]; exact rel.val k)
  obtain ⟨p,hp,lR⟩:=Option.map_eq_some_iff.mp hw
  refine wpAny_getItem_heap (tupleKind_room_in1 hu) (Pf I.bJ eb) dd hp ?_
  rw [lR]
  exact h w' _ (I.tok _) AK
theorem aqj {Q:Value → Shared → Prop} (hu:A.units + 1 < cLine) (I:Inv X pins σ H s) (g:jn H a y o) (ry:RelV y u) (h:∀ s',Inv X pins σ H s' → Q (.bool o.isSome) s') :
  wpAny (model X.prog X.w) A (compareOp .In u (.ref a)) Q E s:=by
 rcases g with ⟨kvs,k,e,ey,l⟩ | ⟨kvs,k,b,e,ey,eb,l⟩
 ·subst ey
  obtain ⟨z,hd,vs,rel,dd⟩:=L0 I.bJ e
  refine wpAny_in_of (Ds ry) hd dd.mapOf ?_
  rw [← (rel.val k).A5,← l]
  exact h _ (I.tok _)
 ·subst ey
  cases (show u = Value.ref b from ry)
  obtain ⟨z,hd,xs,rel,dd⟩:=RG I.bJ e
  refine wpAny_in_heap (tupleKind_room_in1 hu) (Pf I.bJ eb) hd dd ?_
  have q:=(rel.val k).A5
  rw [Option.isSome_map] at q
  rw [← q,← l]
  exact h _ (I.tok _)
theorem al1 {Q:Value → Shared → Prop} (hu:A.units + 1 < cLine) (I:Inv X pins σ H s) (g:jn H a y o) (ry:RelV y u) (h:∀ s',Inv X pins σ H s' → Q (.bool (!o.isSome)) s') :
  wpAny (model X.prog X.w) A (compareOp .NotIn u (.ref a)) Q E s:=by
 rcases g with ⟨kvs,k,e,ey,l⟩ | ⟨kvs,k,b,e,ey,eb,l⟩
 ·subst ey
  obtain ⟨z,hd,vs,rel,dd⟩:=L0 I.bJ e
  refine wpAny_notIn_of (Ds ry) hd dd.mapOf ?_
  rw [← (rel.val k).A5,← l]
  exact h _ (I.tok _)
 ·subst ey
  cases (show u = Value.ref b from ry)
  obtain ⟨z,hd,xs,rel,dd⟩:=RG I.bJ e
  refine wpAny_notIn_heap (tupleKind_room_in1 hu) (Pf I.bJ eb) hd dd ?_
  have q:=(rel.val k).A5
  rw [Option.isSome_map] at q
  rw [← q,← l]
  exact h _ (I.tok _)
theorem RH {h':Heap} {t':Nat} {ob:HO} (I:Inv X pins σ H s) (mu:Mut (H a)) (hs:Heap.SameBut a s.heap h') (he:∃ q,h'.get? a = some q) (new:gK X.prog X.w (upd H a ob) h' a ob) :
  Inv X pins σ (upd H a ob) { s with heap:=h',toks:=t' } :=
 I.write (x:=a) (e:=a) mu (.inl rfl) (fun b q hb z=>(hs.2 b hb).trans z) he new
theorem adW {P:Program} {w:World} {H':Hp} {h':Heap} {kvs:List (Key × V)} {vs:List (Key × Value)} (z:kvs.length ≤ sizeLine) (hd:(a == sysModules) = false) (rel:KV kvs vs) (dd:h'.DictOf (fL P w) a vs) :
  gK P w H' h' a (.dK kvs):=⟨z,hd,vs,rel,dd⟩
theorem ZY {H':Hp} {Q:Unit → Shared → Prop} (hu:A.units + 1 < cLine) (I:Inv X pins σ H s) (g:FP H a y v H') (ry:RelV y u) (rv:RelV v r) (h:∀ s',Inv X pins σ H' s' → Q () s') :
  wpAny (model X.prog X.w) A (setItem (.ref a) u r) Q E s:=by
 rcases g with ⟨kvs,k,e,ey,l,eH⟩ | ⟨kvs,k,b,e,ey,eb,l,eH⟩
 ·subst ey eH
  obtain ⟨z,hd,vs,rel,dd⟩:=Wy I.bJ e
  have hz:vs.length ≤ sizeLine:=by rw [← rel.length]; exact z
  have hl:(putK kvs k v).length ≤ sizeLine:=by have:=HJ kvs k v; omega
  refine wpAny_setItem_pairs (hsz:=hz) (Ds ry) dd fun h' SR hs=>h _ ?_
  have he:∃ q,h'.get? a = some q:=let ⟨q,_,_,hq,_⟩:=SR; ⟨q,hq⟩
  exact RH I (by rw [e]; exact True.intro) hs he (adW hl hd (rel.put k rv) SR)
 ·subst ey eH
  cases (show u = Value.ref b from ry)
  obtain ⟨z,hd,xs,rel,dd⟩:=aoQ I.bJ e
  have hz:xs.length ≤ sizeLine:=by rw [← Paired.length rel]; exact z
  have hl:(putK kvs k v).length ≤ sizeLine:=by have:=HJ kvs k v; omega
  refine wpAny_setItem_heap (hsz:=hz) (tupleKind_room_in1 hu) (Pf I.bJ eb) dd fun h' SR hs=>h _ ?_
  obtain ⟨q,es,ep,hq,h2,h3,h4,_,h5⟩:=SR
  refine RH I (by rw [e]; exact True.intro) hs ⟨q,hq⟩ ⟨hl,hd,_,(rel.put k eb rv).keeps fun c ys ec=>?_,q,es,ep,hq,h2,h3,h4,h5⟩
  rw [ak (dN ec e (fun z=>nomatch z))]
  exact ec
end
section
variable {X:Cx} {pins:List (Addr × Obj)} {σ:St} {H:Hp} {s:Shared} {a:Addr} {kvs:List (Key × V)} {k:Key} {u:Value} {A:Around} {E:Value → Shared → Prop}
theorem aoR {v:V} {more:List Value} {Q:Value → Shared → Prop} (I:Inv X pins σ H s) (e:H a = some (.dK kvs)) (ry:RelV (kV k) u) (l:iz kvs k = some v) (hm:more = [] ∨ ∃ x,more = [x])
  (h:∀ w' s',Inv X pins σ (upd H a (.dK (LZ kvs k))) s' → RelV v w' → Q w' s'):wpAny (model X.prog X.w) A (call (.builtin "dict.pop") (.ref a :: u :: more)) Q E s:=by
 obtain ⟨z,hd,vs,rel,dd⟩:=Wy I.bJ e
 obtain ⟨w',hw,AK⟩:=rP.some_of (v:=v) (o:=valueAt vs k) (by rw [← l]; exact rel.val k)
 have hp:(keyPart u).isSome = true:=by
  cases k with
  | inl i=>obtain ⟨t,q⟩:=(show ∃ t,u = Value.int i t from ry); subst q; rfl
  | inr x=>obtain ⟨t,q⟩:=(show ∃ t,u = Value.str x t from ry); subst q; rfl
 have ha:argsOk "dict.pop" ⟨.ref a :: u :: more,[]⟩:=by
  rcases hm with q | ⟨x,q⟩
  ·subst q; exact PySem.F.args_dict_pop_2 _ _
  ·subst q; exact PySem.F.args_dict_pop_3 _ _ _
 refine call_meetsIn PySem.F.slot_dict_pop dd.typeIs PySem.F.entry_dict_pop ha (meets_dict_pop_there (fL X.prog X.w) a (Ds ry) more hm hp)
  ⟨vs,w',dd,by rw [← rel.length]; exact z,hw,fun h' SR hs=>h w' _ ?_ AK⟩
 have he:∃ q,h'.get? a = some q:=let ⟨q,_,_,hq,_⟩:=SR; ⟨q,hq⟩
 exact RH I (by rw [e]; exact True.intro) hs he (adW (Nat.le_trans (akp kvs k) z) hd (rel.drop k) SR)
theorem aoS {Q:Value → Shared → Prop} (I:Inv X pins σ H s) (e:Rd H a (.dK kvs)) (h:∀ t s',Inv X pins σ H s' → Q (.int kvs.length t) s'):wpAny (model X.prog X.w) A (call (.builtin "len") [.ref a]) Q E s:=by
 obtain ⟨z,hd,vs,rel,dd⟩:=L0 I.bJ e
 refine call_len_dict hd dd (by rw [← rel.length]; rw [sizeLine_eq] at z; omega) ?_
 rw [← rel.length]
 exact h _ _ (I.tok _)
end
noncomputable def akx (i:Expr):Prop:=∀ ov iv,subscripted i false ov iv = operate [ov,iv] (getItem ov iv)
theorem afr {prog:Program} {w:World} {A:Around} {E:Value → Shared → Prop} {s:Shared} {env:Env} {value slice:Expr} {pos:Pos} {T id:String} {Q:Value → Shared → Prop}
  (hl:typeLookup (.type T) "__getitem__" = pure (some (.builtin id))) (hs:akx slice)
  (h:wpAny (model prog w) A (eval value env) (fun o s₁=>wpAny (model prog w) A (eval slice env) (fun i s₂=>s₂.TypeIs o T ∧ wpAny (model prog w) A (getItem o i) Q E s₂) E s₁) E s) :
  wpAny (model prog w) A (eval (.Subscript value slice pos) env) Q E s:=by
 refine Subscript_ (wpAny_mono h (fun o s₁ h₁=>wpAny_mono h₁ (fun i s₂ h₂=>?_) fun _ _ x=>x) fun _ _ x=>x)
 obtain ⟨hT,h₂⟩:=h₂
 unfold subscriptTail
 refine wpAny_bind ?_
 rw [getitemInPython_of_ne hT.not_modules]
 refine wpAny_bind (wpAny_specialOf hT hl ?_)
 have fin:wpAny (model prog w) A (subscripted slice false o i) (fun r s₃=>wpAny (model prog w) A (letTemporaryGo value o r >>= fun _=>pure r) Q E s₃) E s₂:=by
  rw [hs o i]
  exact wpAny_operating (wpAny_mono h₂ (fun r s₃ h₃=>wpAny_bind (wpAny_letTemporaryGo (wpAny_pure h₃))) fun _ _ x=>x)
 first
  | exact wpAny_pure (wpAny_bind fin)
  | exact wpAny_bind (wpAny_pure (wpAny_bind fin))
  | exact wpAny_bind fin
theorem afb {X:Cx} {pins:List (Addr × Obj)} {σ:St} {H:Hp} {s:Shared} {a:Addr} {y:V} {o:Option V} (I:Inv X pins σ H s) (g:jn H a y o):s.TypeIs (.ref a) "dict":=by
 rcases g with ⟨kvs,k,e,_,_⟩ | ⟨kvs,k,b,e,_,_,_⟩
 ·obtain ⟨_,_,vs,_,dd⟩:=L0 I.bJ e
  exact dd.typeIs
 ·obtain ⟨_,_,xs,_,dd⟩:=RG I.bJ e
  exact dd.typeIs
noncomputable def aok (td ty:TE):TE:=fun σ H Q=>td σ H fun x H1=>ty σ H1 fun y H2=>∃ a v,x = .ref a ∧ jn H2 a y (some v) ∧ Q v H2
noncomputable def apm (ty td:TE):TE:=fun σ H Q=>ty σ H fun y H1=>td σ H1 fun x H2=>∃ a o,x = .ref a ∧ jn H2 a y o ∧ Q (.bl o.isSome) H2
noncomputable def ak7 (ty td:TE):TE:=fun σ H Q=>ty σ H fun y H1=>td σ H1 fun x H2=>∃ a o,x = .ref a ∧ jn H2 a y o ∧ Q (.bl (!o.isSome)) H2
noncomputable def aoo (td ty tv:TE):TS:=fun D σ H=>tv σ H fun v H1=>td σ H1 fun x H2=>ty σ H2 fun y H3=>∃ a H4,x = .ref a ∧ FP H3 a y v H4 ∧ D.nx σ H4
noncomputable def aop (td ty tv:TE) (rd:V → V → Hp → VK → Prop):TS:=fun D σ H=>td σ H fun x H1=>ty σ H1 fun y H2=>∃ a v,x = .ref a ∧ jn H2 a y (some v) ∧
 tv σ H2 fun y2 H3=>rd v y2 H3 fun z H4=>∃ H5,FP H4 a y z H5 ∧ D.nx σ H5
section
variable {X:Cx} {o i e value:Expr} {pos pos' Ti:Pos} {td ty tv:TE}
theorem DF (hu:X.A.units + 1 < cLine) (ho:PE X o td) (hi:PE X i ty) (hs:akx i):PE X (.Subscript o i pos) (aok td ty):=by
 intro pins s σ H Q I h
 refine afr PySem.F.slot_dict_getitem.lookup hs (bR (ho pins s σ H _ I h) fun u s1 ⟨x,H1,I1,rx,q1⟩=>bR (hi pins s1 σ H1 _ I1 q1) fun iv s2 ⟨y,H2,I2,ry,a,v,ex,g,q2⟩=>?_)
 subst ex
 obtain rfl:u = Value.ref a:=rx
 exact ⟨afb I2 g,ZZ hu I2 g ry fun w' s3 I3 AK=>⟨v,H2,I3,AK,q2⟩⟩
theorem aip (hu:X.A.units + 1 < cLine) (hi:PE X i ty) (ho:PE X o td):PC X .In i o (apm ty td):=by
 intro pins s σ H Q I h
 refine bR (hi pins s σ H _ I h) fun iv s1 ⟨y,H1,I1,ry,q1⟩=>bR (ho pins s1 σ H1 _ I1 q1) fun u s2 ⟨x,H2,I2,rx,a,ov,ex,g,q2⟩=>?_
 subst ex
 obtain rfl:u = Value.ref a:=rx
 exact aqj hu I2 g ry fun s3 I3=>⟨.bl ov.isSome,H2,I3,rfl,q2⟩
theorem qK (hu:X.A.units + 1 < cLine) (hi:PE X i ty) (ho:PE X o td):PC X .NotIn i o (ak7 ty td):=by
 intro pins s σ H Q I h
 refine bR (hi pins s σ H _ I h) fun iv s1 ⟨y,H1,I1,ry,q1⟩=>bR (ho pins s1 σ H1 _ I1 q1) fun u s2 ⟨x,H2,I2,rx,a,ov,ex,g,q2⟩=>?_
 subst ex
 obtain rfl:u = Value.ref a:=rx
 exact al1 hu I2 g ry fun s3 I3=>⟨.bl (!ov.isSome),H2,I3,rfl,q2⟩
theorem Ry (hu:X.A.units + 1 < cLine) (ho:PE X o td) (hi:PE X i ty) (hv:PE X value tv) (hs:swapsWith value (some (.Subscript o i pos')) pos.line X.env = pure false) :
  PS X (.Assign [.Subscript o i pos'] value pos) (aoo td ty tv):=by
 intro pins s σ H D I h
 refine wpAny_Assign_Subscript (bR (hv pins s σ H _ I h) fun r s1 ⟨v,H1,I1,rv,q1⟩=>bR (ho pins s1 σ H1 _ I1 q1) fun u s2 ⟨x,H2,I2,rx,q2⟩=>bR (hi pins s2 σ H2 _ I2 q2) fun iv s3 ⟨y,H3,I3,ry,a,H4,ex,g,q3⟩=>?_) hs
 subst ex
 obtain rfl:u = Value.ref a:=rx
 exact ZY hu I3 g ry rv fun s4 I4=>⟨σ,H4,I4,q3⟩
theorem afy {op:Operator} {rd:V → V → Hp → VK → Prop} (hu:X.A.units + 1 < cLine) (ho:PE X o td) (hi:PE X i ty) (hv:PE X value tv) (hop:aky X op rd)
  (ha:∀ ov iv new,augStore i ov iv new = (do holding [new,ov,iv] (setItem ov iv new); release [new,ov,iv] []; pure .next)):PS X (.AugAssign (.Subscript o i Ti) op value pos) (aop td ty tv rd):=by
 intro pins s σ H D I h
 refine wpAny_AugAssign_SubscriptAny (bR (ho pins s σ H _ I h) fun u s1 ⟨x,H1,I1,rx,q1⟩=>bR (hi pins s1 σ H1 _ I1 q1) fun iv s2 ⟨y,H2,I2,ry,a,v,ex,g,q2⟩=>?_) ha
 subst ex
 obtain rfl:u = Value.ref a:=rx
 refine ZZ hu I2 g ry fun w' s3 I3 AK=>bR (hv pins s3 σ H2 _ I3 q2) fun w2 s4 ⟨y2,H3,I4,ry2,q3⟩=>bR (hop pins s4 σ H3 v y2 w' w2 _ I4 AK ry2 q3) fun w3 s5 ⟨z,H4,I5,rz,H5,g5,q4⟩=>?_
 exact ZY hu I5 g5 ry rz fun s6 I6=>⟨σ,H5,I6,q4⟩
end
theorem adX {P:Program} {w:World} {H:Hp} (h:Heap) (hb:sysModules < h.objs.size):gK P w H (h.push { cls:=.type "dict",data:=.dict #[] }) h.objs.size (.dK []) :=
 ⟨Nat.zero_le _,beq_eq_false_iff_ne.mpr (Ne.symm (Nat.ne_of_lt hb)),[],.nil,Heap.DictOf.new h⟩
noncomputable def amx:TE:=fun _ H Q=>∀ p,H p = none → Q (.ref p) (upd H p (.dK []))
section
variable {X:Cx} {pos:Pos}
theorem Ln:PE X (.Dict [] [] pos) amx:=fun pins s σ H Q I h =>
 wpAny_Dict_empty ⟨.ref s.heap.objs.size,_,I.laid (a:=s.heap.objs.size) (o:=.dK []) (t':=s.toks) (fun _ _ q=>Heap.get?_push_of_some _ q) (Nat.le_refl _) (adX s.heap I.big),rfl,h _ (I.bJ.fresh (Nat.le_refl _))⟩
end
noncomputable def ab1:List (TE × TE) → St → Hp → (List (V × V) → Hp → Prop) → Prop
 | [],_,H,Q=>Q [] H
 | (tk,tv) :: r,σ,H,Q=>tk σ H fun x H1=>tv σ H1 fun y H2=>ab1 r σ H2 fun ps H3=>Q ((x,y) :: ps) H3
noncomputable abbrev VV:List (V × V) → List (Value × Value) → Prop:=Paired fun p q=>RelV p.1 q.1 ∧ RelV p.2 q.2
noncomputable def PPs (X:Cx) (pos:Pos) (keys:List (Option Expr)) (values:List Expr) (U5:List (TE × TE)):Prop :=
 ∀ (pins:List (Addr × Obj)) (s:Shared) (σ:St) (H:Hp) (Q:List (V × V) → Hp → Prop),Inv X pins σ H s → ab1 U5 σ H Q →
  wpAny (model X.prog X.w) X.A (evalPairs (pairTrees keys values X.env pos)) (fun vs s'=>∃ ps H',Inv X pins σ H' s' ∧ VV ps vs ∧ Q ps H') X.xe s
theorem alp {X:Cx} {pos:Pos}:PPs X pos [] [] []:=fun pins s σ H Q I h=>pairTrees_nil_walk ⟨[],H,I,.nil,h⟩
theorem Lh {X:Cx} {pos:Pos} {k v:Expr} {ks:List (Option Expr)} {vs:List Expr} {tk tv:TE} {U5:List (TE × TE)} (hk:PE X k tk) (hv:PE X v tv) (hr:PPs X pos ks vs U5) :
  PPs X pos (some k :: ks) (v :: vs) ((tk,tv) :: U5):=fun pins s σ H Q I h =>
 pairTrees_cons_walk (bR (hk pins s σ H _ I h) fun u s1 ⟨x,H1,I1,rx,q1⟩=>bR (hv pins s1 σ H1 _ I1 q1) fun w2 s2 ⟨y,H2,I2,ry,q2⟩ =>
  bR (hr pins s2 σ H2 _ I2 q2) fun ws s3 ⟨ps,H3,I3,rel,q3⟩=>⟨(x,y) :: ps,H3,I3,.cons ⟨rx,ry⟩ rel,q3⟩)
noncomputable def O5 (kvs more:List (Key × V)):List (Key × V):=more.foldl (fun acc kv=>putK acc kv.1 kv.2) kvs
theorem KV.merge:∀ {more:List (Key × V)} {rs:List (Key × Value)} {kvs:List (Key × V)} {vs:List (Key × Value)},KV more rs → KV kvs vs → KV (O5 kvs more) (merged vs rs):=by
 intro more rs kvs vs r
 unfold KV at r
 induction r generalizing kvs vs with
 | nil=>intro q; exact q
 | @cons p q ps qs h t ih =>
  intro r0
  have e:KV (putK kvs p.1 p.2) (stored vs q.1 q.2):=by
   have:=r0.put p.1 h.2
   rw [← h.1]; exact this
  exact ih e
theorem MJ:∀ (more kvs:List (Key × V)),(O5 kvs more).length ≤ kvs.length + more.length
 | [],kvs=>by show kvs.length ≤ kvs.length + 0; omega
 | p :: r,kvs=>by
  have h1:=MJ r (putK kvs p.1 p.2)
  have h2:=HJ kvs p.1 p.2
  show (O5 (putK kvs p.1 p.2) r).length ≤ _
  rw [List.length_cons]; omega
theorem WO {P:Program} {w:World}:∀ {kvs:List (Key × V)} {ws:List (Value × Value)},VV (kvs.map fun kv=>(kV kv.1,kv.2)) ws → ∃ rs,Carries (fL P w) ws rs ∧ KV kvs rs
 | [],_,r=>by rw [List.map_nil] at r; cases r; exact ⟨[],True.intro,.nil⟩
 | p :: kvs,_,r=>by
  rw [List.map_cons] at r
  cases r with
  | @cons a b as bs h t =>
   obtain ⟨rs,c,q⟩:=WO (P:=P) (w:=w) t
   obtain ⟨b1,b2⟩:=b
   exact ⟨(p.1,b2) :: rs,⟨Ds h.1,rfl,c⟩,.cons ⟨rfl,h.2⟩ q⟩
noncomputable def aoj (U5:List (TE × TE)):TE:=fun σ H Q=>∀ p,H p = none → ab1 U5 σ (upd H p (.dK [])) fun ps H2=>H2 p = some (.dK []) ∧ ∃ kvs:List (Key × V),ps = kvs.map (fun kv=>(kV kv.1,kv.2)) ∧ kvs.length ≤ 15 ∧ Q (.ref p) (upd H2 p (.dK (O5 [] kvs)))
theorem alv {X:Cx} {pos:Pos} {keys:List (Option Expr)} {values:List Expr} {U5:List (TE × TE)} (h:PPs X pos keys values U5) (j4:keys.all (·.isSome) = true) (hl:keys.length = values.length) (h0:keys ≠ [])
  (h15:keys.length ≤ 15):PE X (.Dict keys values pos) (aoj U5):=by
 intro pins s σ H Q I q
 have hn:=I.bJ.fresh (Nat.le_refl s.heap.objs.size)
 have I1:=I.laid (a:=s.heap.objs.size) (o:=.dK []) (h':=s.heap.push { cls:=.type "dict",data:=.dict #[] }) (t':=s.toks) (fun _ _ q=>Heap.get?_push_of_some _ q) (Nat.le_refl _) (adX s.heap I.big)
 refine wpAny_Dict_walk (knd:=fL X.prog X.w) j4 hl h0 h15 (bR (h pins _ σ _ _ I1 (q _ hn)) fun ws s2 ⟨ps,H2,I2,rel,e,kvs,ep,lk,q2⟩=>?_)
 subst ep
 obtain ⟨rs,c,rk⟩:=WO (P:=X.prog) (w:=X.w) rel
 obtain ⟨z,hd,vs0,r0,dd⟩:=Wy I2.bJ e
 cases r0
 refine ⟨rs,c,dd,fun h' SR hs=>⟨.ref s.heap.objs.size,_,?_,rfl,q2⟩⟩
 have hz:(O5 [] kvs).length ≤ sizeLine:=by
  have h1:=MJ kvs []
  rw [List.length_nil] at h1
  rw [sizeLine_eq]; omega
 have he:∃ q,h'.get? s.heap.objs.size = some q:=let ⟨q,_,_,hq,_⟩:=SR; ⟨q,hq⟩
 exact RH I2 (by rw [e]; exact True.intro) hs he (adW hz hd (rk.merge .nil) SR)
structure M1 (X:Cx) (o:Expr) (m:Str) (apos:Pos) (e:Expr) (uY:Pos):Prop where
 base:attributeBase o m X.env (eval o X.env) = eval o X.env
 few:((backTo uY (starEach [e] X.env)).all (fun x=>!x.1) && (backToKw uY (keywordEach [] X.env)).all (fun x=>x.1.isSome)
  && decide (([e]:List Expr).length + ([]:List Keyword).length + (if ([]:List Keyword).isEmpty then 0 else 1) < 30)) = true
 line:(apos.endLine == uY.line) = true
 trees:backTo uY (starEach [e] X.env) = [(false,eval e X.env)]
noncomputable def IsD (H:Hp) (a:Addr):Prop:=(∃ kvs,Rd H a (.dK kvs)) ∨ ∃ kvs,Rd H a (.dT kvs)
theorem ani {X:Cx} {pins:List (Addr × Obj)} {σ:St} {H:Hp} {s:Shared} {a:Addr} (I:Inv X pins σ H s) (d:IsD H a) :
  s.TypeIs (.ref a) "dict" ∧ (∀ b,Value.ref a = .ref b → ∃ ob,s.heap.get? b = some ob ∧ ob.dict = none) ∧ (a == sysModules) = false:=by
 rcases d with ⟨kvs,e⟩ | ⟨kvs,e⟩
 ·obtain ⟨_,hd,vs,_,dd⟩:=L0 I.bJ e
  refine ⟨dd.typeIs,fun b q=>?_,hd⟩
  cases q
  obtain ⟨ob,_,_,h1,h2,_⟩:=dd
  exact ⟨ob,h1,h2.2.1⟩
 ·obtain ⟨_,hd,xs,_,dd⟩:=RG I.bJ e
  refine ⟨dd.typeIs,fun b q=>?_,hd⟩
  cases q
  obtain ⟨ob,_,_,h1,h2,_⟩:=dd
  exact ⟨ob,h1,h2.2.1⟩
noncomputable def amw (td ty:TE):TE:=fun σ H Q=>td σ H fun x H1=>∃ a,x = .ref a ∧ IsD H1 a ∧ ty σ H1 fun y H2=>∃ kvs k v,H2 a = some (.dK kvs) ∧ y = kV k ∧ iz kvs k = some v ∧ Q v (upd H2 a (.dK (LZ kvs k)))
section
variable {X:Cx} {o e f:Expr} {apos uY:Pos} {td ty tx:TE}
theorem ajK (ho:PE X o td) (he:PE X e ty) (m:M1 X o "pop" apos e uY):PE X (.Call (.Attribute o "pop" apos) [e] [] uY) (amw td ty):=by
 intro pins s σ H Q I h
 refine wpAny_Call_method m.base m.few m.line PySem.F.plainAttrs_dict PySem.F.slot_dict_pop PySem.F.type_dict_pop (bR (ho pins s σ H _ I h) fun u s1 ⟨x,H1,I1,rx,a,ex,d,q1⟩=>?_)
 subst ex
 obtain rfl:u = Value.ref a:=rx
 obtain ⟨t1,t2,_⟩:=ani I1 d
 refine ⟨t1,t2,?_⟩
 rw [m.trees]
 refine Calls.callWith_builtin rfl (Calls.evalArgs_plain (Calls.spliced_cons (bR (he pins s1 σ H1 _ I1 q1) fun iv s2 ⟨y,H2,I2,ry,kvs,k,v,ea,ey,l,q2⟩=>Calls.spliced_nil ?_)))
 subst ey
 exact aoR I2 ea ry l (.inl rfl) fun w' s3 I3 AK=>⟨v,_,I3,AK,q2⟩
end
end L2
namespace L2
open PySem PySem.Spec PyProof.Rows
end L2
namespace L2
open PySem PySem.Spec PyProof.Rows
section
variable {X:Cx} {pins:List (Addr × Obj)} {σ:St} {H:Hp} {s:Shared} {h':Heap}
theorem Inv.ahV {t':Nat} {ch:List Addr} {T:Addr} {ob:HO} (I:Inv X pins σ H s) (k:∀ b o,b ∉ ch → s.heap.get? b = some o → h'.get? b = some o) (hf:∀ b ∈ ch,FH X pins H b) (hT:s.heap.objs.size ≤ T)
  (new:gK X.prog X.w (upd H T ob) h' T ob):Inv X pins σ (upd H T ob) { s with heap:=h',toks:=t' }:=by
 have hn:H T = none:=I.bJ.fresh hT
 have nit:∀ b u,H b = some u → b ∉ ch:=fun b u e z=>by
  have q:=(hf b z).1
  rw [q] at e; cases e
 refine I.step (g':=s.gens) (d':=s.drawn) (ch:=ch) (fun b hb=>⟨(hf b hb).2.2.2.1,(hf b hb).2.1,(hf b hb).2.2.2.2.1,(hf b hb).2.2.2.2.2⟩) (fun b o _ _ hc e _=>k b o hc e) (fun b o _ _ hc e _=>⟨o.slots,k b o hc e⟩)
  (fun b o _ e n=>?_) (fun b o hc e=>⟨o,k b o hc e⟩) (fun b xs e=>?_) (fun b o u e=>?_) (fun b ps e=>⟨#[],?_⟩) (fun m hm=>?_) (fun b u e=>?_) I.bare
 ·rw [ak (Nat.ne_of_lt (Nat.lt_of_lt_of_le (Heap.lt_size e) hT))]; exact n
 ·rw [ak (ay e hn)]; exact e
 ·rw [ak (ay e hn)]; exact e
 ·rw [ak (ay e hn),e]; simp
 ·obtain ⟨o,es,ep,ho,r⟩:=hm
  exact ⟨o,es,ep,k _ o (fun z=>(hf _ z).2.1 rfl) ho,r⟩
 ·by_cases hb:b = T
  ·subst hb
   rw [ae] at e
   cases e
   exact new
  ·rw [ak hb] at e
   refine (I.bJ b u e).Xk (fun c v hc q=>k c v ?_ q) (fun c q=>by rw [ak (ay q hn)]; exact q) fun c xs q=>by rw [ak (ay q hn)]; exact q
   rcases hc with z | z
   ·rw [z]; exact nit b u e
   ·exact nit c _ z
end
theorem ajC {k:Key} {u:Value} (h:LJ k u = true):RelV (kV k) u:=by
 rcases iB h with ⟨i,t,rfl,rfl⟩ | ⟨x,t,rfl,rfl⟩
 ·exact ⟨t,rfl⟩
 ·exact ⟨t,rfl⟩
noncomputable def Ite (K:W.Frag) (a:Addr):It :=
 ⟨fun i H=>∃ (xs:List V) (x:V),aM K H a xs ∧ xs[i]? = some x,fun i H v H'=>∃ T x,v = .ref T ∧ H T = none ∧ H' = upd H T (.tup [.int (i:Nat),x]) ∧ ∀ xs,aM K H a xs → xs[i]? = some x,fun i H=>∃ xs:List V,aM K H a xs ∧ xs.length ≤ i⟩
theorem ahX {P:Program} {w:World} {K:W.Frag} {elts:List Expr} {kk:Nat} {Ti:Pos} (a e it:Addr) :
  Turn P w K (.Tuple elts kk Ti) (Ite K a) [e,it] e (fun i h=>(∃ old,IsEnum h e it ((i:Nat):Int) old) ∧ h.IsListIter it a i ∧ e ≠ it) where
 mem:=by simp
 obj:=fun i h st b hb=>by
  obtain ⟨⟨old,he⟩,⟨o,ho,hc,hd⟩,_⟩:=st
  have e':b = e ∨ b = it:=by simpa using hb
  rcases e' with z | z
  ·rw [z]; exact ⟨_,he,fun v q=>nomatch q⟩
  ·rw [z]; exact ⟨o,ho,fun v q=>by rw [hd] at q; cases q⟩
 keep:=fun i h h' st k=>let ⟨⟨old,he⟩,hi,Gn⟩:=st; ⟨⟨old,k e (by simp) _ he⟩,hi.at fun o q=>k it (by simp) o q,Gn⟩
 item:=by
  intro X hP hw hK hc i pins s σ H E I hf st hg
  subst hP hw hK
  obtain ⟨⟨old,he⟩,hit,Gn⟩:=st
  obtain ⟨xs,x,hq,hx⟩:=hg
  obtain ⟨aT,rv,p,hz⟩:=I.list hq
  obtain ⟨u,hu,ru⟩:=rv.get hx
  have hel:e < s.heap.objs.size:=Heap.lt_size he
  have hil:it < s.heap.objs.size:=by obtain ⟨_,q,_⟩:=hit; exact Heap.lt_size q
  refine wpAny_pyNext_enum_item he hit p.isList (x:=u) (by simpa using hu) Gn fun h' ho apX hT hsz hk=>?_
  refine ⟨_,rfl,wpAny_letOwnedTupleGo_enum (s:={ s with heap:=h',toks:=s.toks + 1 }) ho fun h'' he' sb=>?_⟩
  have hT2:h''.get? s.heap.objs.size = some { cls:=.type "tuple",data:=.seq #[.int i s.toks,u] }:=(sb.2 _ (Nat.ne_of_gt hel)).trans hT
  have new:gK X.prog X.w (upd H s.heap.objs.size (.tup [.int (i:Nat),x])) h'' s.heap.objs.size (.tup [.int (i:Nat),x]) :=
   ⟨by show 2 ≤ sizeLine; decide,[.int i s.toks,u],.cons ⟨_,rfl⟩ (.cons ru .nil),⟨_,hT2,rfl,_,rfl⟩⟩
  have I1:Inv X pins σ (upd H s.heap.objs.size (.tup [.int (i:Nat),x])) { s with heap:=h'',toks:=s.toks + 1 } :=
   I.ahV (ch:=[e,it]) (fun b ob hb q=>(sb.2 b (fun z=>hb (by simp [z]))).trans (hk b ob (fun z=>hb (by simp [z])) (fun z=>hb (by simp [z])) q)) hf (Nat.le_refl _) new
  refine ⟨.ref s.heap.objs.size,_,I1,rfl,⟨_,x,rfl,I.bJ.fresh (Nat.le_refl _),rfl,fun ys hy=>by rw [I.adf hy hq]; exact hx⟩,⟨⟨u,?_⟩,apX.at fun o q=>(sb.2 it (Ne.symm Gn)).trans q,Gn⟩,fun b hb=>?_⟩
  ·have e1:((i + 1:Nat):Int) = (i:Int) + 1:=by omega
   rw [e1]; exact he'
  ·have hb':b < s.heap.objs.size:=by
    have e':b = e ∨ b = it:=by simpa using hb
    rcases e' with z | z
    ·rw [z]; exact hel
    ·rw [z]; exact hil
   rw [ak (Nat.ne_of_lt hb')]
   exact (hf b hb).1
 done:=by
  intro X hP hw hK hc i pins s σ H E I hf st hg
  subst hP hw hK
  obtain ⟨⟨old,he⟩,hit,Gn⟩:=st
  obtain ⟨xs,hq,hx⟩:=hg
  obtain ⟨aT,rv,p,hz⟩:=I.list hq
  obtain ⟨f0,f1,f2,f3,f4,f5⟩:=hf it (by simp)
  have hl:=rv.length
  exact wpAny_pyNext_enum_end (I.ok.hd hc) he hit p.isList (by simp; omega) fun h' eb=>⟨rfl,I.turned (t':=s.toks) (fun b o hb q=>eb b o hb q) f0 f1 f3 f4 f5⟩
 self:=fun A i s Q E st h=>let ⟨⟨_,he⟩,_⟩:=st; wpAny_pyIter_enum he h
noncomputable def aoy (K:W.Frag) (ta:TA):TI:=fun σ H R=>ta σ H fun vs H1=>∃ a xs,vs = [.ref a] ∧ aM K H1 a xs ∧ R (Ite K a) H1
theorem alr {X:Cx} {e:Expr} {ta:TA} {p pos Ti:Pos} {elts:List Expr} {kk:Nat} (hg:Gl X "enumerate") (hm:X.mg "enumerate" = none) (ha:PA X [e] ta) (hs:starEach [e] X.env = [(false,eval e X.env)]:=by rfl) :
  PI X (.Tuple elts kk Ti) (.Call (.Name "enumerate" p) [e] [] pos) (aoy X.K ta):=by
 intro pins s σ H R I h
 refine Call_ (O8 I hg hm boot_enumerate (PyProof.Rows.callWith_type1 (bR (ha pos pins s σ H _ I h) fun us s1 ⟨vs,H1,I1,r1,q1⟩=>?_) hs rfl))
 obtain ⟨a,xs,ex,hq,q⟩:=q1
 subst ex
 cases r1 with
 | cons r rr =>
  cases rr
  cases r
  obtain ⟨aT,rv,p',hz⟩:=I1.list hq
  refine call_enumerate_list p'.isList fun h' he hit hsz hk=>wpAny_pyIter_enum he ?_
  have I2:Inv X pins σ H1 { s1 with heap:=h' }:=I1.kept (t':=s1.toks) hk
  refine ⟨s1.heap.objs.size + 1,[s1.heap.objs.size + 1,s1.heap.objs.size],_,_,H1,rfl,I2,ahX a (s1.heap.objs.size + 1) s1.heap.objs.size,⟨⟨.none,he⟩,hit,Nat.succ_ne_self _⟩,fun b hb=>?_,q⟩
  have e':b = s1.heap.objs.size + 1 ∨ b = s1.heap.objs.size:=by simpa using hb
  have hle:s1.heap.objs.size ≤ b:=by
   rcases e' with z | z
   ·rw [z]; exact Nat.le_add_right _ _
   ·rw [z]; exact Nat.le_refl _
  exact I1.adQ hle (I1.bJ.fresh hle)
end L2
section
namespace Bits
open PySem PyProof.Rows
end Bits
end
section
namespace TL
open PySem PySem.Builtin PySem.Builtin.Str PySem.StrLaws
end TL
end
namespace L2
open PySem PySem.Spec PyProof.Rows
end L2
namespace L2
open PySem PySem.Spec PyProof.Rows
end L2
namespace Att
open PySem PySem.W PySem.Calls PyProof.Rows
end Att
namespace L2
open PySem PySem.Spec PyProof.Rows
end L2
namespace L2
open PySem PySem.Spec PyProof.Rows
end L2
namespace L2
open PySem PySem.Spec PyProof.Rows
noncomputable def inClass (s:Stmt) (j:Nat):Stmt:=match s with
 | .ClassDef _ _ _ body _ _ _ _ _ _ _=>body.getD j (.Pass ⟨0,0,0,0⟩)
 | _=>.Pass ⟨0,0,0,0⟩
noncomputable def zL (s:Stmt):Arguments:=match s with
 | .FunctionDef _ a _ _ _ _ _ _ _ _=>a
 | _=>{ posonlyargs:=[],args:=[],vararg:=none,kwonlyargs:=[],kw_defaults:=[],kwarg:=none,defaults:=[] }
noncomputable def aI (s:Stmt):List Stmt:=match s with
 | .FunctionDef _ _ b _ _ _ _ _ _ _=>b
 | _=>[]
noncomputable def ah (s:Stmt):Scope:=match s with
 | .FunctionDef _ _ _ _ _ _ sc _ _ _=>sc
 | _=>{ kind:=.function,names:=[],isGenerator:=false,isCoroutine:=false }
noncomputable abbrev aC:KR:=fun _ _ _ _ _ _=>False
noncomputable abbrev E0:XK:=fun _ _ _=>False
theorem aO {X:Cx}:Passes aC X E0:=fun _ _ _ _ _ _ _ h=>h.elim
structure cI (K:W.Frag) (x qual:Str) (st:Stmt) (f:Addr) (fd:FuncData):Prop where
 ex:∃ (oc:Value) (od:Option Addr) (kV doc pm:Value) (an:Option Addr) (au ct:Value) (MH:Array (Option Value)),
  fd = W.fnOf x qual (zL st) (aI st) (ah st) .none kV doc pm an au ct ∧ K.lookup f = some ⟨oc,od,.func fd,MH⟩ ∧ W.codeIn K au qual = true
 kp:W.keepIn K (.ref f) = true
section
variable {P:Program} {w:World} {K:W.Frag} {mg:Str → Option Value} {base:Heap}
theorem cI.ok {x qual:Str} {st:Stmt} {f:Addr} {fd:FuncData} {N ps:List Str} {k:Nat} {sp:Sp} (F:cI K x qual st f fd) (S:aJ N ps (ah st)) (len:∀ vs H Q E,sp vs H Q E → vs.length = ps.length)
  (Wo:∀ (au:Value) (A:Around) (outer:List Env) (s:Shared) (H:Hp) (vs:List V) (Q:VK) (E:XK),aX k (A.deeper (envOfC qual (ah st) s.heap.objs.size f au)) → sp vs H Q E →
   ∃ t,cg (bC aC P w K mg base N qual (ah st) f au A outer s H E).cD (aI st) t ∧ t { nx:=fun _ H'=>Q .bL H',rt:=Q } (start N vs) H):aD P w K mg base aC (k + 1) f fd ps sp:=by
 obtain ⟨oc,od,kV,doc,pm,an,au,ct,MH,rfl,lk,MX⟩:=F.ex
 refine akR lk MX S len fun A outer s H vs Q E hr MU=>?_
 obtain ⟨t,h,q⟩:=Wo au A outer s H vs Q E hr MU
 exact ⟨t,h.cD,q⟩
theorem cI.binds {x qual:Str} {st:Stmt} {f:Addr} {fd:FuncData} {ps:List Str} (F:cI K x qual st f fd)
  (h:∀ (kV doc pm:Value) (an:Option Addr) (au ct:Value) (us:List Value),us.length = ps.length → bindArgs (W.fnOf x qual (zL st) (aI st) (ah st) .none kV doc pm an au ct) ⟨us,[]⟩ = pure (ps.zip us)):Binds K fd ps []:=by
 obtain ⟨oc,od,kV,doc,pm,an,au,ct,MH,rfl,lk,MX⟩:=F.ex
 exact .all (h kV doc pm an au ct)
theorem aS {x qual:Str} {st:Stmt} {f:Addr} {oc:Value} {od an:Option Addr} {MH:Array (Option Value)} {kV doc pm au ct:Value} (l:K.lookup f = some ⟨oc,od,.func (W.fnOf x qual (zL st) (aI st) (ah st) .none kV doc pm an au ct),MH⟩)
  (c:W.codeIn K au qual = true) (k:W.keepIn K (.ref f) = true):cI K x qual st f (W.fnOf x qual (zL st) (aI st) (ah st) .none kV doc pm an au ct):=⟨⟨oc,od,kV,doc,pm,an,au,ct,MH,rfl,l,c⟩,k⟩
end
theorem qo {A:Around} {k:Nat} (hr:aX k A):A.units + 1 < cLine:=Nat.lt_of_le_of_lt (Nat.add_le_add_left (by decide:1 ≤ 64) _) hr.units
section
variable {X:Cx}
theorem pv (i:Nat) {x:Str} {pos:Pos} (hN:X.N[i]? = some x:=by rfl) (hv:Vis X.env.scope x:=by first | exact Or.inl rfl | exact Or.inr (Or.inl rfl) | exact Or.inr (Or.inr rfl)) (hd:(x == ("__debug__":Str)) = false:=by decide)
  (MX:(x == ("__classdict__":Str)) = false:=by decide):PE X (.Name x pos) (amu i):=amM hN hv hd MX
theorem Bo:Dv X (.builtin "len") (fun xs H Q=>∃ a kvs,xs = [V.ref a] ∧ H a = some (.dK kvs) ∧ Q (.int kvs.length) H):=by
 intro pins s σ H xs us Q I r h
 obtain ⟨a,kvs,rfl,ha,q⟩:=h
 obtain ⟨u,rfl,ru⟩:=vals1 r
 cases ru
 exact aoS I (.inl ha) fun t s' I'=>⟨.int kvs.length,H,I',⟨t,rfl⟩,q⟩
end
theorem uS {A B:Prop} (h:B):if false = true then A else B:=by
 rw [if_neg Bool.false_ne_true]
 exact h
theorem l7 {A B:Prop} (h:A):if true = true then A else B:=by
 rw [if_pos rfl]
 exact h
theorem aZ {c A B:Prop} [Decidable c] (h1:c → A) (h2:¬ c → B):if c then A else B:=by
 by_cases h:c
 ·rw [if_pos h]
  exact h1 h
 ·rw [if_neg h]
  exact h2 h
noncomputable def aH (H H':Hp):Prop:=∀ b o,H b = some o → H' b = some o
theorem aH.trans {H H1 H2:Hp} (a:aH H H1) (b:aH H1 H2):aH H H2:=fun c o h=>b c o (a c o h)
theorem aH.free {H H':Hp} (e:aH H H') {l:Addr} (h:H' l = Option.none):H l = Option.none:=by
 cases q:H l with
 | none=>rfl
 | some o =>
  rw [e l o q] at h
  cases h
theorem aH.seq {K:W.Frag} {H H':Hp} {a:Addr} {xs:List V} (e:aH H H') (h:aM K H a xs):aM K H' a xs:=by
 rcases h with (h | ⟨o,h⟩) | h
 ·exact .inl (.inl (e _ _ h))
 ·exact .inl (.inr ⟨o,e _ _ h⟩)
 ·exact .inr h
theorem at_of {xs:List V} {z:Int} {j:Nat} {v:V} (e:z = (j:Int)) (h:xs[j]? = some v):Tc xs z = some v:=by
 rw [e]
 exact gP h
theorem ahf {α:Type} {l:List α} (hN:l.Nodup) {i j:Nat} {x:α} (a:l[i]? = some x) (b:l[j]? = some x):i = j:=by
 obtain ⟨h1,e1⟩:=List.getElem?_eq_some_iff.mp a
 obtain ⟨h2,e2⟩:=List.getElem?_eq_some_iff.mp b
 exact (List.getElem_inj hN).mp (e1.trans e2.symm)
end L2
section
namespace L2
open PySem PySem.Spec PyProof.Rows
open PySem.W (WData Codec OpenSpec Well WellAll ReadsW ReadsAllW)
mutual
inductive Dw (K:W.Frag) (H:Hp):V → WData → Prop
 | bL:Dw K H .bL .none
 | bl (b:Bool):Dw K H (.bl b) (.bool b)
 | int (i:Int):Dw K H (.int i) (.int i)
 | str (x:Str):Dw K H (.str x) (.str x)
 | yN (b:Array UInt8):Dw K H (.yN b) (.bytes b.toList)
 | lst {a:Addr} {xs:List V} {ds:List WData}:aM K H a xs → uD K H xs ds → Dw K H (.ref a) (.list ds)
 | tup {a:Addr} {xs:List V} {ds:List WData}:j0 K H a xs → uD K H xs ds → Dw K H (.ref a) (.tuple ds)
inductive uD (K:W.Frag) (H:Hp):List V → List WData → Prop
 | nil:uD K H [] []
 | cons {v:V} {vs:List V} {d:WData} {ds:List WData}:Dw K H v d → uD K H vs ds → uD K H (v :: vs) (d :: ds)
end
theorem afW {K:W.Frag} {H:Hp}:∀ ns:List Int,uD K H (ns.map V.int) (ns.map WData.int)
 | []=>.nil
 | n :: r=>.cons (.int n) (afW r)
theorem afS {K:W.Frag} {H:Hp}:∀ (ns:List Int) (xs:List V),uD K H xs (ns.map WData.int) → xs = ns.map V.int
 | [],xs,h=>by
  cases h
  rfl
 | n :: r,xs,h=>by
  cases h with
  | cons h1 h2 =>
   cases h1
   rw [afS r _ h2] <;> rfl
section
variable {P:Program} {w:World} {K:W.Frag} {H:Hp} {h:Heap} {R:W.WRecords} {cl:Str → Option Addr}
theorem amA {a:Addr} {xs:List V} (bJ:jC P w H h) (KX:K.In h) (q:aM K H a xs):∃ (aT:List Value) (o:Obj) (n:Nat),Vals xs aT ∧ h.get? a = some o ∧ o.cls = .type "list" ∧ o.data = .seq aT.toArray n:=by
 rcases q with q | ⟨o,aT,n,e,hc,_,hd,_,hv⟩
 ·obtain ⟨_,aT,n,hv,e⟩:=(show gK P w H h a (.lst xs) from q.ok bJ)
  exact ⟨aT,_,n,hv,e,rfl,rfl⟩
 ·exact ⟨aT.toList,o,n,hv,KX _ _ e,hc,by simp [hd]⟩
theorem amz {a:Addr} {xs:List V} (bJ:jC P w H h) (KX:K.In h) (q:j0 K H a xs):∃ (aT:List Value) (o:Obj) (n:Nat),Vals xs aT ∧ h.get? a = some o ∧ o.cls = .type "tuple" ∧ o.data = .seq aT.toArray n:=by
 rcases q with q | ⟨o,aT,n,e,hc,hd,_,hv⟩
 ·obtain ⟨_,aT,hv,o,e,hc,n,hd⟩:=(show gK P w H h a (.tup xs) from q.ok bJ)
  exact ⟨aT,o,n,hv,e,hc,hd⟩
 ·exact ⟨aT.toList,o,n,hv,KX _ _ e,hc,by simp [hd]⟩
mutual
theorem Dw.reads (bJ:jC P w H h) (KX:K.In h):∀ (d:WData) (v:V) (u:Value),Dw K H v d → RelV v u → ∃ as,ReadsW R cl h u d as
 | .none,_,_,x,r=>by
  cases x
  cases r
  exact ⟨_,ReadsW.none⟩
 | .bool b,_,_,x,r=>by
  cases x
  cases r
  exact ⟨_,ReadsW.bool b⟩
 | .int i,_,_,x,r=>by
  cases x
  obtain ⟨t,rfl⟩:=r
  exact ⟨_,ReadsW.int i t⟩
 | .str s,_,_,x,r=>by
  cases x
  obtain ⟨t,rfl⟩:=r
  exact ⟨_,ReadsW.str s t⟩
 | .bytes b,_,_,x,r=>by
  cases x
  obtain ⟨t,rfl⟩:=r
  exact ⟨_,ReadsW.bytes _ t⟩
 | .list ds,_,_,x,r=>by
  cases x with
  | lst hs ha =>
   cases r
   obtain ⟨aT,o,n,rv,ho,hc,hd⟩:=amA bJ KX hs
   obtain ⟨as,hr⟩:=Dw.readsAll bJ KX ds _ aT ha rv
   exact ⟨_,ReadsW.list ho hc hd hr⟩
 | .tuple ds,_,_,x,r=>by
  cases x with
  | tup hs ha =>
   cases r
   obtain ⟨aT,o,n,rv,ho,hc,hd⟩:=amz bJ KX hs
   obtain ⟨as,hr⟩:=Dw.readsAll bJ KX ds _ aT ha rv
   exact ⟨_,ReadsW.tuple ho hc hd hr⟩
 | .float _,_,_,x,_=>by cases x
 | .dict _,_,_,x,_=>by cases x
 | .bytearray _,_,_,x,_=>by cases x
 | .set _,_,_,x,_=>by cases x
 | .frozenset _,_,_,x,_=>by cases x
 | .obj _ _,_,_,x,_=>by cases x
theorem Dw.readsAll (bJ:jC P w H h) (KX:K.In h):∀ (ds:List WData) (vs:List V) (us:List Value),uD K H vs ds → Vals vs us → ∃ as,ReadsAllW R cl h us ds as
 | [],_,_,x,r=>by
  cases x
  cases r
  exact ⟨_,ReadsAllW.nil⟩
 | d :: ds,_,_,x,r=>by
  cases x with
  | cons h1 h2 =>
   cases r with
   | cons r1 r2 =>
    obtain ⟨as,q1⟩:=Dw.reads bJ KX d _ _ h1 r1
    obtain ⟨bs,q2⟩:=Dw.readsAll bJ KX ds _ _ h2 r2
    exact ⟨_,ReadsAllW.cons q1 q2⟩
end
end
mutual
noncomputable def F8:WData → Bool
 | .none=>true
 | .bool _=>true
 | .int _=>true
 | .str _=>true
 | .bytes _=>true
 | .list xs=>BF xs
 | .tuple xs=>BF xs
 | _=>false
noncomputable def BF:List WData → Bool
 | []=>true
 | x :: r=>F8 x && BF r
end
theorem acD {α:Type} {f:α → WData} (h:∀ a,F8 (f a) = true):∀ l:List α,BF (l.map f) = true
 | []=>rfl
 | x :: r=>by
  show (F8 (f x) && BF (r.map f)) = true
  rw [h x,acD h r] <;> rfl
theorem AQ:∀ (c:Codec) (a:c.denote),F8 (c.enc a) = true
 | .unit,_=>rfl
 | .bool,_=>rfl
 | .int _ _,_=>rfl
 | .nat _ _,_=>rfl
 | .u8,_=>rfl
 | .bytes _ _,_=>rfl
 | .text _ _ _ _,_=>rfl
 | .list _ _ c,a=>acD (fun x=>AQ c x) a
 | .pair c d,a=>by
  show (F8 (c.enc a.1) && (F8 (d.enc a.2) && true)) = true
  rw [AQ c a.1,AQ d a.2] <;> rfl
 | .triple c d e,a=>by
  show (F8 (c.enc a.1) && (F8 (d.enc a.2.1) && (F8 (e.enc a.2.2) && true))) = true
  rw [AQ c a.1,AQ d a.2.1,AQ e a.2.2] <;> rfl
 | .option c,none=>rfl
 | .option c,some x=>AQ c x
theorem ZA:∀ (cs:List Codec) (a:Codec.denoteAll cs),BF (Codec.encAll cs a) = true
 | [],_=>rfl
 | c :: cs,a=>by
  show (F8 (c.enc a.1) && BF (Codec.encAll cs a.2)) = true
  rw [AQ c a.1,ZA cs a.2] <;> rfl
theorem KS:∀ {xs:List WData} {d:WData},d ∈ xs → d.weight ≤ WData.weightAll xs
 | [],d,h=>absurd h (by simp)
 | x :: r,d,h=>by
  show d.weight ≤ x.weight + 1 + WData.weightAll r
  rcases List.mem_cons.mp h with e | m
  ·rw [e]
   omega
  ·have z:=KS m
   omega
noncomputable def toV:Value → V
 | .none=>.bL
 | .bool b=>.bl b
 | .int i _=>.int i
 | .str x _=>.str x
 | .bytes b _=>.yN b
 | .ref a=>.ref a
 | _=>.bL
noncomputable def KJ (A:List Addr):Value → Prop
 | .none=>True
 | .bool _=>True
 | .int _ _=>True
 | .str _ _=>True
 | .bytes _ _=>True
 | .ref a=>a ∈ A
 | _=>False
theorem KJ.mono {A B:List Addr} (h:∀ a ∈ A,a ∈ B):∀ {u:Value},KJ A u → KJ B u:=fun {u} x=>by
 cases u with
 | ref a=>exact h a x
 | none=>trivial
 | bool b=>trivial
 | int i t=>trivial
 | str s t=>trivial
 | bytes b t=>trivial
 | _=>exact False.elim x
theorem ajB {A:List Addr} {u:Value} (x:KJ A u):RelV (toV u) u:=by
 cases u with
 | ref a=>rfl
 | none=>rfl
 | bool b=>rfl
 | int i t=>exact ⟨t,rfl⟩
 | str s t=>exact ⟨t,rfl⟩
 | bytes b t=>exact ⟨t,rfl⟩
 | _=>exact False.elim x
theorem yW {A:List Addr}:∀ {vs:List Value},(∀ u ∈ vs,KJ A u) → Vals (vs.map toV) vs
 | [],_=>.nil
 | u :: r,h=>.cons (ajB (h u (List.mem_cons_self ..))) (yW fun x hx=>h x (List.mem_cons_of_mem _ hx))
noncomputable def uE (h:Heap) (A:List Addr) (a:Addr):Prop:=∃ vs:List Value,vs.length ≤ sizeLine ∧ (∀ u ∈ vs,KJ A u) ∧
 (h.get? a = some { cls:=.type "list",data:=.seq vs.toArray } ∨ h.get? a = some { cls:=.type "tuple",data:=.seq vs.toArray })
theorem uE.mono {h:Heap} {A B:List Addr} {a:Addr} (k:∀ a ∈ A,a ∈ B) (x:uE h A a):uE h B a:=by
 obtain ⟨vs,h1,h2,h3⟩:=x
 exact ⟨vs,h1,fun u hu=>(h2 u hu).mono k,h3⟩
theorem Ai {P:Params} {h:Heap}:∀ {vs:List Value} {ds:List WData},WellAll P h vs ds → vs.length = ds.length
 | _,_,.nil=>rfl
 | _,_,.cons _ b=>by
  show _ + 1 = _ + 1
  rw [Ai b]
theorem Zp {P:Params} {h:Heap} {v:Value} {ds:List WData} (x:Well P h v (.list ds)):∃ (a:Addr) (vs:List Value),v = .ref a ∧ h.get? a = some { cls:=.type "list",data:=.seq vs.toArray } ∧ WellAll P h vs ds:=by
 cases x with
 | list ho j4=>exact ⟨_,_,rfl,ho,j4⟩
theorem U4 {P:Params} {h:Heap} {v:Value} {ds:List WData} (x:Well P h v (.tuple ds)):∃ (a:Addr) (vs:List Value),v = .ref a ∧ h.get? a = some { cls:=.type "tuple",data:=.seq vs.toArray } ∧ WellAll P h vs ds:=by
 cases x with
 | tuple ho j4=>exact ⟨_,_,rfl,ho,j4⟩
theorem Zq {P:Params} {h:Heap} {us:List Value} {d:WData} {ds:List WData} (x:WellAll P h us (d :: ds)):∃ (v:Value) (vs:List Value),us = v :: vs ∧ Well P h v d ∧ WellAll P h vs ds:=by
 cases x with
 | cons a b=>exact ⟨_,_,rfl,a,b⟩
theorem afK {n:Nat} (h:n ≤ 1048576):n ≤ sizeLine:=Nat.le_trans h (by decide)
section
variable {P:Params} {h:Heap}
mutual
theorem aku:∀ (d:WData) (v:Value),Well P h v d → F8 d = true → d.weight ≤ 1048576 → ∃ A:List Addr,KJ A v ∧ ∀ a ∈ A,uE h A a
 | .none,_,x,_,_=>by
  cases x
  exact ⟨[],trivial,fun a m=>absurd m (by simp)⟩
 | .bool b,_,x,_,_=>by
  cases x
  exact ⟨[],trivial,fun a m=>absurd m (by simp)⟩
 | .int i,_,x,_,_=>by
  cases x
  exact ⟨[],trivial,fun a m=>absurd m (by simp)⟩
 | .str s,_,x,_,_=>by
  cases x
  exact ⟨[],trivial,fun a m=>absurd m (by simp)⟩
 | .bytes b,_,x,_,_=>by
  cases x
  exact ⟨[],trivial,fun a m=>absurd m (by simp)⟩
 | .list ds,_,x,p,z=>by
  obtain ⟨a,vs,rfl,ho,j4⟩:=Zp x
  have z2:WData.weightAll ds ≤ 1048576:=z
  obtain ⟨A,h1,h2⟩:=Mi ds _ j4 p fun d hd=>Nat.le_trans (KS hd) z2
  have k:∀ b ∈ A,b ∈ a :: A:=fun b hb=>List.mem_cons_of_mem _ hb
  refine ⟨a :: A,List.mem_cons_self ..,fun b hb=>?_⟩
  rcases List.mem_cons.mp hb with e | m
  ·rw [e]
   exact ⟨vs,afK (by rw [Ai j4]; exact Nat.le_trans (W.length_le_weightAllW ds) z2),fun u hu=>(h1 u hu).mono k,.inl ho⟩
  ·exact (h2 b m).mono k
 | .tuple ds,_,x,p,z=>by
  obtain ⟨a,vs,rfl,ho,j4⟩:=U4 x
  have z2:WData.weightAll ds ≤ 1048576:=z
  obtain ⟨A,h1,h2⟩:=Mi ds _ j4 p fun d hd=>Nat.le_trans (KS hd) z2
  have k:∀ b ∈ A,b ∈ a :: A:=fun b hb=>List.mem_cons_of_mem _ hb
  refine ⟨a :: A,List.mem_cons_self ..,fun b hb=>?_⟩
  rcases List.mem_cons.mp hb with e | m
  ·rw [e]
   exact ⟨vs,afK (by rw [Ai j4]; exact Nat.le_trans (W.length_le_weightAllW ds) z2),fun u hu=>(h1 u hu).mono k,.inr ho⟩
  ·exact (h2 b m).mono k
 | .float _,_,_,p,_=>Bool.noConfusion (show false = true from p)
 | .dict _,_,_,p,_=>Bool.noConfusion (show false = true from p)
 | .bytearray _,_,_,p,_=>Bool.noConfusion (show false = true from p)
 | .set _,_,_,p,_=>Bool.noConfusion (show false = true from p)
 | .frozenset _,_,_,p,_=>Bool.noConfusion (show false = true from p)
 | .obj _ _,_,_,p,_=>Bool.noConfusion (show false = true from p)
theorem Mi:∀ (ds:List WData) (vs:List Value),WellAll P h vs ds → BF ds = true → (∀ d ∈ ds,d.weight ≤ 1048576) → ∃ A:List Addr,(∀ u ∈ vs,KJ A u) ∧ ∀ a ∈ A,uE h A a
 | [],_,x,_,_=>by
  cases x
  exact ⟨[],fun u m=>absurd m (by simp),fun a m=>absurd m (by simp)⟩
 | d :: ds,_,x,p,z=>by
  obtain ⟨v,vs,rfl,x1,x2⟩:=Zq x
  have q:F8 d = true ∧ BF ds = true:=Bool.and_eq_true_iff.mp p
  obtain ⟨A,a1,a2⟩:=aku d v x1 q.1 (z d (List.mem_cons_self ..))
  obtain ⟨B,b1,b2⟩:=Mi ds vs x2 q.2 fun e he=>z e (List.mem_cons_of_mem _ he)
  have kA:∀ b ∈ A,b ∈ A ++ B:=fun b hb=>List.mem_append.mpr (.inl hb)
  have kB:∀ b ∈ B,b ∈ A ++ B:=fun b hb=>List.mem_append.mpr (.inr hb)
  refine ⟨A ++ B,fun u hu=>?_,fun b hb=>?_⟩
  ·rcases List.mem_cons.mp hu with e | m
   ·rw [e]
    exact a1.mono kA
   ·exact (b1 u m).mono kB
  ·rcases List.mem_append.mp hb with m | m
   ·exact (a2 b m).mono kA
   ·exact (b2 b m).mono kB
end
end
noncomputable def ahv (o:Obj):Option HO:=match o.data with
 | .seq vs _=>if (o.cls == Value.type "list") = true then some (.xA o (.lst (vs.toList.map toV))) else some (.xA o (.tup (vs.toList.map toV)))
 | _=>none
noncomputable def o6 (K:W.Frag) (h:Heap) (A:List Addr):Hp:=fun b=>if b ∈ A then (if (K.lookup b).isNone = true then (h.get? b).bind ahv else none) else none
noncomputable def W5 (H:Hp):Prop:=∀ b,H b = none ∨ ∃ o u,H b = some (.xA o u)
theorem adJ (vs:List Value):ahv { cls:=.type "list",data:=.seq vs.toArray } = some (.xA { cls:=.type "list",data:=.seq vs.toArray } (.lst (vs.map toV))):=by
 show (if (Value.type "list" == Value.type "list") = true then some (HO.xA { cls:=.type "list",data:=.seq vs.toArray } (.lst (vs.toArray.toList.map toV))) else some (HO.xA { cls:=.type "list",data:=.seq vs.toArray } (.tup (vs.toArray.toList.map toV)))) = _
 rw [if_pos (beq_self_eq_true _)]
theorem adI (vs:List Value):ahv { cls:=.type "tuple",data:=.seq vs.toArray } = some (.xA { cls:=.type "tuple",data:=.seq vs.toArray } (.tup (vs.map toV))):=by
 show (if (Value.type "tuple" == Value.type "list") = true then some (HO.xA { cls:=.type "tuple",data:=.seq vs.toArray } (.lst (vs.toArray.toList.map toV))) else some (HO.xA { cls:=.type "tuple",data:=.seq vs.toArray } (.tup (vs.toArray.toList.map toV)))) = _
 rw [if_neg (by decide)]
section
variable {P:Program} {w:World} {K:W.Frag} {h:Heap} {A:List Addr}
theorem RL {b:Addr} {o:Obj} (hb:b ∈ A) (hk:K.lookup b = none) (e:h.get? b = some o):o6 K h A b = ahv o:=by
 unfold o6
 rw [if_pos hb,hk,if_pos (show (none:Option Obj).isNone = true from rfl),e] <;> rfl
theorem alE {b:Addr} {u:HO} (q:o6 K h A b = some u):b ∈ A ∧ K.lookup b = none:=by
 unfold o6 at q
 by_cases hb:b ∈ A
 ·rw [if_pos hb] at q
  cases hk:K.lookup b with
  | none=>exact ⟨hb,rfl⟩
  | some o =>
   rw [hk,if_neg (by simp)] at q
   cases q
 ·rw [if_neg hb] at q
  cases q
theorem RK (ar:∀ a ∈ A,uE h A a) {b:Addr} {u:HO} (q:o6 K h A b = some u):K.lookup b = none ∧ ∃ vs:List Value,vs.length ≤ sizeLine ∧ (∀ u ∈ vs,KJ A u) ∧
  ((h.get? b = some { cls:=.type "list",data:=.seq vs.toArray } ∧ u = .xA { cls:=.type "list",data:=.seq vs.toArray } (.lst (vs.map toV))) ∨
   (h.get? b = some { cls:=.type "tuple",data:=.seq vs.toArray } ∧ u = .xA { cls:=.type "tuple",data:=.seq vs.toArray } (.tup (vs.map toV)))):=by
 obtain ⟨hb,hk⟩:=alE q
 obtain ⟨vs,h1,h2,h3⟩:=ar b hb
 refine ⟨hk,vs,h1,h2,?_⟩
 rcases h3 with e | e
 ·rw [RL hb hk e,adJ] at q
  exact .inl ⟨e,(Option.some.inj q).symm⟩
 ·rw [RL hb hk e,adI] at q
  exact .inr ⟨e,(Option.some.inj q).symm⟩
theorem ai3 (ar:∀ a ∈ A,uE h A a):W5 (o6 K h A):=fun b=>by
 cases q:o6 K h A b with
 | none=>exact .inl rfl
 | some u =>
  obtain ⟨_,vs,_,_,⟨_,e⟩ | ⟨_,e⟩⟩:=RK ar q
  ·exact .inr ⟨_,_,by rw [e]⟩
  ·exact .inr ⟨_,_,by rw [e]⟩
theorem al6 (ar:∀ a ∈ A,uE h A a):jC P w (o6 K h A) h:=fun b u q=>by
 obtain ⟨_,vs,h1,h2,⟨e,rfl⟩ | ⟨e,rfl⟩⟩:=RK ar q
 ·exact ⟨e,by rw [List.length_map]; exact h1,vs,_,yW h2,e⟩
 ·exact ⟨e,by rw [List.length_map]; exact h1,vs,yW h2,_,e,rfl,_,rfl⟩
theorem Rv {c c':Value} {vs us:List Value} (e:(some { cls:=c,data:=.seq vs.toArray }:Option Obj) = some { cls:=c',data:=.seq us.toArray }):c = c' ∧ vs = us:=by
 have e1:=Option.some.inj e
 have e2:c = c':=congrArg Obj.cls e1
 have e3:Data.seq vs.toArray = Data.seq us.toArray:=congrArg Obj.data e1
 injection e3 with e4
 refine ⟨e2,?_⟩
 have e5:=congrArg Array.toList e4
 simpa using e5
theorem aql (KX:K.In h) (ar:∀ a ∈ A,uE h A a) {a:Addr} {vs:List Value} (ha:a ∈ A) (e:h.get? a = some { cls:=.type "list",data:=.seq vs.toArray }):(∀ u ∈ vs,KJ A u) ∧ aM K (o6 K h A) a (vs.map toV):=by
 obtain ⟨us,h1,h2,h3⟩:=ar a ha
 have hu:us = vs:=by
  rcases h3 with q | q
  ·rw [e] at q
   exact (Rv q).2.symm
  ·rw [e] at q
   exact absurd (Value.type.inj (Rv q).1) (by decide)
 subst hu
 refine ⟨h2,?_⟩
 cases hk:K.lookup a with
 | none=>exact .inl (.inr ⟨_,by rw [RL ha hk e,adJ]⟩)
 | some o =>
  have e2:=KX a o hk
  rw [e] at e2
  obtain rfl:=Option.some.inj e2
  exact .inr ⟨_,us.toArray,_,hk,rfl,rfl,rfl,by rw [List.size_toArray]; exact h1,by simpa using yW h2⟩
theorem aqk (KX:K.In h) (ar:∀ a ∈ A,uE h A a) {a:Addr} {vs:List Value} (ha:a ∈ A) (e:h.get? a = some { cls:=.type "tuple",data:=.seq vs.toArray }):(∀ u ∈ vs,KJ A u) ∧ j0 K (o6 K h A) a (vs.map toV):=by
 obtain ⟨us,h1,h2,h3⟩:=ar a ha
 have hu:us = vs:=by
  rcases h3 with q | q
  ·rw [e] at q
   exact absurd (Value.type.inj (Rv q).1) (by decide)
  ·rw [e] at q
   exact (Rv q).2.symm
 subst hu
 refine ⟨h2,?_⟩
 cases hk:K.lookup a with
 | none=>exact .inl (.inr ⟨_,by rw [RL ha hk e,adI]⟩)
 | some o =>
  have e2:=KX a o hk
  rw [e] at e2
  obtain rfl:=Option.some.inj e2
  exact .inr ⟨_,us.toArray,_,hk,rfl,rfl,by rw [List.size_toArray]; exact h1,by simpa using yW h2⟩
mutual
theorem anE {Pm:Params} (KX:K.In h) (ar:∀ a ∈ A,uE h A a):∀ (d:WData) (v:Value),Well Pm h v d → F8 d = true → KJ A v → Dw K (o6 K h A) (toV v) d
 | .none,_,x,_,_=>by
  cases x
  exact .bL
 | .bool b,_,x,_,_=>by
  cases x
  exact .bl b
 | .int i,_,x,_,_=>by
  cases x
  exact .int i
 | .str s,_,x,_,_=>by
  cases x
  exact .str s
 | .bytes b,_,x,_,_=>by
  cases x
  have z:=Dw.yN (K:=K) (H:=o6 K h A) b.toArray
  exact z
 | .list ds,_,x,p,hu=>by
  obtain ⟨a,vs,rfl,ho,j4⟩:=Zp x
  obtain ⟨h2,hs⟩:=aql KX ar hu ho
  exact .lst hs (Wx KX ar ds _ j4 p h2)
 | .tuple ds,_,x,p,hu=>by
  obtain ⟨a,vs,rfl,ho,j4⟩:=U4 x
  obtain ⟨h2,hs⟩:=aqk KX ar hu ho
  exact .tup hs (Wx KX ar ds _ j4 p h2)
 | .float _,_,_,p,_=>Bool.noConfusion (show false = true from p)
 | .dict _,_,_,p,_=>Bool.noConfusion (show false = true from p)
 | .bytearray _,_,_,p,_=>Bool.noConfusion (show false = true from p)
 | .set _,_,_,p,_=>Bool.noConfusion (show false = true from p)
 | .frozenset _,_,_,p,_=>Bool.noConfusion (show false = true from p)
 | .obj _ _,_,_,p,_=>Bool.noConfusion (show false = true from p)
theorem Wx {Pm:Params} (KX:K.In h) (ar:∀ a ∈ A,uE h A a):∀ (ds:List WData) (vs:List Value),WellAll Pm h vs ds → BF ds = true → (∀ u ∈ vs,KJ A u) → uD K (o6 K h A) (vs.map toV) ds
 | [],_,x,_,_=>by
  cases x
  exact .nil
 | d :: ds,_,x,p,hu=>by
  obtain ⟨v,vs,rfl,x1,x2⟩:=Zq x
  have q:F8 d = true ∧ BF ds = true:=Bool.and_eq_true_iff.mp p
  exact .cons (anE KX ar d v x1 q.1 (hu _ (List.mem_cons_self ..))) (Wx KX ar ds vs x2 q.2 fun u m=>hu u (List.mem_cons_of_mem _ m))
end
end
theorem ah7 {P:Program} {w:World} {K:W.Frag} {mg mb:Str → Option Value} {CX:KR} {k:Nat} {fa:Addr} {fd:FuncData} {ps:List Str} {sp:Sp} {s₁:Shared} {vals:List Value} {ds:List WData} {R:W.WRecords} {cl:Str → Option Addr} {d0:WData}
  (KX:K.In s₁.heap) (hns:s₁.heap.Ns mainGlobals mg) (hb:s₁.heap.Ns builtinsNs mb) (hbb:∀ x:Str,x ≠ "__name__" → mb x = bootBuiltins x) (apT:s₁.heap.NoLimit) (hg:s₁.gens = #[])
  (hwl:WellAll w.params s₁.heap vals ds) (C4:BF ds = true) (hwt:∀ d ∈ ds,d.weight ≤ 1048576) (hr:aX k callerA)
  (F:∀ base:Heap,K.In base → base.Ns mainGlobals mg → aD P w K mg base CX k fa fd ps sp) (aoJ:∀ (s:Shared) (us:List Value),us.length = ps.length → BindsTo s fd ⟨us,[]⟩ (ps.zip us)) (hlen:ds.length = ps.length)
  (MU:∀ (H:Hp) (xs:List V),W5 H → uD K H xs ds → sp xs H (fun v H'=>Dw K H' v d0) fun _ _ _=>False)
  (hCX:∀ H e s',CX [] H s₁ (fun _ _ _=>False) e s' → False) :
  codeAny (model P w) callerA (.call (.ref fa) ⟨vals,[]⟩) (fun r s'=>∃ u as,r = .ok (.ret u) ∧ ReadsW R cl s'.heap u d0 as ∧ OldK s₁.heap s'.heap ∧ s'.os = s₁.os ∧ AllBare s'.gens) s₁:=by
 obtain ⟨A,ho,ar⟩:=Mi ds vals hwl C4 hwt
 have hO:W5 (o6 K s₁.heap A):=ai3 ar
 have bJ:jC P w (o6 K s₁.heap A) s₁.heap:=al6 ar
 have hS:=Wx KX ar ds vals hwl C4 ho
 have hV:=yW ho
 have hK:∀ b u,o6 K s₁.heap A b = some u → K.lookup b = none:=fun b u q=>(RK ar q).1
 have noA:∀ {b:Addr} {o:Obj} {es:Array DictEntry} {ep:Nat},s₁.heap.get? b = some o → o.data = .dict es ep → o6 K s₁.heap A b = none:=fun {b o es ep} e d=>by
  cases q:o6 K s₁.heap A b with
  | none=>rfl
  | some u =>
   obtain ⟨_,vs,_,_,⟨e2,_⟩ | ⟨e2,_⟩⟩:=RK ar q
   ·rw [e2] at e
    cases e
    have d':Data.seq vs.toArray _ = Data.dict es ep:=d
    cases d'
   ·rw [e2] at e
    cases e
    have d':Data.seq vs.toArray _ = Data.dict es ep:=d
    cases d'
 generalize o6 K s₁.heap A = H at hO bJ hS hK noA
 have agj:∀ {b:Addr} {o:Obj},s₁.heap.get? b = some o → H b = none → (LO s₁.heap H).get? b = some o:=fun e n=>akg e n
 have nsK:∀ {b:Addr} {m:Str → Option Value},s₁.heap.Ns b m → (LO s₁.heap H).Ns b m:=fun {b m} ⟨o,es,ep,e,d,r⟩=>⟨o,es,ep,agj e (noA e d),d,r⟩
 have nK:∀ b o,K.lookup b = some o → H b = none:=fun b o e=>by
  cases q:H b with
  | none=>rfl
  | some u =>
   rw [hK b u q] at e
   cases e
 have hKb:K.In (LO s₁.heap H):=fun b o e=>agj (KX b o e) (nK b o e)
 have hM:Mod K mg (LO s₁.heap H):=⟨hKb,nsK hns,⟨mb,nsK hb,hbb⟩,let ⟨mc,h1,h2⟩:=apT; ⟨mc,nsK h1,h2⟩⟩
 have e0:U1 P w K mg (LO s₁.heap H) callerA [] s₁ H:=⟨rfl,hM,fun b o e=>alD e,Nat.le_of_eq (aiK _ _),trivial,fun b hb=>absurd (show b ∈ ([]:List Addr) from hb) (by simp),bJ,.of_eq hg⟩
 have hl:vals.length = ps.length:=by rw [Ai hwl]; exact hlen
 refine codeAny_mono ((F _ hKb (nsK hns)).run callerA [] s₁ H ⟨vals,[]⟩ vals (vals.map toV) _ _ hr e0 (aoJ s₁ vals hl) hV (MU H _ hO hS)) fun r s' x=>?_
 cases r with
 | error e=>exact (hCX H e s' x).elim
 | ok fl =>
  cases fl with
  | next=>exact False.elim x
  | brk=>exact False.elim x
  | cont=>exact False.elim x
  | ret u =>
   obtain ⟨v,H',os,bare,un,anp,r',q⟩:=x
   have kept:∀ b o,s₁.heap.get? b = some o → s'.heap.get? b = some o:=fun b o e=>by
    cases q2:H b with
    | none=>exact un.keep b o e q2 (by intro z; exact absurd (show b ∈ ([]:List Addr) from z) (by simp)) (by simp)
    | some u2 =>
     rcases hO b with z | ⟨ob,u3,z⟩
     ·rw [q2] at z
      cases z
     ·have z2:=un.LY b ob _ z
      obtain ⟨e1,_⟩:=bJ b _ z
      obtain ⟨e2,_⟩:=anp b _ z2
      rw [e] at e1
      cases e1
      exact e2
   have KX':K.In s'.heap:=fun b o e=>kept b o (KX b o e)
   obtain ⟨as,hrd⟩:=Dw.reads (R:=R) (cl:=cl) anp KX' d0 v u q r'
   exact ⟨u,as,rfl,hrd,OldK.of_keep kept,os,bare⟩
theorem Yl {ds:List WData} (h:WData.layableAll ds = true):∀ d ∈ ds,d.weight ≤ 1048576:=fun d hd =>
 (W.layableW_iff.mp (List.all_eq_true.mp h d hd)).2.2
theorem Wv:∀ (cs:List Codec) (a:Codec.denoteAll cs),(Codec.encAll cs a).length = cs.length
 | [],_=>rfl
 | c :: cs,a=>by
  show (Codec.encAll cs a.2).length + 1 = cs.length + 1
  rw [Wv cs a.2]
theorem ahU {r:OpenSpec} {k:Nat} {q:Program} {loose:List Str} {XP:(Str → Option Value) → Heap → Prop} {YP:World → Heap → Prop} {d:DefRec} {K:Params → W.Frag} {CX:World → KR} {ps:List Str} {sp:World → Sp}
  (aho:r.wellSaid = true) (hdf:d.params.defaults = []) (hlen:r.args.length = ps.length) (hr:aX k callerA)
  (hY:∀ (w:World) (h:Heap),YP w h → (K w.params).In h)
  (F:∀ (w:World) (mg:Str → Option Value) (fa:Addr) (h:Heap),YP w h → (K w.params).In h → h.Ns mainGlobals mg → mg d.name = some (.ref fa) →
   ∃ fd:FuncData,(∀ (s:Shared) (us:List Value),us.length = ps.length → BindsTo s fd ⟨us,[]⟩ (ps.zip us)) ∧
    ∀ base:Heap,(K w.params).In base → base.Ns mainGlobals mg → aD r.prog w (K w.params) mg base (CX w) k fa fd ps (sp w))
  (MU:∀ (w:World) (H:Hp) (xs:List V) (a:Codec.denoteAll r.args),W5 H → Codec.withinAll r.args a = true → Codec.app r.args r.asked a = true → uD (K w.params) H xs (Codec.encAll r.args a) →
   sp w xs H (fun v H'=>Dw (K w.params) H' v (r.ret.enc (Codec.app r.args r.f a))) fun _ _ _=>False)
  (hCX:∀ (w:World) (H:Hp) (s:Shared) (e:Value) (s':Shared),CX w [] H s (fun _ _ _=>False) e s' → False) :
  W.WalkOS q loose XP YP r d [] (fun f vs=>PySem.call f vs):=by
 intro w vz s₁ mg mb G Y fa o pm cd doc dV kV ho hd MX hD hmg hg args vals as adF apU hrd hwl hlo
 obtain ⟨a,e1,e2⟩:=W.os_pre_some adF
 obtain ⟨e3,hwi⟩:=Codec.encAll_of_decAll r.args args a e1
 subst e3
 have KX:=hY w _ Y
 obtain ⟨fd,hb,hF⟩:=F w mg fa _ Y KX G.T.g hmg
 refine W.enter_call (codeAny_mono (ah7 (R:=[]) (cl:=classAt vz.heap) (d0:=r.ret.enc (Codec.app r.args r.f a)) KX G.T.g G.T.b G.T.builtins G.T.nolimit hg hwl (ZA _ _) (Yl apU) hr hF hb (by rw [Wv]; exact hlen)
  (fun H xs hO hS=>MU w H xs a hO hwi e2 hS) fun H e s'=>hCX w H s₁ e s') fun r' s' hq=>?_)
 obtain ⟨u,as',rfl,h1,h2,h3,h4⟩:=hq
 exact ⟨.inl ⟨u,_,as',rfl,fun _=>rfl,h1,(OpenSpec.post_iff aho hwi _ _).mpr rfl,fun z=>Bool.noConfusion (show false = true from z)⟩,h2,h3,h4⟩
theorem agt {r:OpenSpec} {k:Nat} {q:Program} {loose:List Str} {XP:(Str → Option Value) → Heap → Prop} {YP:World → Heap → Prop} {d:DefRec} {K:Params → W.Frag} {CX:KR} {ps:List Str} {sp:W.Frag → Sp}
  (aho:r.wellSaid = true) (hdf:d.params.defaults = []) (hlen:r.args.length = ps.length) (hr:aX k callerA)
  (hY:∀ (w:World) (h:Heap),YP w h → (K w.params).In h)
  (F:∀ (w:World) (mg:Str → Option Value) (fa:Addr) (h:Heap),YP w h → (K w.params).In h → h.Ns mainGlobals mg → mg d.name = some (.ref fa) →
   ∃ fd:FuncData,(∀ (s:Shared) (us:List Value),us.length = ps.length → BindsTo s fd ⟨us,[]⟩ (ps.zip us)) ∧
    ∀ base:Heap,(K w.params).In base → base.Ns mainGlobals mg → aD r.prog w (K w.params) mg base CX k fa fd ps (sp (K w.params)))
  (MU:∀ (K:W.Frag) (H:Hp) (xs:List V) (a:Codec.denoteAll r.args),W5 H → Codec.withinAll r.args a = true → Codec.app r.args r.asked a = true → uD K H xs (Codec.encAll r.args a) →
   sp K xs H (fun v H'=>Dw K H' v (r.ret.enc (Codec.app r.args r.f a))) fun _ _ _=>False)
  (hCX:∀ (H:Hp) (s:Shared) (e:Value) (s':Shared),CX [] H s (fun _ _ _=>False) e s' → False) :
  W.WalkOS q loose XP YP r d [] (fun f vs=>PySem.call f vs) :=
 ahU (K:=K) (CX:=fun _=>CX) (sp:=fun w=>sp (K w.params)) aho hdf hlen hr hY F (fun w H xs a h1 h2 h3 h4=>MU (K w.params) H xs a h1 h2 h3 h4) fun _ H s e s'=>hCX H s e s'
end L2
end
namespace Pt
open PySem PySem.Spec PyProof.Rows L2
section
variable {X:Cx} {es:List Expr} {te:TE} {t:TA}
theorem aq {x:Str} {p:Pos} (ha:PE X (.Name x p) te) (hr:PA X es t):PA X (.Name x p :: es) (wk te t):=pQ ha hr rfl
theorem fS {c:Const} {k:Nat} {p:Pos} (ha:PE X (.Constant c k p) te) (hr:PA X es t):PA X (.Constant c k p :: es) (wk te t):=pQ ha hr rfl
theorem aP {e:Expr} {x:Str} {p:Pos} (ha:PE X (.Attribute e x p) te) (hr:PA X es t):PA X (.Attribute e x p :: es) (wk te t):=pQ ha hr rfl
theorem cS {e:Expr} {as:List Expr} {ks:List Keyword} {p:Pos} (ha:PE X (.Call e as ks p) te) (hr:PA X es t):PA X (.Call e as ks p :: es) (wk te t):=pQ ha hr rfl
theorem OJ {a b:Expr} {o:Operator} {p:Pos} (ha:PE X (.BinOp a o b p) te) (hr:PA X es t):PA X (.BinOp a o b p :: es) (wk te t):=pQ ha hr rfl
theorem eG {a b:Expr} {p:Pos} (ha:PE X (.Subscript a b p) te) (hr:PA X es t):PA X (.Subscript a b p :: es) (wk te t):=pQ ha hr rfl
theorem k7 {a:Expr} {o:UnaryOp} {p:Pos} (ha:PE X (.UnaryOp o a p) te) (hr:PA X es t):PA X (.UnaryOp o a p :: es) (wk te t):=pQ ha hr rfl
theorem RA {as:List Expr} {p:Pos} (ha:PE X (.List as p) te) (hr:PA X es t):PA X (.List as p :: es) (wk te t):=pQ ha hr rfl
theorem ajL {as:List Expr} {k:Nat} {p:Pos} (ha:PE X (.Tuple as k p) te) (hr:PA X es t):PA X (.Tuple as k p :: es) (wk te t):=pQ ha hr rfl
theorem ajM {a:Expr} {gs:List Comprehension} {sc:Scope} {p:Pos} (ha:PE X (.ListComp a gs sc p) te) (hr:PA X es t):PA X (.ListComp a gs sc p :: es) (wk te t):=pQ ha hr rfl
end
theorem bF {X:Cx} {x:Str} {i:Int} {pos:Pos} (hg:Gl X x) (hm:∃ tk,X.mg x = some (.int i tk)) (hd:(x == ("__debug__":Str)) = false:=by decide):PE X (.Name x pos) (tC (.int i)):=by
 obtain ⟨tk,e⟩:=hm
 exact afH hg e ⟨tk,rfl⟩ hd
theorem als {X:Cx} {x:Str} {a:Addr} {pos:Pos} (hg:Gl X x) (hm:X.mg x = some (.ref a)) (hd:(x == ("__debug__":Str)) = false:=by decide):PE X (.Name x pos) (tC (.ref a)):=afH hg hm rfl hd
theorem agU {X:Cx} {s:Shared} {H:Hp} {sc:Scope} {e:Env} {fp:List Addr} {j k:Nat} (r:aX k X.A) (h:j ≤ k):aX j (Cx.Bp X s H sc e fp).A:=r.mono h
theorem alV {X:Cx} (K:W.Frag) (h:X.K = K):IxR X (amI K):=h ▸ nJ
theorem ajq {X:Cx} (K:W.Frag) (h:X.K = K):SlR X (amG K):=h ▸ Ru
theorem Y3 {X:Cx} (K:W.Frag) (h:X.K = K):Dv X (.type "tuple") (fun xs H Q=>∃ p ys,xs = [.ref p] ∧ ((aM K H p ys ∧ ∀ l,H l = none → Q (.ref l) (upd H l (.tup ys))) ∨ (j0 K H p ys ∧ Q (.ref p) H))):=h ▸ aa7
theorem aim {X:Cx} {a:Expr} {ta:TE} (K:W.Frag) (h:X.K = K) (ha:PE X a ta) (he:∀ whole,isTrue a X.env whole = (do let v ← whole; standAt a.pos; holding [v] (truthy v))) :
  PT X a (fun σ H Q=>ta σ H fun x H'=>∃ k,akv K x H' k ∧ Q k H'):=h ▸ cA ha he
theorem alu {X:Cx} {e:Expr} {f:Str} {pos:Pos} {ta:TE} (K:W.Frag) (h:X.K = K) (he:PE X e ta) (hb:attributeBase e f X.env (eval e X.env) = eval e X.env):PE X (.Attribute e f pos) (amv K ta f):=h ▸ ai he hb
structure aeH (K:W.Frag) (x qual:Str) (st:Stmt) (f:Addr) (fd:FuncData):Prop where
 ex:∃ (oc:Value) (od:Option Addr) (dV kV doc pm:Value) (an:Option Addr) (au ct:Value) (MH:Array (Option Value)),
  fd = W.fnOf x qual (zL st) (aI st) (ah st) dV kV doc pm an au ct ∧ K.lookup f = some ⟨oc,od,.func fd,MH⟩ ∧ W.codeIn K au qual = true
 kp:W.keepIn K (.ref f) = true
theorem aeH.ok {P:Program} {w:World} {K:W.Frag} {mg:Str → Option Value} {base:Heap} {x qual:Str} {st:Stmt} {f:Addr} {fd:FuncData} {N ps:List Str} {k:Nat} {sp:Sp} (F:aeH K x qual st f fd) (S:aJ N ps (ah st)) (len:∀ vs H Q E,sp vs H Q E → vs.length = ps.length)
  (Wo:∀ (au:Value) (A:Around) (outer:List Env) (s:Shared) (H:Hp) (vs:List V) (Q:VK) (E:XK),aX k (A.deeper (envOfC qual (ah st) s.heap.objs.size f au)) → sp vs H Q E →
   ∃ t,cg (bC aC P w K mg base N qual (ah st) f au A outer s H E).cD (aI st) t ∧ t { nx:=fun _ H'=>Q .bL H',rt:=Q } (start N vs) H):aD P w K mg base aC (k + 1) f fd ps sp:=by
 obtain ⟨oc,od,dV,kV,doc,pm,an,au,ct,MH,rfl,lk,MX⟩:=F.ex
 refine akR lk MX S len fun A outer s H vs Q E hr MU=>?_
 obtain ⟨t,h,q⟩:=Wo au A outer s H vs Q E hr MU
 exact ⟨t,h.cD,q⟩
structure an4 (K:W.Frag) (fd:FuncData) (items:List Value):Prop where
 ex:∃ (Ta:Addr) (o:Obj) (n:Nat),fd.defaults = .ref Ta ∧ K.lookup Ta = some o ∧ o.data = .seq items.toArray n
theorem aeH.binds {K:W.Frag} {x qual:Str} {st:Stmt} {f:Addr} {fd:FuncData} {ps:List Str} {items ds:List Value} (F:aeH K x qual st f fd) (D:an4 K fd items) (m:Nat) (hm:∀ n,n + ds.length = ps.length → n = m)
  (h:∀ (dV kV doc pm:Value) (an:Option Addr) (au ct:Value) (us:List Value),us.length = m → ∃ k,bindArgs (W.fnOf x qual (zL st) (aI st) (ah st) dV kV doc pm an au ct) ⟨us,[]⟩ = seqItems? dV >>= k ∧ k (some items.toArray) = pure (ps.zip (us ++ ds))):Binds K fd ps ds:=by
 obtain ⟨oc,od,dV,kV,doc,pm,an,au,ct,MH,rfl,lk,MX⟩:=F.ex
 obtain ⟨Ta,o,n,e1,e2,e3⟩:=D.ex
 intro s us hK hl
 obtain ⟨k,h1,h2⟩:=h dV kV doc pm an au ct us (hm _ (by rw [← List.length_append]; exact hl))
 exact BindsTo.of_defaults (k:=k) e1 (hK _ _ e2) e3 h1 h2
section
variable {X:Cx}
theorem NR {P:Program} {w:World}:∀ {kvs:List (Key × V)} {vs:List (Key × Value)} {us:List Value},KV kvs vs → us.length = vs.length → (∀ (j:Nat) (u:Value),us[j]? = some u → ∃ k x,vs[j]? = some (k,x) ∧ (fL P w).is k u = true) → Vals (kvs.map fun kv=>kV kv.1) us
 | [],_,us,r,hl,_=>by
  cases r
  cases us with
  | nil=>exact .nil
  | cons _ _=>cases hl
 | kv :: kvs,_,us,r,hl,h=>by
  cases r with
  | @cons _ q _ vs2 r1 r2 =>
   cases us with
   | nil=>cases hl
   | cons u us =>
    obtain ⟨k,x,e1,e2⟩:=h 0 u rfl
    cases e1
    refine .cons ?_ (NR r2 (by simpa using hl) fun j u' hu=>by simpa using h (j + 1) u' (by simpa using hu))
    show RelV (kV kv.1) u
    rw [r1.1]
    exact ajC e2
theorem ahM (hc:X.calm = true):Dv X (.type "list") (fun xs H Q=>∃ a kvs,xs = [V.ref a] ∧ H a = some (.dK kvs) ∧ ∀ l,H l = none → Q (.ref l) (upd H l (.lst (kvs.map fun kv=>kV kv.1)))):=by
 intro pins s σ H xs us Q I r h
 obtain ⟨a,kvs,rfl,ha,q⟩:=h
 obtain ⟨u,rfl,ru⟩:=vals1 r
 cases ru
 obtain ⟨hz,lo,vs,rel,hD⟩:=Wy I.bJ ha
 obtain ⟨ep,tW⟩:=hD.dictAt
 have hlen:vs.length = kvs.length:=rel.length.symm
 refine W.kdl_call (W.kdl_dict (knd:=fL X.prog X.w) (kvs:=vs) (ep:=ep) lo) (I.ok.hd hc) tW (by rw [hlen]; exact hz) fun h' tk an0 c' hk hS' adK=>?_
 have hv:Vals (kvs.map fun kv=>kV kv.1) an0.toList:=NR rel (by rw [Array.length_toList]; exact adK.1) fun j u' hu=>adK.2 j u' (by rw [← Array.getElem?_toList]; exact hu)
 exact ⟨.ref s.heap.objs.size,_,I.laid (t':=tk) hk (Nat.le_refl _) (show gK X.prog X.w _ h' _ (.lst _) from ⟨by rw [List.length_map]; exact hz,an0.toList,c',hv,by rw [Array.toArray_toList]; exact hS'⟩),rfl,q _ (I.bJ.fresh (Nat.le_refl _))⟩
end
noncomputable def Itf (n:Nat) (f:Nat → V):It:=⟨fun i _=>i < n,fun i H x H'=>H' = H ∧ x = f i,fun i _=>n ≤ i⟩
theorem aeO {P:Program} {w:World} {K:W.Frag} {tg:Expr} (it:Addr) (lo c:Int) (n:Nat):Turn P w K tg (Itf n fun i=>.int (lo + i * c)) [it] it (fun i h=>IsRangeIter h it (lo + (i:Nat) * c) ((n:Int) - (i:Nat)) c) where
 mem:=by simp
 obj:=fun i h st b hb=>by
  have e:b = it:=by simpa using hb
  subst e
  exact ⟨_,st,fun v z=>by
   have z':Data.fields _ = Data.cell v:=z
   cases z'⟩
 keep:=fun i h h' st k=>k it (by simp) _ st
 item:=by
  intro X hP hw hK hc i pins s σ H E I hf st hg
  subst hP hw hK
  obtain ⟨f0,f1,f2,f3,f4,f5⟩:=hf it (by simp)
  have W:=Walks.range (prog:=X.prog) (w:=X.w) (I.ok.hd hc) it lo c n
  refine W.item i s _ _ hg st fun v h' tk hv lq kk=>?_
  obtain ⟨t,rfl⟩:=hv
  have I1:Inv X pins σ H { s with heap:=h',toks:=tk }:=I.turned (fun b o hb e=>kk b o (by simpa using hb) e) f0 f1 f3 f4 f5
  exact ⟨_,rfl,ahA (s:={ s with heap:=h',toks:=tk }) (n:="range_iterator") lq rfl rfl (by decide) ⟨.int (lo + i * c),H,I1,⟨t,rfl⟩,⟨rfl,rfl⟩,lq,fun b hb=>(hf b hb).1⟩⟩
 done:=by
  intro X hP hw hK hc i pins s σ H E I hf st hg
  subst hP hw hK
  obtain ⟨f0,f1,f2,f3,f4,f5⟩:=hf it (by simp)
  exact wpAny_pyNext_range_end (I.ok.hd hc) st (by have:n ≤ i:=hg; omega) fun h' eb=>⟨rfl,I.turned (t':=s.toks) (fun b o hb e=>eb b o hb e) f0 f1 f3 f4 f5⟩
 self:=fun _ _ _ _ _ st h=>wpAny_pyIter_rangeiter st h
noncomputable def aov (ta:TA):TI:=fun σ H R=>ta σ H fun vs H1=>∃ (i j c:Int) (n:Nat),vs = [.int i,.int j,.int c] ∧ (-(2 ^ 60) ≤ i ∧ i < 2 ^ 60 ∧ -(2 ^ 60) ≤ j ∧ j < 2 ^ 60) ∧ (0 < c ∧ c < 1073741824) ∧ Builtin.Range.rangeSize i j c = (n:Int) ∧ R (Itf n fun k=>.int (i + k * c)) H1
theorem ak8 {a b c:Int} (ha:-(2 ^ 60) ≤ a) (ha':a < 2 ^ 60) (hb:-(2 ^ 60) ≤ b) (hb':b < 2 ^ 60) (hc:0 < c) (hc':c < 1073741824):Builtin.Range.small a b c = true:=by
 have h1:Builtin.Range.rangeSize a b c ≤ 2 ^ 62 ∧ 0 ≤ Builtin.Range.rangeSize a b c ∧ a + Builtin.Range.rangeSize a b c * c ≤ 2 ^ 62 ∧ a ≤ a + Builtin.Range.rangeSize a b c * c:=by
  unfold Builtin.Range.rangeSize
  rw [if_pos hc]
  by_cases h:a < b
  ·rw [if_pos h]
   have e0:0 ≤ (b - a - 1) / c:=Int.ediv_nonneg (by omega) (by omega)
   have e1:(b - a - 1) / c * c ≤ b - a - 1:=Int.ediv_mul_le _ (by omega)
   have e2:=Int.mul_le_mul_of_nonneg_left (show (1:Int) ≤ c by omega) e0
   rw [Int.mul_one] at e2
   have e3:((b - a - 1) / c + 1) * c = (b - a - 1) / c * c + c:=by rw [Int.add_mul,Int.one_mul]
   rw [e3]
   refine ⟨by omega,by omega,by omega,by omega⟩
  ·rw [if_neg h]
   simp
   omega
 unfold Builtin.Range.small
 rw [if_pos (show c > 0 from hc)]
 simp only [Builtin.Range.rangeFitsLong,Bool.and_eq_true,Bool.or_eq_true,decide_eq_true_eq,beq_iff_eq]
 generalize Builtin.Range.rangeSize a b c = N at h1
 generalize hM:N * c = M at h1
 omega
theorem aio {X:Cx} {tg a b c:Expr} {ta:TA} {p pos:Pos} (hg:Gl X "range") (hm:X.mg "range" = none) (ha:PA X [a,b,c] ta) (hs:starEach [a,b,c] X.env = [(false,eval a X.env),(false,eval b X.env),(false,eval c X.env)]:=by rfl) (hs2:starEach [b,c] X.env = [(false,eval b X.env),(false,eval c X.env)]:=by rfl) :
  PI X tg (.Call (.Name "range" p) [a,b,c] [] pos) (aov ta):=by
 intro pins s σ H R I h
 refine Call_ (O8 I hg hm boot_range (PyProof.Rows.callWith_type1 (bR (ha pos pins s σ H _ I h) fun us s1 ⟨vs,H1,I1,r1,q1⟩=>?_) (by rw [hs,hs2]) (by rw [hs2]; rfl)))
 obtain ⟨i,j,k,n,e,⟨q1,q2,q3,q4⟩,⟨q5,q6⟩,q7,q⟩:=q1
 subst e
 cases r1 with
 | cons r rr =>
  cases rr with
  | cons r' rr =>
   cases rr with
   | cons r'' rr =>
    cases rr
    obtain ⟨t,rfl⟩:=r
    obtain ⟨t',rfl⟩:=r'
    obtain ⟨t'',rfl⟩:=r''
    refine call_range_3 (by omega) ?_ (.inl (PyProof.noPylong_small (by omega)))
    refine wpAny_pyIter_range (IsRange.new ..) (ak8 q1 q2 q3 q4 q5 q6) ?_
    have I2:Inv X pins σ H1 { s1 with heap:=s1.heap.push { cls:=.type "range",data:=.fields #[.int i t,.int j t',.int k t''] },toks:=s1.toks }:=I1.kept fun b o e=>Heap.get?_push_of_some _ e
    refine ⟨(s1.heap.push { cls:=.type "range",data:=.fields #[.int i t,.int j t',.int k t''] }).objs.size,[(s1.heap.push { cls:=.type "range",data:=.fields #[.int i t,.int j t',.int k t''] }).objs.size],_,_,H1,rfl,
     I2.kept (t':=s1.toks) fun b o e=>Heap.get?_push_of_some _ e,aeO _ i k n,?_,fun b hb=>?_,q⟩
    ·have e1:i + ((0:Nat):Int) * k = i:=by simp
     have e2:((n:Nat):Int) - ((0:Nat):Int) = Builtin.Range.rangeSize i j k:=by rw [q7]; simp
     show IsRangeIter _ _ (i + ((0:Nat):Int) * k) (((n:Nat):Int) - ((0:Nat):Int)) k
     rw [e1,e2]
     exact Heap.get?_push_size _ rfl
    ·have e:b = (s1.heap.push { cls:=.type "range",data:=.fields #[.int i t,.int j t',.int k t''] }).objs.size:=by simpa using hb
     subst e
     exact I2.adQ (Nat.le_refl _) (I2.bJ.fresh (Nat.le_refl _))
theorem apH {n:Nat} {f:Nat → V} {g:TG} {tt:TT} {te:TE} {vs:List Nat} {σ:L2.St} {H1:Hp} {D:Addr} {Qd:Hp → Prop} (Pv:Nat → Hp → Prop) (h0:Pv 0 (upd H1 D (.lst [])))
  (hs:∀ i H,i < n → Pv i H → g (f i) (wipe σ vs) H fun σ2 H2=>wipe σ2 vs = wipe σ vs ∧ tt σ2 H2 fun b H3 =>
   if b = true then te σ2 H3 fun y H4=>∃ acc,H4 D = some (.lst acc) ∧ acc.length < sizeLine ∧ Pv (i + 1) (upd H4 D (.lst (acc ++ [y]))) else Pv (i + 1) H3) (hd:∀ H,Pv n H → Qd H) :
  ∃ W:Nat → Nat → Hp → Prop,(∃ m,W 0 m (upd H1 D (.lst []))) ∧ ∀ i m H,W i m H →
   ((Itf n f).stop i H ∧ Qd H) ∨ ((Itf n f).go i H ∧ ∃ Nx:Hp → Prop,(∀ H',Nx H' → ∃ m',m' < m ∧ W (i + 1) m' H') ∧ ∀ x H',(Itf n f).U3 i H x H' → g x (wipe σ vs) H' fun σ2 H2=>wipe σ2 vs = wipe σ vs ∧ tt σ2 H2 fun b H3 =>
    if b = true then te σ2 H3 fun y H4=>∃ acc,H4 D = some (.lst acc) ∧ acc.length < sizeLine ∧ Nx (upd H4 D (.lst (acc ++ [y]))) else Nx H3):=by
 refine ⟨fun i m H=>i + m = n ∧ Pv i H,⟨n,by omega,h0⟩,fun i m H ⟨e,p⟩=>?_⟩
 by_cases hi:i < n
 ·refine .inr ⟨hi,Pv (i + 1),fun H' p'=>⟨m - 1,by omega,by omega,p'⟩,?_⟩
  rintro x H' ⟨rfl,rfl⟩
  exact hs i H' hi p
 ·have:i = n:=by omega
  subst this
  exact .inl ⟨Nat.le_refl _,hd H p⟩
end Pt
namespace Pt
open PySem PySem.Spec PyProof.Rows L2
section
open PySem.W PySem.Calls PyProof.V
theorem gather {p0:Program} {w0:World} {ar:Around} {ex:Value → Shared → Prop} {st:Shared} {ty:String} {r d:Addr} {n:Nat} {It:Nat → Value → Prop} {anA:Heap → Prop} {R:List Value → Shared → Prop}
  (src:KdlSrc p0 w0 ty r d n It anA) (nh:ar.handled = none) (ok:anA st.heap) (le:n ≤ sizeLine)
  (q:∀ (g:Heap) (tk:Nat) (acc:Array Value),(∀ b o,st.heap.get? b = some o → g.get? b = some o) → st.heap.objs.size < g.objs.size → ItemsOf It acc n → R acc.toList { st with heap:=g,toks:=tk }) :
  wpAny (model p0 w0) ar (collect (.ref r)) R ex st:=by
 have lt:=src.there _ ok
 unfold collect
 refine wpAny_bind (wpAny_runValue (codeAny_builtin (b:=_) entry_proto_collect' ?_))
 rw [Around.under_plainId F.plain_proto_collect _]
 show wpAny _ _ (newList [] >>= fun v=>again (.builtin "list.__iadd__" ⟨[v,.ref r],[]⟩)) _ _ st
 refine wpAny_bind (wpAny_newObj_type (wpAny_pure ⟨plainId_quiet F.plain_list_iadd _,codeAny_builtin entry_list_iadd' ?_⟩))
 rw [Around.under_plainId F.plain_list_iadd _]
 have at0:(st.heap.push { cls:=.type "list",data:=.seq ([]:List Value).toArray }).get? st.heap.objs.size
   = some { cls:=.type "list",data:=.seq #[] }:=Heap.get?_push_size _ rfl
 show wpAny _ _ (Builtin.List.listExtendWith (.ref _) (.ref r) (.ref _)) _ _ _
 refine wpAny_mono (kdl_extend (A:=ar) (R:=fun (z:Result) (s':Shared)=>∃ (g:Heap) (tk:Nat) (acc:Array Value) (c:Nat),z = .ok (.ret (.ref st.heap.objs.size)) ∧ s' = { st with heap:=g,toks:=tk } ∧
   (∀ b o,st.heap.get? b = some o → g.get? b = some o) ∧ g.get? st.heap.objs.size = some { cls:=.type "list",dict:=none,data:=.seq acc c,slots:=#[] } ∧ ItemsOf It acc n)
  src nh (src.keep _ _ ok fun _ _ _ e=>Heap.get?_push_of_some _ e) _ (Nat.ne_of_gt lt.1) (Nat.ne_of_gt lt.2) (.ref _) 0 at0
  (fun g tk acc c hk hS hI=>⟨g,tk,acc,c,rfl,rfl,fun b o e=>hk b o (Nat.ne_of_lt (Heap.lt_size e)) (Heap.get?_push_of_some _ e),hS,hI⟩) le) (fun fin s' x=>?_) (fun e s' x=>?_)
 ·cases fin with
  | done f =>
   obtain ⟨g,tk,acc,c,e,rfl,hk,hS,hI⟩:=x
   cases e
   exact wpAny_bind (wpAny_load hS (wpAny_pure (q g tk acc hk (Heap.lt_size hS) hI)))
  | again c1 =>
   refine ⟨x.1,codeAny_mono x.2 fun z s2 y=>?_⟩
   obtain ⟨g,tk,acc,c,rfl,rfl,hk,hS,hI⟩:=y
   exact wpAny_bind (wpAny_load hS (wpAny_pure (q g tk acc hk (Heap.lt_size hS) hI)))
 ·obtain ⟨_,_,_,_,e',_⟩:=x
  cases e'
end
noncomputable def ajE:List V → Hp → VK → Prop:=fun vs H Q=>∃ (a:Addr) (kvs:List (Key × V)) (ns:List Int),vs = [V.ref a] ∧ H a = some (.dK kvs) ∧ (kvs.map fun kv=>kV kv.1) = ns.map V.int ∧
 ∀ (se:List Int) (p:Addr),se.Perm ns → se.Pairwise (· ≤ ·) → H p = none → Q (.ref p) (upd H p (.lst (se.map V.int)))
theorem xV {X:Cx} (hc:X.calm = true):Dv X (.builtin "sorted") ajE:=by
 intro pins s σ H vs us Q I r h
 obtain ⟨a,kvs,ns,rfl,ha,en,q⟩:=h
 rw [Vals.apt r]
 obtain ⟨hz,lo,ws,rel,hD⟩:=Wy I.bJ ha
 obtain ⟨ep,tW⟩:=hD.dictAt
 have hlen:ws.length = kvs.length:=rel.length.symm
 refine Calls.call_function_entry kind_sorted plain_sorted entry_sorted (args_sorted1 _) ?_
 unfold Builtin.«sorted»
 refine wpAny_bind (m:=checkCount "sorted" 1 1 _) (wpAny_pure ?_)
 refine wpAny_bind (gather (ar:=X.A.in1) (W.kdl_dict (knd:=fL X.prog X.w) (kvs:=ws) (ep:=ep) lo) (I.ok.hd hc) tW (by rw [hlen]; exact hz) fun h' tk acc hk hsz adK=>?_)
 have hl:acc.toList.length = kvs.length:=by rw [Array.length_toList,adK.1,hlen]
 have hv:Vals (kvs.map fun kv=>kV kv.1) acc.toList:=NR rel (by rw [hl,hlen]) fun j u' hu=>adK.2 j u' (by rw [← Array.getElem?_toList]; exact hu)
 rw [en] at hv
 have hi:=hv.ints
 have hL:acc.toList.length ≤ sizeLine:=by rw [hl]; exact hz
 refine wpAny_bind (wpAny_newList ?_ hL)
 have hoL:(h'.push (seqObj "list" acc.toList.toArray 0)).get? h'.objs.size = some (seqObj "list" acc.toList.toArray 0):=Heap.get?_push_size _ rfl
 have hge:s.heap.objs.size ≤ h'.objs.size:=Nat.le_of_lt hsz
 refine wpAny_bind (wpAny_holding (wpAny_call_entry slot_list_sort ⟨_,hoL,rfl⟩ entry_list_sort (list_sort_treeAny hoL hi hL fun out se h1 h2 h3=>⟨_,rfl,?_⟩) (args_list_sort _)))
 obtain ⟨ep',he'⟩:=PyProof.Rows.sortedHeap_at (vs:=acc.toList) (out:=out) hoL
 have abn:(se.map V.int).length ≤ sizeLine:=by
  rw [List.length_map,h2.length_eq]
  have:=congrArg List.length en
  rw [List.length_map,List.length_map] at this
  omega
 refine wpAny_pure ⟨_,rfl,⟨.ref h'.objs.size,upd H h'.objs.size (.lst (se.map V.int)),I.laid (t':=tk) (fun b o e=>?_) hge ⟨abn,out.toList,ep',NQ h1,he'⟩,rfl,q se _ h2 h3 (I.bJ.fresh hge)⟩⟩
 have e1:=hk b o e
 have hb:b ≠ h'.objs.size:=Nat.ne_of_lt (Heap.lt_size e1)
 have e2:(h'.push (seqObj "list" acc.toList.toArray 0)).get? b = some o:=Heap.get?_push_of_some _ e1
 rw [PyProof.Rows.sortedHeap_old hb (Heap.lt_size e2)]
 exact e2
theorem aa2 (l:Addr) (items:Array Value) (n:Nat) (b:Addr) (PJ:Array Value) (n2:Nat) (od:Option Addr) (sl:Array (Option Value)) (hs0:¬(!items.isEmpty && Builtin.List.listTooLong (items.size + PJ.size)) = true) (hs1:items.size ≤ sizeLine) (hs2:items.size + PJ.size ≤ sizeLine + 1) :
  Meets (Builtin.«list.extend» ⟨[.ref l,.ref b],[]⟩) (fun _ R s=>s.heap.get? l = some { cls:=.type "list",dict:=none,data:=.seq items n,slots:=#[] } ∧ s.heap.get? b = some { cls:=.type "tuple",dict:=od,data:=.seq PJ n2,slots:=sl } ∧ R (.ok (.ret Value.none)) { s with heap:=s.heap.update l (Obj.mapSeq fun x=>x ++ PJ),toks:=s.toks }) :=
 .of_wp fun prog w A R s h=>by
  obtain ⟨hp,g,d,tk,os⟩:=s
  obtain ⟨hl,hb,h⟩:=h
  have hz':(items ++ PJ).size ≤ sizeLine + 1:=by rw [Array.size_append]; exact hs2
  wp_walk using (wpAny_updateSeq hl rfl (hz:=hs1) (_hz':=hz')),wpAny_loadPart' hl,wpAny_loadPart' hb
  exact ⟨_,rfl,h⟩
noncomputable def ajF:V → List V → Hp → VK → Prop:=fun x vs H Q=>∃ l b xs zs,x = .ref l ∧ vs = [.ref b] ∧ H l = some (.lst xs) ∧ H b = some (.tup zs) ∧ xs.length + zs.length ≤ sizeLine ∧ Q .bL (upd H l (.lst (xs ++ zs)))
theorem ahg {X:Cx}:MtM X "list.extend" ajF:=by
 intro pins s σ H x vs v us Q I rx rv h
 obtain ⟨l,b,xs,zs,rfl,rfl,hH,hB,hz,q⟩:=h
 cases rx
 obtain ⟨u,rfl,ru⟩:=rv.one
 cases ru
 obtain ⟨z,aT,n,r,hl,e⟩:=I.Ub hH
 obtain ⟨z2,B6,r2,o,ho,hc,n2,hd⟩:=I.bJ b _ hB
 obtain ⟨oc,od,dt,sl⟩:=o
 cases hc
 cases hd
 have hl2:=r2.length
 have hsz:aT.toArray.size + B6.toArray.size ≤ sizeLine:=by rw [List.size_toArray,List.size_toArray]; omega
 have abm:¬ (!aT.toArray.isEmpty && Builtin.List.listTooLong (aT.toArray.size + B6.toArray.size)) = true:=by
  rw [adb hsz,Bool.and_false]
  exact Bool.false_ne_true
 refine call_meets F.slot_list_extend ⟨_,e,rfl⟩ F.entry_list_extend (F.args_list_extend_2 _ _)
  (aa2 l aT.toArray n b B6.toArray n2 od sl abm (by rw [List.size_toArray]; omega) (by omega)) ⟨e,ho,?_⟩
 refine ⟨.bL,_,I.ahk (xj:=aT ++ B6) hH e (by simp) (r.append r2) ?_,rfl,q⟩
 rw [List.length_append]
 omega
noncomputable def akA (K:W.Frag) (a:Addr) (xs:List V):Prop:=∃ (o:Obj) (aT:Array Value) (n:Nat),K.lookup a = some o ∧ o.cls = .type "tuple" ∧ o.data = .seq aT n ∧ aT.size ≤ sizeLine ∧ Vals xs aT.toList
theorem akA.sq {K:W.Frag} {a:Addr} {xs:List V} (h:akA K a xs) (H:Hp):j0 K H a xs:=.inr h
structure RM (K:W.Frag) (a:Addr) (fs:List (Int × Addr)):Prop where
 low:(a == sysModules) = false
 ex:∃ (o:Obj) (es:Array DictEntry) (ep:Nat),K.lookup a = some o ∧ o.ExactDict ∧ o.data = .dict es ep ∧
  Paired (fun (e:DictEntry) (p:Int × Addr)=>e.hash = hashInt p.1 ∧ (∃ t,e.key = Value.int p.1 t) ∧ e.val = Value.ref p.2) es.toList fs
 nd:(fs.map (·.1)).Nodup
noncomputable abbrev gkv (fs:List (Int × Addr)):List (Key × Value):=fs.map fun p=>(Sum.inl p.1,Value.ref p.2)
theorem RM.of {K:W.Frag} {a:Addr} {fs:List (Int × Addr)} (G:RM K a fs) (P:Program) (w:World) {h:Heap} (hK:K.In h):h.DictOf (fL P w) a (gkv fs):=by
 obtain ⟨o,es,ep,e1,e2,e3,e4⟩:=G.ex
 refine ⟨o,es,ep,hK _ _ e1,e2,e3,fun e he=>?_,?_,?_⟩
 ·obtain ⟨p,_,h1,⟨t,h2⟩,h3⟩:∃ p,p ∈ fs ∧ e.hash = hashInt p.1 ∧ (∃ t,e.key = Value.int p.1 t) ∧ e.val = Value.ref p.2:=by
   have hm:e ∈ es.toList:=Array.mem_toList_iff.mpr he
   clear he e3
   revert hm
   generalize es.toList = L at e4
   clear G
   induction e4 with
   | nil=>intro hm; simp at hm
   | cons r _ ih =>
    intro hm
    rcases List.mem_cons.mp hm with rfl | hm
    ·exact ⟨_,List.mem_cons_self ..,r⟩
    ·obtain ⟨p,h1,h2⟩:=ih hm
     exact ⟨p,List.mem_cons_of_mem _ h1,h2⟩
  exact ⟨Sum.inl p.1,by rw [h2]; exact HG P w _ t,h1⟩
 ·clear e3 G
  generalize es.toList = L at e4 ⊢
  induction e4 with
  | nil=>exact .nil
  | @cons x y l₁ l₂ r _ ih =>
   obtain ⟨_,⟨t,h2⟩,h3⟩:=r
   exact .cons (by rw [h2]; exact HG P w _ t) h3 ih
 ·have e:(gkv fs).map (·.1) = (fs.map (·.1)).map (Sum.inl:Int → Key):=by
   rw [List.map_map,List.map_map]
   rfl
  rw [e]
  exact List.Pairwise.map _ (fun x y hxy z=>hxy (Sum.inl.inj z)) G.nd
theorem adL {z:Int}:∀ (fs:List (Int × Addr)),valueAt (gkv fs) (Sum.inl z) = (fs.lookup z).map Value.ref
 | []=>rfl
 | p :: fs=>by
  have ih:=adL (z:=z) fs
  unfold valueAt at ih ⊢
  show Option.map _ (List.find? _ ((Sum.inl p.1,Value.ref p.2) :: gkv fs)) = _
  rw [List.find?_cons]
  by_cases e:p.1 = z
  ·subst e
   have:List.lookup p.1 (p :: fs) = some p.2:=by
    obtain ⟨a,b⟩:=p
    exact List.lookup_cons_self
   rw [this]
   simp
  ·have h1:decide ((Sum.inl p.1:Key) = Sum.inl z) = false:=decide_eq_false fun q=>e (Sum.inl.inj q)
   have h2:List.lookup z (p :: fs) = List.lookup z fs:=by
    obtain ⟨a,b⟩:=p
    rw [List.lookup_cons,show (z == a) = false from beq_eq_false_iff_ne.mpr fun q=>e q.symm]
   rw [h2]
   simp only [h1]
   exact ih
section
variable {X:Cx} {x:Str} {a:Addr} {fs:List (Int × Addr)} {i e:Expr} {es:List Expr} {ty:TE} {t:TA} {p p' pos:Pos}
noncomputable def apk (ty:TE) (fs:List (Int × Addr)):TE:=fun σ H Q=>ty σ H fun y H1=>∃ z,y = .int z ∧ Q (.bl (fs.lookup z).isSome) H1
theorem amO (hg:Gl X x) (hm:X.mg x = some (.ref a)) (G:RM X.K a fs) (hi:PE X i ty) (hd:(x == ("__debug__":Str)) = false:=by decide):PC X .In i (.Name x p) (apk ty fs):=by
 intro pins s σ H Q I h
 refine bR (hi pins s σ H _ I h) fun iv s1 ⟨y,H1,I1,ry,z,ey,q1⟩=>?_
 subst ey
 refine DH I1 hg hm ?_ hd
 refine wpAny_in_of (k:=Sum.inl z) (Ds ry) G.low (G.of X.prog X.w I1.yE).mapOf ?_
 rw [adL,Option.isSome_map]
 exact ⟨.bl _,H1,I1.tok _,rfl,q1⟩
noncomputable def amy (fs:List (Int × Addr)) (dk:Int → Option Sp) (E:XK) (ty:TE) (t:TA):TE:=fun σ H Q=>ty σ H fun y H1=>∃ z sp,y = .int z ∧ dk z = some sp ∧ t σ H1 fun vs H2=>sp vs H2 Q E
theorem acG {CX:KR} {k:Nat} {E:XK} {dk:Int → Option Sp} (hg:Gl X x) (hm:X.mg x = some (.ref a)) (G:RM X.K a fs) (hi:PE X i ty) (hs:akx i)
  (j4:∀ z sp,dk z = some sp → ∃ f fd ps,fs.lookup z = some f ∧ aD X.prog X.w X.K X.mg X.base CX k f fd ps sp ∧ Binds X.K fd ps [] ∧ W.keepIn X.K (.ref f) = true) (hr:aX k X.A) (hx:Passes CX X E)
  (ha:PA X (e :: es) t) (hd:(x == ("__debug__":Str)) = false:=by decide) (he:starEach (e :: es) X.env = (false,eval e X.env) :: starEach es X.env:=by rfl) (C4:(backTo pos (starEach es X.env)).any (·.1) = false:=by rfl)
  (hev:eval (.Call (.Subscript (.Name x p) i p') (e :: es) [] pos) X.env = (do callWith pos (← eval (.Subscript (.Name x p) i p') X.env) [] (backTo pos (starEach (e :: es) X.env)) (backToKw pos (keywordEach [] X.env))):=by rfl) :
  PE X (.Call (.Subscript (.Name x p) i p') (e :: es) [] pos) (amy fs dk E ty t):=by
 intro pins s σ H Q I h
 refine PyProof.Rows.Call_ ?_ hev
 refine afr PySem.F.slot_dict_getitem.lookup hs (DH I hg hm ?_ hd)
 refine bR (hi pins s σ H _ I h) fun iv s1 ⟨y,H1,I1,ry,z,sp,ey,hz,q1⟩=>?_
 subst ey
 obtain ⟨f,fd,ps,hf,F,hb,hk⟩:=j4 z sp hz
 have hD:=G.of X.prog X.w I1.yE
 refine ⟨hD.typeIs,wpAny_getItem_of (k:=Sum.inl z) (v:=Value.ref f) (Ds ry) hD.mapOf (by rw [adL,hf]; rfl) ?_⟩
 have I2:=I1.tok (s1.toks + 1)
 refine W.callWith_K (h₀:=X.base) I.ok.mod.kin hk (bR (ha pos pins _ σ H1 _ I2 q1) fun us s2 ⟨vs,H2,I3,r,q⟩=>⟨I3.yE,?_⟩) he C4
 refine Vu (qv:=[]) (ds:=[]) F hr hb .nil hx I3 r ?_
 rw [List.append_nil]
 exact q
end
end Pt
namespace Pt
open PySem PySem.Spec PyProof.Rows L2
noncomputable def dh:List Str → Str → Nat
 | [],_=>0
 | g :: r,f=>if g = f then 0 else dh r f + 1
theorem aa {f:Str}:∀ {N:List Str} {vs:List V} {i:Nat} {v:V},dh N f = i → N.length = vs.length → vs[i]? = some v → (N.zip vs).lookup f = some v
 | [],[],_,_,_,_,h=>by simp at h
 | [],_ :: _,_,_,_,hl,_=>by simp at hl
 | _ :: _,[],_,_,_,hl,_=>by simp at hl
 | g :: N,x :: vs,i,v,hi,hl,h=>by
  unfold dh at hi
  show List.lookup f ((g,x) :: N.zip vs) = some v
  by_cases e:g = f
  ·rw [if_pos e] at hi
   subst hi
   subst e
   rw [List.lookup_cons_self]
   exact h
  ·rw [if_neg e] at hi
   subst hi
   rw [List.lookup_cons,show (f == g) = false from beq_eq_false_iff_ne.mpr (fun z=>e z.symm)]
   exact aa rfl (by simpa using hl) (by simpa using h)
theorem gH {f:Str} {v:V}:∀ {N:List Str} {vs:List V} {i:Nat},dh N f = i → N.length = vs.length → i < N.length → bz f v (N.zip vs) = N.zip (vs.set i v)
 | [],[],_,_,_,h=>by simp at h
 | [],_ :: _,_,_,hl,_=>by simp at hl
 | _ :: _,[],_,_,hl,_=>by simp at hl
 | g :: N,x :: vs,i,hi,hl,h=>by
  unfold dh at hi
  show (if g = f then (g,v) :: N.zip vs else (g,x) :: bz f v (N.zip vs)) = _
  by_cases e:g = f
  ·rw [if_pos e] at hi
   subst hi
   rw [if_pos e]
   rfl
  ·rw [if_neg e] at hi
   subst hi
   rw [if_neg e,gH rfl (by simpa using hl) (by simpa using h)]
   rfl
theorem aL {f:Str}:∀ {N:List Str} {vs:List V},dh N f = N.length → (N.zip vs).lookup f = none
 | [],vs,_=>by simp
 | g :: N,[],_=>by simp
 | g :: N,x :: vs,h=>by
  unfold dh at h
  by_cases e:g = f
  ·rw [if_pos e] at h
   simp at h
  ·rw [if_neg e] at h
   show List.lookup f ((g,x) :: N.zip vs) = none
   rw [List.lookup_cons,show (f == g) = false from beq_eq_false_iff_ne.mpr (fun z=>e z.symm)]
   exact aL (by simpa using h)
theorem W9 {N:List Str} {vs:List V} (h:N.length = vs.length):(N.zip vs).length = vs.length:=by rw [List.length_zip,h,Nat.min_self]
theorem Jg {α β:Type} {R:α → β → Prop} {l₁:List α} {l₂:List β} (h:Paired R l₁ l₂) {i:Nat} {b:β} (e:l₂[i]? = some b):∃ a,l₁[i]? = some a ∧ R a b:=by
 induction h generalizing i with
 | nil=>simp at e
 | @cons x y l₁ l₂ r rr ih =>
  cases i with
  | zero=>exact ⟨x,rfl,by cases e; exact r⟩
  | succ i=>exact ih (by simpa using e)
theorem cQ {α β:Type} {R:α → β → Prop} {l₁:List α} {l₂:List β} (h:Paired R l₁ l₂):l₁.length = l₂.length:=by
 induction h with
 | nil=>rfl
 | cons _ _ ih=>simp [ih]
theorem vD {α β:Type} {R:α → β → Prop} {l₁ m₁:List α} {l₂ m₂:List β} (h:Paired R l₁ l₂) (h':Paired R m₁ m₂):Paired R (l₁ ++ m₁) (l₂ ++ m₂):=by
 induction h with
 | nil=>exact h'
 | cons r _ ih=>exact .cons r ih
theorem vC {α β:Type} {R:α → β → Prop} {a:α} {b:β} (h:R a b):Paired R [a] [b]:=.cons h .nil
theorem jH {α β:Type} {R R':α → β → Prop} {l₁:List α} {l₂:List β} (h:Paired R l₁ l₂) (f:∀ a b,R a b → R' a b):Paired R' l₁ l₂:=by
 induction h with
 | nil=>exact .nil
 | cons r _ ih=>exact .cons (f _ _ r) ih
theorem F1 {α β:Type} {R:α → β → Prop} {l₁:List α} {l₂:List β} (h:Paired R l₁ l₂) (i:Nat):Paired R (l₁.eraseIdx i) (l₂.eraseIdx i):=by
 induction h generalizing i with
 | nil=>simp; exact .nil
 | cons r rr ih =>
  cases i with
  | zero=>exact rr
  | succ i=>exact .cons r (ih i)
theorem agV {α β:Type} {R:α → β → Prop} {l₁:List α} {l₂:List β} (p:α → Bool) (q:β → Bool) (h:Paired R l₁ l₂) (e:∀ a b,R a b → p a = q b):Paired R (l₁.filter p) (l₂.filter q):=by
 induction h with
 | nil=>exact .nil
 | @cons x y l₁ l₂ r rr ih =>
  rw [List.filter_cons,List.filter_cons,e _ _ r]
  by_cases c:q y = true
  ·rw [if_pos c,if_pos c]
   exact .cons r ih
  ·rw [if_neg c,if_neg c]
   exact ih
theorem DE {α β:Type} {R:α → β → Prop} {l₁:List α} {l₂:List β} (h:Paired R l₁ l₂) {a:α} (m:a ∈ l₁):∃ b,b ∈ l₂ ∧ R a b:=by
 induction h with
 | nil=>simp at m
 | cons r _ ih =>
  rcases List.mem_cons.mp m with rfl | m
  ·exact ⟨_,List.mem_cons_self ..,r⟩
  ·obtain ⟨b,h1,h2⟩:=ih m
   exact ⟨b,List.mem_cons_of_mem _ h1,h2⟩
noncomputable def Dk {β:Type} (R:V → Nat → β → Prop) (kvs:List (Key × V)) (l:List (Nat × β)):Prop :=
 ∃ l':List (Nat × β),l'.Perm l ∧ Paired (fun (kv:Key × V) (p:Nat × β)=>kv.1 = Sum.inl (p.1:Int) ∧ R kv.2 p.1 p.2) kvs l'
section
variable {β:Type} {R R':V → Nat → β → Prop} {kvs:List (Key × V)} {l m:List (Nat × β)}
theorem Dk.nil:Dk R [] []:=⟨[],.refl _,.nil⟩
theorem Dk.perm (h:Dk R kvs l) (p:l.Perm m):Dk R kvs m:=let ⟨l',a,b⟩:=h; ⟨l',a.trans p,b⟩
theorem Dk.imp (h:Dk R kvs l) (f:∀ u v b,(v,b) ∈ l → R u v b → R' u v b):Dk R' kvs l:=by
 obtain ⟨l',a,b⟩:=h
 refine ⟨l',a,?_⟩
 have f':∀ u v b,(v,b) ∈ l' → R u v b → R' u v b:=fun u v b hm=>f u v b (a.mem_iff.mp hm)
 clear a f
 induction b with
 | nil=>exact .nil
 | cons r _ ih=>exact .cons ⟨r.1,f' _ _ _ (List.mem_cons_self ..) r.2⟩ (ih fun u v b hm=>f' u v b (List.mem_cons_of_mem _ hm))
theorem Dk.len (h:Dk R kvs l):kvs.length = l.length:=let ⟨_,a,b⟩:=h; (cQ b).trans a.length_eq
theorem Zr {l':List (Nat × β)} (h:Paired (fun (kv:Key × V) (p:Nat × β)=>kv.1 = Sum.inl (p.1:Int) ∧ R kv.2 p.1 p.2) kvs l') (v:Nat) :
  (iz kvs (Sum.inl (v:Int)) = none ∧ ¬ v ∈ l'.map (·.1)) ∨ ∃ u b,iz kvs (Sum.inl (v:Int)) = some u ∧ (v,b) ∈ l' ∧ R u v b:=by
 induction h with
 | nil=>exact .inl ⟨rfl,by simp⟩
 | @cons x y l₁ l₂ r rr ih =>
  by_cases e:x.1 = Sum.inl (v:Int)
  ·refine .inr ⟨x.2,y.2,KU e,?_,?_⟩
   ·have:y.1 = v:=by
     have q:=r.1.symm.trans e
     injection q with q
     omega
    rw [← this]
    exact List.mem_cons_self ..
   ·have:y.1 = v:=by
     have q:=r.1.symm.trans e
     injection q with q
     omega
    rw [← this]
    exact r.2
  ·rw [KW e]
   have ne:¬ y.1 = v:=fun z=>e (by rw [r.1,z])
   rcases ih with ⟨h1,h2⟩ | ⟨u,b,h1,h2,h3⟩
   ·refine .inl ⟨h1,?_⟩
    simp only [List.map_cons,List.mem_cons,not_or]
    exact ⟨fun z=>ne z.symm,h2⟩
   ·exact .inr ⟨u,b,h1,List.mem_cons_of_mem _ h2,h3⟩
theorem Dk.Ly (h:Dk R kvs l) (v:Nat):iz kvs (Sum.inl (v:Int)) = none ↔ ¬ v ∈ l.map (·.1):=by
 obtain ⟨l',a,b⟩:=h
 have e:v ∈ l.map (·.1) ↔ v ∈ l'.map (·.1):=(a.map _).mem_iff.symm
 rw [e]
 rcases Zr b v with ⟨h1,h2⟩ | ⟨u,c,h1,h2,_⟩
 ·exact ⟨fun _=>h2,fun _=>h1⟩
 ·refine ⟨fun z=>?_,fun z=>absurd (List.mem_map.mpr ⟨_,h2,rfl⟩) z⟩
  rw [h1] at z
  cases z
theorem Dk.some_of (h:Dk R kvs l) {v:Nat} {u:V} (e:iz kvs (Sum.inl (v:Int)) = some u):∃ b,(v,b) ∈ l ∧ R u v b:=by
 obtain ⟨l',a,b⟩:=h
 rcases Zr b v with ⟨h1,h2⟩ | ⟨u',c,h1,h2,h3⟩
 ·rw [h1] at e
  cases e
 ·rw [h1] at e
  cases e
  exact ⟨c,a.mem_iff.mp h2,h3⟩
theorem Dk.isSome (h:Dk R kvs l) (v:Nat):(iz kvs (Sum.inl (v:Int))).isSome = decide (v ∈ l.map (·.1)):=by
 have:=h.Ly v
 cases e:iz kvs (Sum.inl (v:Int)) with
 | none=>simp [this.mp e]
 | some u =>
  have:v ∈ l.map (·.1):=Classical.byContradiction fun z=>by
   rw [this.mpr z] at e
   cases e
  simp [this]
theorem aiD {l:List (Nat × β)} (nd:(l.map (·.1)).Nodup) {v:Nat} {b c:β} (h:(v,b) ∈ l) (h':(v,c) ∈ l):b = c:=by
 induction l with
 | nil=>simp at h
 | cons x r ih =>
  rw [List.map_cons,List.nodup_cons] at nd
  rcases List.mem_cons.mp h with e | h
  ·rcases List.mem_cons.mp h' with e' | h'
   ·have z:=e.trans e'.symm
    cases z
    rfl
   ·exact absurd (List.mem_map.mpr ⟨_,h',by rw [← e]⟩) nd.1
  ·rcases List.mem_cons.mp h' with e' | h'
   ·exact absurd (List.mem_map.mpr ⟨_,h,by rw [← e']⟩) nd.1
   ·exact ih nd.2 h h'
theorem Dk.at_ (h:Dk R kvs l) (nd:(l.map (·.1)).Nodup) {v:Nat} {b:β} (hm:(v,b) ∈ l):∃ u,iz kvs (Sum.inl (v:Int)) = some u ∧ R u v b:=by
 cases e:iz kvs (Sum.inl (v:Int)) with
 | none=>exact absurd (List.mem_map.mpr ⟨_,hm,rfl⟩) ((h.Ly v).mp e)
 | some u =>
  obtain ⟨c,h1,h2⟩:=h.some_of e
  cases aiD nd hm h1
  exact ⟨u,rfl,h2⟩
theorem Dk.XF (h:Dk R kvs l) {v:Nat} {u:V} {b:β} (e:¬ v ∈ l.map (·.1)) (r:R u v b):Dk R (putK kvs (Sum.inl (v:Int)) u) ((v,b) :: l):=by
 rw [ajG _ ((h.Ly v).mpr e)]
 obtain ⟨l',a,q⟩:=h
 exact ⟨l' ++ [(v,b)],(List.perm_append_comm).trans (a.cons (v,b)),vD q (vC ⟨rfl,r⟩)⟩
theorem Dk.aln (h:Dk R kvs l) {v:Nat} {u:V} (e:v ∈ l.map (·.1)) (r:∀ b,(v,b) ∈ l → R u v b):Dk R (putK kvs (Sum.inl (v:Int)) u) l:=by
 have hs:(kvs.any fun kv=>decide (kv.1 = Sum.inl (v:Int))) = true:=by rw [KY,h.isSome]; exact decide_eq_true e
 unfold putK
 rw [if_pos hs]
 obtain ⟨l',a,q⟩:=h
 refine ⟨l',a,?_⟩
 have r':∀ b,(v,b) ∈ l' → R u v b:=fun b hb=>r b (a.mem_iff.mp hb)
 clear hs e a r
 induction q with
 | nil=>exact .nil
 | @cons x y l₁ l₂ rr _ ih =>
  refine .cons ?_ (ih fun b hb=>r' b (List.mem_cons_of_mem _ hb))
  dsimp only
  by_cases c:x.1 = Sum.inl (v:Int)
  ·rw [if_pos c]
   have:y.1 = v:=by
    have q:=rr.1.symm.trans c
    injection q with q
    omega
   refine ⟨rr.1,?_⟩
   rw [this]
   exact r' y.2 (by rw [← this]; exact List.mem_cons_self ..)
  ·rw [if_neg c]
   exact rr
theorem Dk.drop (h:Dk R kvs l) (v:Nat):Dk R (LZ kvs (Sum.inl (v:Int))) (l.filter fun p=>decide (p.1 ≠ v)):=by
 obtain ⟨l',a,q⟩:=h
 refine ⟨l'.filter fun p=>decide (p.1 ≠ v),a.filter _,?_⟩
 unfold LZ
 refine agV _ _ q fun x y r=>?_
 rw [r.1]
 by_cases e:y.1 = v
 ·simp [e]
 ·have:¬ (Sum.inl (y.1:Int):Key) = Sum.inl (v:Int):=fun z=>e (by injection z with z; omega)
  simp [e,this]
theorem Dk.keys (h:Dk R kvs l):∃ ks:List Nat,ks.Perm (l.map (·.1)) ∧ (kvs.map fun kv=>kV kv.1) = ks.map fun (k:Nat)=>V.int (k:Int):=by
 obtain ⟨l',a,q⟩:=h
 refine ⟨l'.map (·.1),a.map _,?_⟩
 clear a
 induction q with
 | nil=>rfl
 | @cons x y l₁ l₂ rr _ ih =>
  show kV x.1 :: _ = V.int (y.1:Int) :: _
  rw [rr.1]
  exact congrArg (List.cons _) ih
end
theorem aH.upd {H:Hp} {p:Addr} {o:HO} (h:H p = none):aH H (upd H p o):=fun b u e=>by rw [ak (ay e h)]; exact e
noncomputable abbrev nB (H:Hp) (x dx C:Addr) (fs:List (Str × V)):Hp:=L2.upd (L2.upd H dx (.own x)) x (.ins C dx fs)
theorem aiE {H:Hp} {x dx C:Addr} {fs:List (Str × V)}:nB H x dx C fs x = some (.ins C dx fs):=ae
theorem aH.nB {H:Hp} {x dx C:Addr} {fs:List (Str × V)} (h1:H x = none) (h2:H dx = none):aH H (nB H x dx C fs):=fun b u e=>by
 unfold Pt.nB
 rw [ak (ay e h1),ak (ay e h2)]
 exact e
end Pt
namespace Pt
open PySem PySem.Spec PyProof.Rows L2
noncomputable def top (i:Nat):Stmt:=PySem.Challenge.pw_policyturn_s01_answers.main.body.getD i (.Pass ⟨0,0,0,0⟩)
noncomputable abbrev zc:Stmt:=top 3
noncomputable abbrev pL:Stmt:=top 4
noncomputable abbrev pK:Stmt:=top 5
noncomputable abbrev pO:Stmt:=inClass (top 7) 0
noncomputable abbrev jF:Stmt:=inClass (top 7) 1
noncomputable abbrev eN:Stmt:=inClass (top 7) 2
noncomputable abbrev lD:Stmt:=inClass (top 8) 0
noncomputable abbrev iq:Stmt:=inClass (top 8) 1
noncomputable abbrev lF:Stmt:=inClass (top 9) 0
noncomputable abbrev iQ:Stmt:=inClass (top 10) 0
noncomputable abbrev fR:Stmt:=inClass (top 10) 1
noncomputable abbrev dS:Stmt:=inClass (top 10) 2
noncomputable abbrev fY:Stmt:=inClass (top 10) 3
noncomputable abbrev fZ:Stmt:=inClass (top 10) 4
noncomputable abbrev fc:Stmt:=inClass (top 10) 5
noncomputable abbrev f6:Stmt:=inClass (top 10) 6
noncomputable abbrev gO:Stmt:=inClass (top 10) 7
noncomputable abbrev lE:Stmt:=inClass (top 11) 0
noncomputable abbrev jt:Stmt:=inClass (top 12) 0
noncomputable abbrev ik:Stmt:=inClass (top 12) 1
noncomputable abbrev gM:Stmt:=inClass (top 12) 2
noncomputable abbrev gG:Stmt:=inClass (top 12) 3
noncomputable abbrev ny:Stmt:=inClass (top 12) 4
noncomputable abbrev jb:Stmt:=top 21
noncomputable abbrev DB:Stmt:=top 22
noncomputable abbrev zb:Stmt:=top 23
noncomputable abbrev Rw:Stmt:=top 24
noncomputable abbrev DA:Stmt:=top 25
noncomputable abbrev Je:Stmt:=top 26
noncomputable abbrev kq:Stmt:=inClass (top 35) 0
noncomputable abbrev pN:Stmt:=top 37
noncomputable abbrev ja:Stmt:=top 38
noncomputable abbrev Dy:Stmt:=top 39
noncomputable abbrev rV:Stmt:=top 40
noncomputable abbrev pG:Stmt:=top 41
noncomputable abbrev pH:Stmt:=top 42
noncomputable abbrev nj:Stmt:=top 43
noncomputable abbrev gF:Stmt:=top 44
noncomputable abbrev kj:Stmt:=top 45
noncomputable abbrev jQ:Stmt:=top 46
noncomputable abbrev lA:Stmt:=top 48
noncomputable abbrev ly:Stmt:=top 49
noncomputable abbrev ni:Stmt:=top 50
noncomputable abbrev iN:Stmt:=top 51
noncomputable abbrev rT:Stmt:=top 52
noncomputable abbrev iP:Stmt:=top 53
noncomputable abbrev kh:Stmt:=top 54
noncomputable abbrev lB:Stmt:=top 55
noncomputable abbrev Jb:Stmt:=top 57
noncomputable abbrev jd:Stmt:=top 64
noncomputable abbrev jD:Stmt:=top 65
noncomputable abbrev jc:Stmt:=top 66
noncomputable abbrev iO:Stmt:=top 67
noncomputable abbrev vt:Stmt:=top 68
noncomputable abbrev I0:Stmt:=top 69
noncomputable abbrev ki:Stmt:=top 70
noncomputable abbrev pI:Stmt:=top 71
noncomputable abbrev pJ:Stmt:=top 72
noncomputable abbrev nu:Stmt:=top 73
noncomputable abbrev Ja:Stmt:=top 74
noncomputable abbrev pM:Stmt:=top 75
noncomputable abbrev vv:Stmt:=top 76
noncomputable abbrev Jc:Stmt:=top 77
noncomputable abbrev zd:Stmt:=top 78
noncomputable abbrev Jd:Stmt:=top 79
noncomputable abbrev vq:Stmt:=top 80
noncomputable abbrev Dz:Stmt:=top 81
noncomputable abbrev nt:Stmt:=top 82
noncomputable abbrev DC:Stmt:=top 83
noncomputable abbrev lC:Stmt:=top 85
noncomputable abbrev pP:Stmt:=inClass (top 90) 0
noncomputable abbrev nv:Stmt:=top 91
noncomputable abbrev ko:Stmt:=inClass (top 95) 0
noncomputable abbrev je:Stmt:=inClass (top 95) 1
noncomputable abbrev jE:Stmt:=inClass (top 95) 2
noncomputable abbrev vy:Stmt:=top 96
noncomputable abbrev qN:List Str:=["total","came"]
theorem MS:dh qN "total" = 0:=by decide +kernel
theorem nM:dh qN "came" = 1:=by decide +kernel
theorem Eb:dh qN "is_whole" = qN.length:=by decide +kernel
theorem HD:dh qN "rules_by_place" = qN.length:=by decide +kernel
noncomputable abbrev jh:List Str:=["start","current","floor","parts"]
theorem xg:dh jh "start" = 0:=by decide +kernel
theorem mQ:dh jh "current" = 1:=by decide +kernel
theorem qk:dh jh "floor" = 2:=by decide +kernel
theorem d9:dh jh "parts" = 3:=by decide +kernel
theorem yw:dh jh "has_whole" = jh.length:=by decide +kernel
noncomputable abbrev qP:List Str:=["have","turned","gone"]
theorem ku:dh qP "have" = 0:=by decide +kernel
theorem kJ:dh qP "turned" = 1:=by decide +kernel
theorem nN:dh qP "gone" = 2:=by decide +kernel
noncomputable abbrev bI:List Str:=["published","in_force","pending","retired","starts","memories"]
theorem iW:dh bI "published" = 0:=by decide +kernel
theorem bu:dh bI "in_force" = 1:=by decide +kernel
theorem eT:dh bI "pending" = 2:=by decide +kernel
theorem f7:dh bI "retired" = 3:=by decide +kernel
theorem ee:dh bI "starts" = 4:=by decide +kernel
theorem cJ:dh bI "memories" = 5:=by decide +kernel
theorem Lz:dh bI "forget" = bI.length:=by decide +kernel
theorem AW:dh bI "has_published" = bI.length:=by decide +kernel
theorem tP:dh bI "rules_of" = bI.length:=by decide +kernel
theorem HE:dh bI "all_have" = bI.length:=by decide +kernel
theorem Ec:dh bI "all_turned" = bI.length:=by decide +kernel
theorem HF:dh bI "all_gone" = bI.length:=by decide +kernel
theorem wL:dh bI "target" = bI.length:=by decide +kernel
noncomputable abbrev qO:List Str:=["key","route","passed","stamp","time"]
theorem MT:dh qO "key" = 0:=by decide +kernel
theorem qm:dh qO "route" = 1:=by decide +kernel
theorem kI:dh qO "passed" = 2:=by decide +kernel
theorem xh:dh qO "stamp" = 3:=by decide +kernel
theorem JR:dh qO "time" = 4:=by decide +kernel
noncomputable abbrev eF:List Str:=["cap","life","room","book","now","switches","controller","bag","lost","packets","entered","delivered","dropped_for"]
theorem adA:dh eF "cap" = 0:=by decide +kernel
theorem MR:dh eF "life" = 1:=by decide +kernel
theorem aa3:dh eF "room" = 2:=by decide +kernel
theorem uz:dh eF "book" = 3:=by decide +kernel
theorem ju:dh eF "now" = 4:=by decide +kernel
theorem fP:dh eF "switches" = 5:=by decide +kernel
theorem bq:dh eF "controller" = 6:=by decide +kernel
theorem gT:dh eF "bag" = 7:=by decide +kernel
theorem B4:dh eF "lost" = 8:=by decide +kernel
theorem gq:dh eF "packets" = 9:=by decide +kernel
theorem uQ:dh eF "entered" = 10:=by decide +kernel
theorem qV:dh eF "delivered" = 11:=by decide +kernel
theorem j3:dh eF "dropped_for" = 12:=by decide +kernel
theorem fU:dh eF "has_switch" = eF.length:=by decide +kernel
theorem wK:dh eF "bag_is_full" = eF.length:=by decide +kernel
theorem Jz:dh eF "room_is_full" = eF.length:=by decide +kernel
theorem jR:dh eF "send" = eF.length:=by decide +kernel
noncomputable abbrev j9:List Str:=["kind","x","start","version","place","total","rule"]
theorem cK:dh j9 "kind" = 0:=by decide +kernel
theorem jv:dh j9 "x" = 1:=by decide +kernel
theorem ji:dh j9 "start" = 2:=by decide +kernel
theorem ck:dh j9 "version" = 3:=by decide +kernel
theorem uR:dh j9 "place" = 4:=by decide +kernel
theorem EA:dh j9 "total" = 5:=by decide +kernel
theorem lQ:dh j9 "rule" = 6:=by decide +kernel
noncomputable abbrev Ef:List Str:=["number","given"]
theorem JS:dh Ef "number" = 0:=by decide +kernel
theorem B5:dh Ef "given" = 1:=by decide +kernel
noncomputable abbrev vH:List Str:=["world"]
theorem oE:dh vH "world" = 0:=by decide +kernel
theorem Sd:dh vH "answer" = vH.length:=by decide +kernel
theorem Ea:dh vH "begin" = vH.length:=by decide +kernel
theorem wR:∀ us:List Value,us.length = 1 → ∃ a0,us = [a0]
 | [a0],_=>⟨a0,rfl⟩
theorem dQ:∀ us:List Value,us.length = 2 → ∃ a0 a1,us = [a0,a1]
 | [a0,a1],_=>⟨a0,a1,rfl⟩
theorem zh:∀ us:List Value,us.length = 3 → ∃ a0 a1 a2,us = [a0,a1,a2]
 | [a0,a1,a2],_=>⟨a0,a1,a2,rfl⟩
theorem anb:∀ us:List Value,us.length = 4 → ∃ a0 a1 a2 a3,us = [a0,a1,a2,a3]
 | [a0,a1,a2,a3],_=>⟨a0,a1,a2,a3,rfl⟩
theorem Yj:∀ us:List Value,us.length = 5 → ∃ a0 a1 a2 a3 a4,us = [a0,a1,a2,a3,a4]
 | [a0,a1,a2,a3,a4],_=>⟨a0,a1,a2,a3,a4,rfl⟩
theorem apF:∀ us:List Value,us.length = 8 → ∃ a0 a1 a2 a3 a4 a5 a6 a7,us = [a0,a1,a2,a3,a4,a5,a6,a7]
 | [a0,a1,a2,a3,a4,a5,a6,a7],_=>⟨a0,a1,a2,a3,a4,a5,a6,a7,rfl⟩
set_option genInjectivity false in
set_option genSizeOf false in
structure bg where
 c5:Addr
 bK:Addr
 bZ:Addr
 aE:Addr
 bX:Addr
 aN:Addr
 aU:Addr
 fG:Addr
 bH:Addr
 jj:Addr
 zN:FuncData
 gZ:Addr
 Ar:FuncData
 gB:Addr
 t8:FuncData
 gD:Addr
 As:FuncData
 cZ:Addr
 lU:FuncData
 b7:Addr
 jN:FuncData
 dY:Addr
 pB:FuncData
 cG:Addr
 jz:FuncData
 d7:Addr
 pC:FuncData
 cV:Addr
 mY:FuncData
 cz:Addr
 i6:FuncData
 bA:Addr
 g8:FuncData
 bW:Addr
 iw:FuncData
 b8:Addr
 jO:FuncData
 bU:Addr
 iX:FuncData
 b9:Addr
 jP:FuncData
 cy:Addr
 i5:FuncData
 eM:Addr
 uC:FuncData
 fF:Addr
 xO:FuncData
 bx:Addr
 dw:FuncData
 cu:Addr
 i0:FuncData
 cC:Addr
 j6:FuncData
 cY:Addr
 iM:FuncData
 dI:Addr
 oQ:FuncData
 jl:Addr
 RI:FuncData
 kQ:Addr
 L3:FuncData
 qt:Addr
 abq:FuncData
 lI:Addr
 J6:FuncData
 rA:Addr
 WE:FuncData
 cO:Addr
 eW:FuncData
 gC:Addr
 t9:FuncData
 dH:Addr
 oO:FuncData
 kC:Addr
 DK:FuncData
 iL:Addr
 Du:FuncData
 gV:Addr
 Am:FuncData
 gW:Addr
 An:FuncData
 gr:Addr
 xK:FuncData
 cM:Addr
 j5:FuncData
 eV:Addr
 rZ:FuncData
 fD:Addr
 uA:FuncData
 eK:Addr
 Cf:FuncData
 eJ:Addr
 Ce:FuncData
 fB:Addr
 EU:FuncData
 cU:Addr
 sP:FuncData
 g7:Addr
 L1:FuncData
 dc:Addr
 mW:FuncData
 dW:Addr
 zM:FuncData
 eL:Addr
 Cg:FuncData
 rq:Addr
 WD:FuncData
 dJ:Addr
 oR:FuncData
 ej:Addr
 qw:FuncData
 dX:Addr
 nT:FuncData
 c9:Addr
 mU:FuncData
 fQ:Addr
 Qq:FuncData
 kN:Addr
 ad3:FuncData
 eU:Addr
 rY:FuncData
 gX:Addr
 Ao:FuncData
 gY:Addr
 Aq:FuncData
 gu:Addr
 xM:FuncData
 kO:Addr
 ad4:FuncData
 fM:Addr
 pT:FuncData
 gz:Addr
 Qs:FuncData
 kP:Addr
 ad5:FuncData
 ig:Addr
 Ux:FuncData
 jZ:Addr
 ad6:FuncData
 gx:Addr
 Qp:FuncData
 jk:Addr
 YI:FuncData
 fC:Addr
 rC:FuncData
 jm:Addr
 YJ:FuncData
 fE:Addr
 uB:FuncData
 gE:Addr
 Au:FuncData
 gy:Addr
 xN:FuncData
 dZ:Addr
 r6:FuncData
 c6:Addr
 oS:FuncData
 dB:Addr
 qx:FuncData
 lT:Addr
 Qt:FuncData
 qy:Addr
 yX:Addr
 vn:Addr
 i8:Tok
 gc:Tok
 gb:Tok
noncomputable abbrev LX (A:bg):List (Int × Addr):=[(13,A.eK),(14,A.eJ),(15,A.fB),(16,A.cU),(17,A.g7),(18,A.dW),(19,A.eL)]
noncomputable abbrev EI (A:bg):List (Int × Addr):=[(1,A.fQ),(2,A.kN),(3,A.kO),(4,A.gz),(5,A.kP),(6,A.ig),(7,A.jZ),(8,A.gx),(9,A.jk),(10,A.jm)]
structure Txt (K:W.Frag) (mg:Str → Option Value) (A:bg):Prop where
 kD:yq K A.c5
 alW:mg "Part" = some (.ref A.c5)
 JC:Mk K A.c5 A.gD
 jU:bO K A.c5 "total"
 gh:bO K A.c5 "came"
 cB:yq K A.bK
 ZQ:mg "Switch" = some (.ref A.bK)
 vI:Mk K A.bK A.dY
 gI:bO K A.bK "start"
 eI:bO K A.bK "current"
 fV:bO K A.bK "floor"
 cE:bO K A.bK "parts"
 eu:yq K A.bZ
 ZR:mg "Memory" = some (.ref A.bZ)
 vJ:Mk K A.bZ A.d7
 eR:bO K A.bZ "have"
 eA:bO K A.bZ "turned"
 fK:bO K A.bZ "gone"
 aA:yq K A.aE
 aa4:mg "Controller" = some (.ref A.aE)
 pq:Mk K A.aE A.cV
 cR:bO K A.aE "published"
 aV:bO K A.aE "in_force"
 b5:bO K A.aE "pending"
 cF:bO K A.aE "retired"
 bY:bO K A.aE "starts"
 bD:bO K A.aE "memories"
 dP:yq K A.bX
 aiM:mg "Packet" = some (.ref A.bX)
 AX:Mk K A.bX A.eM
 jV:bO K A.bX "key"
 fW:bO K A.bX "route"
 fh:bO K A.bX "passed"
 gJ:bO K A.bX "stamp"
 jf:bO K A.bX "time"
 aB:yq K A.aN
 akj:mg "World" = some (.ref A.aN)
 Eg:Mk K A.aN A.fF
 nA:bO K A.aN "cap"
 jT:bO K A.aN "life"
 lH:bO K A.aN "room"
 iS:bO K A.aN "book"
 fz:bO K A.aN "now"
 cN:bO K A.aN "switches"
 aR:bO K A.aN "controller"
 dF:bO K A.aN "bag"
 jS:bO K A.aN "lost"
 cT:bO K A.aN "packets"
 hU:bO K A.aN "entered"
 gg:bO K A.aN "delivered"
 di:bO K A.aN "dropped_for"
 aG:yq K A.aU
 rX:mg "Message" = some (.ref A.aU)
 jo:Mk K A.aU A.cO
 bG:bO K A.aU "kind"
 eO:bO K A.aU "x"
 dG:bO K A.aU "start"
 br:bO K A.aU "version"
 gi:bO K A.aU "place"
 ie:bO K A.aU "total"
 eZ:bO K A.aU "rule"
 zW:yq K A.fG
 alX:mg "Call" = some (.ref A.fG)
 JD:Mk K A.fG A.gE
 jg:bO K A.fG "number"
 iT:bO K A.fG "given"
 oX:yq K A.bH
 ahE:mg "Session" = some (.ref A.bH)
 wO:Mk K A.bH A.dZ
 fg:bO K A.bH "world"
 Ah:cI K "is_key" "is_key" zc A.jj A.zN
 LV:mg "is_key" = some (.ref A.jj)
 IL:cI K "rule_fits" "rule_fits" pL A.gZ A.Ar
 afa:mg "rule_fits" = some (.ref A.gZ)
 Ax:cI K "rules_say" "rules_say" pK A.gB A.t8
 SO:mg "rules_say" = some (.ref A.gB)
 Tg:cI K "__init__" "Part.__init__" pO A.gD A.As
 GY:cI K "is_whole" "Part.is_whole" jF A.cZ A.lU
 Gb:Meth K A.c5 "is_whole" A.cZ
 v7:cI K "rules_by_place" "Part.rules_by_place" eN A.b7 A.jN
 JE:Meth K A.c5 "rules_by_place" A.b7
 Nz:cI K "__init__" "Switch.__init__" lD A.dY A.pB
 Bw:cI K "has_whole" "Switch.has_whole" iq A.cG A.jz
 AZ:Meth K A.bK "has_whole" A.cG
 NC:cI K "__init__" "Memory.__init__" lF A.d7 A.pC
 Dp:cI K "__init__" "Controller.__init__" iQ A.cV A.mY
 yV:cI K "forget" "Controller.forget" fR A.cz A.i6
 yz:Meth K A.aE "forget" A.cz
 pF:cI K "has_published" "Controller.has_published" dS A.bA A.g8
 BI:Meth K A.aE "has_published" A.bA
 v8:cI K "rules_of" "Controller.rules_of" fY A.bW A.iw
 vK:Meth K A.aE "rules_of" A.bW
 v9:cI K "all_have" "Controller.all_have" fZ A.b8 A.jO
 JF:Meth K A.aE "all_have" A.b8
 sr:cI K "all_turned" "Controller.all_turned" fc A.bU A.iX
 FQ:Meth K A.aE "all_turned" A.bU
 wc:cI K "all_gone" "Controller.all_gone" f6 A.b9 A.jP
 JG:Meth K A.aE "all_gone" A.b9
 yU:cI K "target" "Controller.target" gO A.cy A.i5
 yy:Meth K A.aE "target" A.cy
 NB:cI K "__init__" "Packet.__init__" lE A.eM A.uC
 Rt:cI K "__init__" "World.__init__" jt A.fF A.xO
 Bv:cI K "has_switch" "World.has_switch" ik A.bx A.dw
 gj:Meth K A.aN "has_switch" A.bx
 yT:cI K "bag_is_full" "World.bag_is_full" gM A.cu A.i0
 yx:Meth K A.aN "bag_is_full" A.cu
 yp:cI K "room_is_full" "World.room_is_full" gG A.cC A.j6
 LF:Meth K A.aN "room_is_full" A.cC
 Rr:cI K "send" "World.send" ny A.cY A.iM
 kH:Meth K A.aN "send" A.cY
 vj:cI K "route_is_right" "route_is_right" jb A.dI A.oQ
 Uv:mg "route_is_right" = some (.ref A.dI)
 Zn:cI K "enter" "enter" DB A.jl A.RI
 alZ:mg "enter" = some (.ref A.jl)
 UZ:cI K "let_in" "let_in" zb A.kQ A.L3
 akk:mg "let_in" = some (.ref A.kQ)
 ahR:cI K "hop" "hop" Rw A.qt A.abq
 aoN:mg "hop" = some (.ref A.qt)
 RN:cI K "go_on" "go_on" DA A.lI A.J6
 afU:mg "go_on" = some (.ref A.lI)
 aeN:cI K "fare" "fare" Je A.rA A.WE
 anz:mg "fare" = some (.ref A.rA)
 r9:aeH K "__init__" "Message.__init__" kq A.cO A.eW
 xE:an4 K A.eW [(Value.int 0 A.i8),(Value.int 0 A.gc),(Value.int 0 A.gb),(Value.none)]
 Ay:cI K "hand_over" "hand_over" pN A.gC A.t9
 SQ:mg "hand_over" = some (.ref A.gC)
 vh:cI K "take_at_switch" "take_at_switch" ja A.dH A.oO
 Uu:mg "take_at_switch" = some (.ref A.dH)
 DM:cI K "reply" "reply" Dy A.kC A.DK
 RE:mg "reply" = some (.ref A.kC)
 Mt:cI K "take_row" "take_row" rV A.iL A.Du
 ahF:mg "take_row" = some (.ref A.iL)
 II:cI K "take_flip" "take_flip" pG A.gV A.Am
 ae7:mg "take_flip" = some (.ref A.gV)
 IJ:cI K "take_drop" "take_drop" pH A.gW A.An
 ae8:mg "take_drop" = some (.ref A.gW)
 FJ:cI K "take_hello" "take_hello" nj A.gr A.xK
 adN:mg "take_hello" = some (.ref A.gr)
 o8:cI K "take_at_controller" "take_at_controller" gF A.cM A.j5
 LU:mg "take_at_controller" = some (.ref A.cM)
 Ag:cI K "put_in_force" "put_in_force" kj A.eV A.rZ
 YF:mg "put_in_force" = some (.ref A.eV)
 CO:cI K "forget_gone" "forget_gone" jQ A.fD A.uA
 aa5:mg "forget_gone" = some (.ref A.fD)
 CM:cI K "tell_policy" "tell_policy" lA A.eK A.Cf
 ama:mg "tell_policy" = some (.ref A.eK)
 CL:cI K "tell_switch" "tell_switch" ly A.eJ A.Ce
 al9:mg "tell_switch" = some (.ref A.eJ)
 FI:cI K "tell_knows" "tell_knows" ni A.fB A.EU
 anw:mg "tell_knows" = some (.ref A.fB)
 tw:cI K "tell_controller" "tell_controller" iN A.cU A.sP
 ai7:mg "tell_controller" = some (.ref A.cU)
 Ms:cI K "tell_bag" "tell_bag" rT A.g7 A.L1
 aoM:mg "tell_bag" = some (.ref A.g7)
 tE:cI K "message_numbers" "message_numbers" iP A.dc A.mW
 Sf:mg "message_numbers" = some (.ref A.dc)
 Ae:cI K "tell_packets" "tell_packets" kh A.dW A.zM
 alY:mg "tell_packets" = some (.ref A.dW)
 CN:cI K "tell_counts" "tell_counts" lB A.eL A.Cg
 amb:mg "tell_counts" = some (.ref A.eL)
 aeK:cI K "tell" "tell" Jb A.rq A.WD
 anx:mg "tell" = some (.ref A.rq)
 vm:cI K "begin_is_right" "begin_is_right" jd A.dJ A.oR
 Uw:mg "begin_is_right" = some (.ref A.dJ)
 yo:cI K "rule_is_right" "rule_is_right" jD A.ej A.qw
 Wt:mg "rule_is_right" = some (.ref A.ej)
 r8:cI K "cut_in_rules" "cut_in_rules" jc A.dX A.nT
 JW:mg "cut_in_rules" = some (.ref A.dX)
 tD:cI K "rules_are_right" "rules_are_right" iO A.c9 A.mU
 Se:mg "rules_are_right" = some (.ref A.c9)
 Rp:cI K "publish" "publish" vt A.fQ A.Qq
 apa:mg "publish" = some (.ref A.fQ)
 aeI:cI K "work" "work" I0 A.kN A.ad3
 aqq:mg "work" = some (.ref A.kN)
 Af:cI K "send_missing" "send_missing" ki A.eU A.rY
 YE:mg "send_missing" = some (.ref A.eU)
 Aw:cI K "send_rows" "send_rows" pI A.gX A.Ao
 SN:mg "send_rows" = some (.ref A.gX)
 IK:cI K "send_flip" "send_flip" pJ A.gY A.Aq
 ae9:mg "send_flip" = some (.ref A.gY)
 FL:cI K "send_drops" "send_drops" nu A.gu A.xM
 adO:mg "send_drops" = some (.ref A.gu)
 aeJ:cI K "tick" "tick" Ja A.kO A.ad4
 aqr:mg "tick" = some (.ref A.kO)
 uy:cI K "is_in_bag" "is_in_bag" pM A.fM A.pT
 Ik:mg "is_in_bag" = some (.ref A.fM)
 Rq:cI K "deliver" "deliver" vv A.gz A.Qs
 apb:mg "deliver" = some (.ref A.gz)
 aeL:cI K "lose" "lose" Jc A.kP A.ad5
 aqs:mg "lose" = some (.ref A.kP)
 U0:cI K "double" "double" zd A.ig A.Ux
 ap8:mg "double" = some (.ref A.ig)
 aeM:cI K "flow" "flow" Jd A.jZ A.ad6
 aqt:mg "flow" = some (.ref A.jZ)
 Ro:cI K "restart" "restart" vq A.gx A.Qp
 ao9:mg "restart" = some (.ref A.gx)
 Zm:cI K "hello" "hello" Dz A.jk A.YI
 aqo:mg "hello" = some (.ref A.jk)
 yn:cI K "send_hello" "send_hello" nt A.fC A.rC
 PY:mg "send_hello" = some (.ref A.fC)
 Zo:cI K "crash" "crash" DC A.jm A.YJ
 aqp:mg "crash" = some (.ref A.jm)
 CP:cI K "answer_call" "answer_call" lC A.fE A.uB
 aa6:mg "answer_call" = some (.ref A.fE)
 Th:cI K "__init__" "Call.__init__" pP A.gE A.Au
 FN:cI K "read_calls" "read_calls" nv A.gy A.xN
 adP:mg "read_calls" = some (.ref A.gy)
 KQ:cI K "__init__" "Session.__init__" ko A.dZ A.r6
 FO:cI K "answer" "Session.answer" je A.c6 A.oS
 Ua:Meth K A.bH "answer" A.c6
 GX:cI K "begin" "Session.begin" jE A.dB A.qx
 V4:Meth K A.bH "begin" A.dB
 aaf:cI K "answers" "answers" vy A.lT A.Qt
 apc:mg "answers" = some (.ref A.lT)
 wM:[A.c5,A.bK,A.bZ,A.aE,A.bX,A.aN,A.aU,A.fG,A.bH].Nodup
 jM:∃ tk,mg "ALL_SWITCHES" = some (.int (-1) tk)
 tX:∃ tk,mg "LAST_KEY" = some (.int (65535) tk)
 iI:∃ tk,mg "UNDER_WAY" = some (.int (0) tk)
 lS:∃ tk,mg "NOT_LET_PASS" = some (.int (1) tk)
 qY:∃ tk,mg "NOT_WHOLE" = some (.int (2) tk)
 xw:∃ tk,mg "TOO_OLD" = some (.int (3) tk)
 iu:∃ tk,mg "NOTHING_CURRENT" = some (.int (4) tk)
 rh:∃ tk,mg "DELIVERED" = some (.int (5) tk)
 e8:∃ tk,mg "MOST_SWITCHES_OF_A_ROUTE" = some (.int (8) tk)
 xx:∃ tk,mg "ROW" = some (.int (0) tk)
 zH:∃ tk,mg "FLIP" = some (.int (1) tk)
 DJ:∃ tk,mg "DROP" = some (.int (2) tk)
 uV:∃ tk,mg "HELLO" = some (.int (3) tk)
 DI:∃ tk,mg "HAVE" = some (.int (4) tk)
 qX:∃ tk,mg "TURNED" = some (.int (5) tk)
 JV:∃ tk,mg "GONE" = some (.int (6) tk)
 jx:∃ tk,mg "ENTER_answering" = some (.int (11) tk)
 PX:∃ tk,mg "HOP" = some (.int (12) tk)
 nQ:∃ tk,mg "LAST_TIME" = some (.int (4611686018427387904) tk)
 iJ:∃ tk,mg "MOST_RULE_NUMBERS" = some (.int (64) tk)
 rf:∃ tk,mg "MOST_FLOW" = some (.int (5000) tk)
 xy:∃ tk,mg "PUBLISH" = some (.int (1) tk)
 kL:∃ tk,mg "ENTER_reading" = some (.int (11) tk)
 EH:∃ tk,mg "BEGIN" = some (.int (0) tk)
 qZ:∃ tk,mg "NOT_BEGUN" = some (.int (-20) tk)
 xr:mg "TELLING" = some (.ref A.qy)
 ahD:RM K A.qy (LX A)
 zG:mg "CALLS" = some (.ref A.yX)
 adM:RM K A.yX (EI A)
 xu:mg "NUMBERS" = some (.ref A.vn)
 ahx:akA K A.vn [.int 4,.int 0,.int 0,.int 1,.int 1,.int 1,.int 1,.int 1,.int 1,.int 1,.int 0,.int 1,.int 1,.int 3,.int 1,.int 1,.int 0,.int 0,.int 0,.int 0]
 qM:mg "enumerate" = none
 c8:mg "len" = none
 JB:mg "list" = none
 JA:mg "max" = none
 qL:mg "range" = none
 lM:mg "sorted" = none
 Ed:mg "tuple" = none
variable {K:W.Frag} {mg:Str → Option Value} {A:bg}
theorem Txt.Mg (T:Txt K mg A):Binds K A.zN ["number"] []:=T.Ah.binds fun _ _ _ _ _ _ us hl=>by obtain ⟨_,rfl⟩:=wR us hl; rfl
theorem aid:aJ ["number"] ["number"] (ah zc):=⟨rfl,rfl,rfl,by decide +kernel,rfl,by decide +kernel,by decide +kernel⟩
theorem Txt.afi (T:Txt K mg A):Binds K A.Ar ["rule","x","key"] []:=T.IL.binds fun _ _ _ _ _ _ us hl=>by obtain ⟨_,_,_,rfl⟩:=zh us hl; rfl
theorem acj:aJ ["rule","x","key"] ["rule","x","key"] (ah pL):=⟨rfl,rfl,rfl,by decide +kernel,rfl,by decide +kernel,by decide +kernel⟩
theorem Txt.S8 (T:Txt K mg A):Binds K A.t8 ["rules","x","key"] []:=T.Ax.binds fun _ _ _ _ _ _ us hl=>by obtain ⟨_,_,_,rfl⟩:=zh us hl; rfl
theorem Oa:aJ ["rules","x","key","rule"] ["rules","x","key"] (ah pK):=⟨rfl,rfl,rfl,by decide +kernel,rfl,by decide +kernel,by decide +kernel⟩
theorem Txt.afj (T:Txt K mg A):Binds K A.As ["self","total"] []:=T.Tg.binds fun _ _ _ _ _ _ us hl=>by obtain ⟨_,_,rfl⟩:=dQ us hl; rfl
theorem acp:aJ ["self","total"] ["self","total"] (ah pO):=⟨rfl,rfl,rfl,by decide +kernel,rfl,by decide +kernel,by decide +kernel⟩
theorem Txt.GO (T:Txt K mg A):Binds K A.lU ["self"] []:=T.GY.binds fun _ _ _ _ _ _ us hl=>by obtain ⟨_,rfl⟩:=wR us hl; rfl
theorem TF:aJ ["self"] ["self"] (ah jF):=⟨rfl,rfl,rfl,by decide +kernel,rfl,by decide +kernel,by decide +kernel⟩
theorem Txt.Ku (T:Txt K mg A):Binds K A.jN ["self"] []:=T.v7.binds fun _ _ _ _ _ _ us hl=>by obtain ⟨_,rfl⟩:=wR us hl; rfl
theorem tF:aJ ["self","place"] ["self"] (ah eN):=⟨rfl,rfl,rfl,by decide +kernel,rfl,by decide +kernel,by decide +kernel⟩
theorem Txt.Nm (T:Txt K mg A):Binds K A.pB ["self","start"] []:=T.Nz.binds fun _ _ _ _ _ _ us hl=>by obtain ⟨_,_,rfl⟩:=dQ us hl; rfl
theorem Xx:aJ ["self","start"] ["self","start"] (ah lD):=⟨rfl,rfl,rfl,by decide +kernel,rfl,by decide +kernel,by decide +kernel⟩
theorem Txt.Bq (T:Txt K mg A):Binds K A.jz ["self","version"] []:=T.Bw.binds fun _ _ _ _ _ _ us hl=>by obtain ⟨_,_,rfl⟩:=dQ us hl; rfl
theorem NJ:aJ ["self","version"] ["self","version"] (ah iq):=⟨rfl,rfl,rfl,by decide +kernel,rfl,by decide +kernel,by decide +kernel⟩
theorem Txt.Nn (T:Txt K mg A):Binds K A.pC ["self"] []:=T.NC.binds fun _ _ _ _ _ _ us hl=>by obtain ⟨_,rfl⟩:=wR us hl; rfl
theorem Xz:aJ ["self"] ["self"] (ah lF):=⟨rfl,rfl,rfl,by decide +kernel,rfl,by decide +kernel,by decide +kernel⟩
theorem Txt.Sk (T:Txt K mg A):Binds K A.mY ["self","starts"] []:=T.Dp.binds fun _ _ _ _ _ _ us hl=>by obtain ⟨_,_,rfl⟩:=dQ us hl; rfl
theorem Oc:aJ ["self","starts"] ["self","starts"] (ah iQ):=⟨rfl,rfl,rfl,by decide +kernel,rfl,by decide +kernel,by decide +kernel⟩
theorem Txt.yQ (T:Txt K mg A):Binds K A.i6 ["self"] []:=T.yV.binds fun _ _ _ _ _ _ us hl=>by obtain ⟨_,rfl⟩:=wR us hl; rfl
theorem wu:aJ ["self","start"] ["self"] (ah fR):=⟨rfl,rfl,rfl,by decide +kernel,rfl,by decide +kernel,by decide +kernel⟩
theorem Txt.Cz (T:Txt K mg A):Binds K A.g8 ["self","version"] []:=T.pF.binds fun _ _ _ _ _ _ us hl=>by obtain ⟨_,_,rfl⟩:=dQ us hl; rfl
theorem AI:aJ ["self","version"] ["self","version"] (ah dS):=⟨rfl,rfl,rfl,by decide +kernel,rfl,by decide +kernel,by decide +kernel⟩
theorem Txt.vY (T:Txt K mg A):Binds K A.iw ["self","version"] []:=T.v8.binds fun _ _ _ _ _ _ us hl=>by obtain ⟨_,_,rfl⟩:=dQ us hl; rfl
theorem Hj:aJ ["self","version"] ["self","version"] (ah fY):=⟨rfl,rfl,rfl,by decide +kernel,rfl,by decide +kernel,by decide +kernel⟩
theorem Txt.Kv (T:Txt K mg A):Binds K A.jO ["self","version"] []:=T.v9.binds fun _ _ _ _ _ _ us hl=>by obtain ⟨_,_,rfl⟩:=dQ us hl; rfl
theorem tG:aJ ["self","version","memory"] ["self","version"] (ah fZ):=⟨rfl,rfl,rfl,by decide +kernel,rfl,by decide +kernel,by decide +kernel⟩
theorem Txt.FT (T:Txt K mg A):Binds K A.iX ["self","version"] []:=T.sr.binds fun _ _ _ _ _ _ us hl=>by obtain ⟨_,_,rfl⟩:=dQ us hl; rfl
theorem qG:aJ ["self","version","memory"] ["self","version"] (ah fc):=⟨rfl,rfl,rfl,by decide +kernel,rfl,by decide +kernel,by decide +kernel⟩
theorem Txt.Kw (T:Txt K mg A):Binds K A.jP ["self","version"] []:=T.wc.binds fun _ _ _ _ _ _ us hl=>by obtain ⟨_,_,rfl⟩:=dQ us hl; rfl
theorem tH:aJ ["self","version","memory"] ["self","version"] (ah f6):=⟨rfl,rfl,rfl,by decide +kernel,rfl,by decide +kernel,by decide +kernel⟩
theorem Txt.yP (T:Txt K mg A):Binds K A.i5 ["self"] []:=T.yU.binds fun _ _ _ _ _ _ us hl=>by obtain ⟨_,rfl⟩:=wR us hl; rfl
theorem Lc:aJ ["self"] ["self"] (ah gO):=⟨rfl,rfl,rfl,by decide +kernel,rfl,by decide +kernel,by decide +kernel⟩
theorem Txt.abd (T:Txt K mg A):Binds K A.uC ["self","key","route","stamp","time"] []:=T.NB.binds fun _ _ _ _ _ _ us hl=>by obtain ⟨_,_,_,_,_,rfl⟩:=Yj us hl; rfl
theorem Xy:aJ ["self","key","route","stamp","time"] ["self","key","route","stamp","time"] (ah lE):=⟨rfl,rfl,rfl,by decide +kernel,rfl,by decide +kernel,by decide +kernel⟩
theorem Txt.aer (T:Txt K mg A):Binds K A.xO ["self","n","cap","life","room"] []:=T.Rt.binds fun _ _ _ _ _ _ us hl=>by obtain ⟨_,_,_,_,_,rfl⟩:=Yj us hl; rfl
theorem Mz:aJ ["self","n","cap","life","room","i"] ["self","n","cap","life","room"] (ah jt):=⟨rfl,rfl,rfl,by decide +kernel,rfl,by decide +kernel,by decide +kernel⟩
theorem Txt.gA (T:Txt K mg A):Binds K A.dw ["self","x"] []:=T.Bv.binds fun _ _ _ _ _ _ us hl=>by obtain ⟨_,_,rfl⟩:=dQ us hl; rfl
theorem NI:aJ ["self","x"] ["self","x"] (ah ik):=⟨rfl,rfl,rfl,by decide +kernel,rfl,by decide +kernel,by decide +kernel⟩
theorem Txt.yO (T:Txt K mg A):Binds K A.i0 ["self"] []:=T.yT.binds fun _ _ _ _ _ _ us hl=>by obtain ⟨_,rfl⟩:=wR us hl; rfl
theorem Lb:aJ ["self"] ["self"] (ah gM):=⟨rfl,rfl,rfl,by decide +kernel,rfl,by decide +kernel,by decide +kernel⟩
theorem Txt.Mh (T:Txt K mg A):Binds K A.j6 ["self"] []:=T.yp.binds fun _ _ _ _ _ _ us hl=>by obtain ⟨_,rfl⟩:=wR us hl; rfl
theorem IZ:aJ ["self"] ["self"] (ah gG):=⟨rfl,rfl,rfl,by decide +kernel,rfl,by decide +kernel,by decide +kernel⟩
theorem Txt.kW (T:Txt K mg A):Binds K A.iM ["self","message"] []:=T.Rr.binds fun _ _ _ _ _ _ us hl=>by obtain ⟨_,_,rfl⟩:=dQ us hl; rfl
theorem aaH:aJ ["self","message"] ["self","message"] (ah ny):=⟨rfl,rfl,rfl,by decide +kernel,rfl,by decide +kernel,by decide +kernel⟩
theorem Txt.UK (T:Txt K mg A):Binds K A.oQ ["world","route"] []:=T.vj.binds fun _ _ _ _ _ _ us hl=>by obtain ⟨_,_,rfl⟩:=dQ us hl; rfl
theorem CU:aJ ["world","route","x"] ["world","route"] (ah jb):=⟨rfl,rfl,rfl,by decide +kernel,rfl,by decide +kernel,by decide +kernel⟩
theorem Txt.al3 (T:Txt K mg A):Binds K A.RI ["world","given"] []:=T.Zn.binds fun _ _ _ _ _ _ us hl=>by obtain ⟨_,_,rfl⟩:=dQ us hl; rfl
theorem aco:aJ ["world","given","key","route"] ["world","given"] (ah DB):=⟨rfl,rfl,rfl,by decide +kernel,rfl,by decide +kernel,by decide +kernel⟩
theorem Txt.aks (T:Txt K mg A):Binds K A.L3 ["world","key","route"] []:=T.UZ.binds fun _ _ _ _ _ _ us hl=>by obtain ⟨_,_,_,rfl⟩:=zh us hl; rfl
theorem Zt:aJ ["world","key","route","stamp","packet","outcome"] ["world","key","route"] (ah zb):=⟨rfl,rfl,rfl,by decide +kernel,rfl,by decide +kernel,by decide +kernel⟩
theorem Txt.aoX (T:Txt K mg A):Binds K A.abq ["world","given"] []:=T.ahR.binds fun _ _ _ _ _ _ us hl=>by obtain ⟨_,_,rfl⟩:=dQ us hl; rfl
theorem aie:aJ ["world","given","k","outcome"] ["world","given"] (ah Rw):=⟨rfl,rfl,rfl,by decide +kernel,rfl,by decide +kernel,by decide +kernel⟩
theorem Txt.agk (T:Txt K mg A):Binds K A.J6 ["world","packet"] []:=T.RN.binds fun _ _ _ _ _ _ us hl=>by obtain ⟨_,_,rfl⟩:=dQ us hl; rfl
theorem acn:aJ ["world","packet","fared"] ["world","packet"] (ah DA):=⟨rfl,rfl,rfl,by decide +kernel,rfl,by decide +kernel,by decide +kernel⟩
theorem Txt.anN (T:Txt K mg A):Binds K A.WE ["world","packet","x"] []:=T.aeN.binds fun _ _ _ _ _ _ us hl=>by obtain ⟨_,_,_,rfl⟩:=zh us hl; rfl
theorem afw:aJ ["world","packet","x","switch"] ["world","packet","x"] (ah Je):=⟨rfl,rfl,rfl,by decide +kernel,rfl,by decide +kernel,by decide +kernel⟩
theorem Txt.UO (T:Txt K mg A):Binds K A.eW ["self","kind","x","start","version","place","total","rule"] [(Value.int 0 A.i8),(Value.int 0 A.gc),(Value.int 0 A.gb),(Value.none)]:=T.r9.binds T.xE 4 (fun n h=>Nat.add_right_cancel h) fun _ _ _ _ _ _ _ us hl=>by obtain ⟨_,_,_,_,rfl⟩:=anb us hl; exact ⟨_,rfl,rfl⟩
theorem Txt.Sg (T:Txt K mg A):Vals [(V.int 0),(V.int 0),(V.int 0),(V.bL)] [(Value.int 0 A.i8),(Value.int 0 A.gc),(Value.int 0 A.gb),(Value.none)]:=(.cons ⟨_,rfl⟩ (.cons ⟨_,rfl⟩ (.cons ⟨_,rfl⟩ (.cons rfl .nil))))
theorem Txt.o5 (T:Txt K mg A):Binds K A.eW ["self","kind","x","start","version","place","total","rule"] [(Value.int 0 A.gc),(Value.int 0 A.gb),(Value.none)]:=T.r9.binds T.xE 5 (fun n h=>Nat.add_right_cancel h) fun _ _ _ _ _ _ _ us hl=>by obtain ⟨_,_,_,_,_,rfl⟩:=Yj us hl; exact ⟨_,rfl,rfl⟩
theorem Txt.mS (T:Txt K mg A):Vals [(V.int 0),(V.int 0),(V.bL)] [(Value.int 0 A.gc),(Value.int 0 A.gb),(Value.none)]:=(.cons ⟨_,rfl⟩ (.cons ⟨_,rfl⟩ (.cons rfl .nil)))
theorem Txt.UN (T:Txt K mg A):Binds K A.eW ["self","kind","x","start","version","place","total","rule"] []:=T.r9.binds T.xE 8 (fun n h=>Nat.add_right_cancel h) fun _ _ _ _ _ _ _ us hl=>by obtain ⟨_,_,_,_,_,_,_,_,rfl⟩:=apF us hl; exact ⟨_,rfl,rfl⟩
theorem Txt.ai8 (T:Txt K mg A):Vals [] []:=.nil
theorem Vt:aJ ["self","kind","x","start","version","place","total","rule"] ["self","kind","x","start","version","place","total","rule"] (ah kq):=⟨rfl,rfl,rfl,by decide +kernel,rfl,by decide +kernel,by decide +kernel⟩
theorem Txt.S9 (T:Txt K mg A):Binds K A.t9 ["world","message"] []:=T.Ay.binds fun _ _ _ _ _ _ us hl=>by obtain ⟨_,_,rfl⟩:=dQ us hl; rfl
theorem acm:aJ ["world","message"] ["world","message"] (ah pN):=⟨rfl,rfl,rfl,by decide +kernel,rfl,by decide +kernel,by decide +kernel⟩
theorem Txt.UJ (T:Txt K mg A):Binds K A.oO ["world","message"] []:=T.vh.binds fun _ _ _ _ _ _ us hl=>by obtain ⟨_,_,rfl⟩:=dQ us hl; rfl
theorem CT:aJ ["world","message","switch"] ["world","message"] (ah ja):=⟨rfl,rfl,rfl,by decide +kernel,rfl,by decide +kernel,by decide +kernel⟩
theorem Txt.RJ (T:Txt K mg A):Binds K A.DK ["world","kind","message"] []:=T.DM.binds fun _ _ _ _ _ _ us hl=>by obtain ⟨_,_,_,rfl⟩:=zh us hl; rfl
theorem ajv:aJ ["world","kind","message"] ["world","kind","message"] (ah Dy):=⟨rfl,rfl,rfl,by decide +kernel,rfl,by decide +kernel,by decide +kernel⟩
theorem Txt.ahO (T:Txt K mg A):Binds K A.Du ["world","switch","row"] []:=T.Mt.binds fun _ _ _ _ _ _ us hl=>by obtain ⟨_,_,_,rfl⟩:=zh us hl; rfl
theorem Sq:aJ ["world","switch","row","part"] ["world","switch","row"] (ah rV):=⟨rfl,rfl,rfl,by decide +kernel,rfl,by decide +kernel,by decide +kernel⟩
theorem Txt.afe (T:Txt K mg A):Binds K A.Am ["world","switch","flip"] []:=T.II.binds fun _ _ _ _ _ _ us hl=>by obtain ⟨_,_,_,rfl⟩:=zh us hl; rfl
theorem aci:aJ ["world","switch","flip"] ["world","switch","flip"] (ah pG):=⟨rfl,rfl,rfl,by decide +kernel,rfl,by decide +kernel,by decide +kernel⟩
theorem Txt.afg (T:Txt K mg A):Binds K A.An ["world","switch","drop"] []:=T.IJ.binds fun _ _ _ _ _ _ us hl=>by obtain ⟨_,_,_,rfl⟩:=zh us hl; rfl
theorem N7:aJ ["world","switch","drop","version"] ["world","switch","drop"] (ah pH):=⟨rfl,rfl,rfl,by decide +kernel,rfl,by decide +kernel,by decide +kernel⟩
theorem Txt.aeo (T:Txt K mg A):Binds K A.xK ["controller","hello"] []:=T.FJ.binds fun _ _ _ _ _ _ us hl=>by obtain ⟨_,_,rfl⟩:=dQ us hl; rfl
theorem aaF:aJ ["controller","hello"] ["controller","hello"] (ah nj):=⟨rfl,rfl,rfl,by decide +kernel,rfl,by decide +kernel,by decide +kernel⟩
theorem Txt.Me (T:Txt K mg A):Binds K A.j5 ["world","message"] []:=T.o8.binds fun _ _ _ _ _ _ us hl=>by obtain ⟨_,_,rfl⟩:=dQ us hl; rfl
theorem vp:aJ ["world","message","controller","memory"] ["world","message"] (ah gF):=⟨rfl,rfl,rfl,by decide +kernel,rfl,by decide +kernel,by decide +kernel⟩
theorem Txt.Y8 (T:Txt K mg A):Binds K A.rZ ["controller","going"] []:=T.Ag.binds fun _ _ _ _ _ _ us hl=>by obtain ⟨_,_,rfl⟩:=dQ us hl; rfl
theorem Vp:aJ ["controller","going"] ["controller","going"] (ah kj):=⟨rfl,rfl,rfl,by decide +kernel,rfl,by decide +kernel,by decide +kernel⟩
theorem Txt.abb (T:Txt K mg A):Binds K A.uA ["controller"] []:=T.CO.binds fun _ _ _ _ _ _ us hl=>by obtain ⟨_,rfl⟩:=wR us hl; rfl
theorem IY:aJ ["controller","pair"] ["controller"] (ah jQ):=⟨rfl,rfl,rfl,by decide +kernel,rfl,by decide +kernel,by decide +kernel⟩
theorem Txt.aa9 (T:Txt K mg A):Binds K A.Cf ["world","given"] []:=T.CM.binds fun _ _ _ _ _ _ us hl=>by obtain ⟨_,_,rfl⟩:=dQ us hl; rfl
theorem IW:aJ ["world","given","version","x","key"] ["world","given"] (ah lA):=⟨rfl,rfl,rfl,by decide +kernel,rfl,by decide +kernel,by decide +kernel⟩
theorem Txt.aa8 (T:Txt K mg A):Binds K A.Ce ["world","given"] []:=T.CL.binds fun _ _ _ _ _ _ us hl=>by obtain ⟨_,_,rfl⟩:=dQ us hl; rfl
theorem IV:aJ ["world","given","switch","told","version","part"] ["world","given"] (ah ly):=⟨rfl,rfl,rfl,by decide +kernel,rfl,by decide +kernel,by decide +kernel⟩
theorem Txt.aen (T:Txt K mg A):Binds K A.EU ["world","given"] []:=T.FI.binds fun _ _ _ _ _ _ us hl=>by obtain ⟨_,_,rfl⟩:=dQ us hl; rfl
theorem Mw:aJ ["world","given","x","memory","told"] ["world","given"] (ah ni):=⟨rfl,rfl,rfl,by decide +kernel,rfl,by decide +kernel,by decide +kernel⟩
theorem Txt.Sh (T:Txt K mg A):Binds K A.sP ["world","given"] []:=T.tw.binds fun _ _ _ _ _ _ us hl=>by obtain ⟨_,_,rfl⟩:=dQ us hl; rfl
theorem AF:aJ ["world","given","controller","pending","told","version","time"] ["world","given"] (ah iN):=⟨rfl,rfl,rfl,by decide +kernel,rfl,by decide +kernel,by decide +kernel⟩
theorem Txt.ahN (T:Txt K mg A):Binds K A.L1 ["world","given"] []:=T.Ms.binds fun _ _ _ _ _ _ us hl=>by obtain ⟨_,_,rfl⟩:=dQ us hl; rfl
theorem So:aJ ["world","given","told","message"] ["world","given"] (ah rT):=⟨rfl,rfl,rfl,by decide +kernel,rfl,by decide +kernel,by decide +kernel⟩
theorem Txt.Sj (T:Txt K mg A):Binds K A.mW ["message"] []:=T.tE.binds fun _ _ _ _ _ _ us hl=>by obtain ⟨_,rfl⟩:=wR us hl; rfl
theorem AH:aJ ["message","numbers"] ["message"] (ah iP):=⟨rfl,rfl,rfl,by decide +kernel,rfl,by decide +kernel,by decide +kernel⟩
theorem Txt.Y6 (T:Txt K mg A):Binds K A.zM ["world","given"] []:=T.Ae.binds fun _ _ _ _ _ _ us hl=>by obtain ⟨_,_,rfl⟩:=dQ us hl; rfl
theorem FY:aJ ["world","given","told","packet"] ["world","given"] (ah kh):=⟨rfl,rfl,rfl,by decide +kernel,rfl,by decide +kernel,by decide +kernel⟩
theorem Txt.aba (T:Txt K mg A):Binds K A.Cg ["world","given"] []:=T.CN.binds fun _ _ _ _ _ _ us hl=>by obtain ⟨_,_,rfl⟩:=dQ us hl; rfl
theorem IX:aJ ["world","given","told","reason"] ["world","given"] (ah lB):=⟨rfl,rfl,rfl,by decide +kernel,rfl,by decide +kernel,by decide +kernel⟩
theorem Txt.anK (T:Txt K mg A):Binds K A.WD ["world","number","given"] []:=T.aeK.binds fun _ _ _ _ _ _ us hl=>by obtain ⟨_,_,_,rfl⟩:=zh us hl; rfl
theorem alh:aJ ["world","number","given"] ["world","number","given"] (ah Jb):=⟨rfl,rfl,rfl,by decide +kernel,rfl,by decide +kernel,by decide +kernel⟩
theorem Txt.UL (T:Txt K mg A):Binds K A.oR ["n","cap","life","room"] []:=T.vm.binds fun _ _ _ _ _ _ us hl=>by obtain ⟨_,_,_,_,rfl⟩:=anb us hl; rfl
theorem RX:aJ ["n","cap","life","room"] ["n","cap","life","room"] (ah jd):=⟨rfl,rfl,rfl,by decide +kernel,rfl,by decide +kernel,by decide +kernel⟩
theorem Txt.WS (T:Txt K mg A):Binds K A.qw ["world","rule"] []:=T.yo.binds fun _ _ _ _ _ _ us hl=>by obtain ⟨_,_,rfl⟩:=dQ us hl; rfl
theorem Tw:aJ ["world","rule"] ["world","rule"] (ah jD):=⟨rfl,rfl,rfl,by decide +kernel,rfl,by decide +kernel,by decide +kernel⟩
theorem Txt.Ks (T:Txt K mg A):Binds K A.nT ["numbers"] []:=T.r8.binds fun _ _ _ _ _ _ us hl=>by obtain ⟨_,rfl⟩:=wR us hl; rfl
theorem F0:aJ ["numbers","at"] ["numbers"] (ah jc):=⟨rfl,rfl,rfl,by decide +kernel,rfl,by decide +kernel,by decide +kernel⟩
theorem Txt.Si (T:Txt K mg A):Binds K A.mU ["world","numbers"] []:=T.tD.binds fun _ _ _ _ _ _ us hl=>by obtain ⟨_,_,rfl⟩:=dQ us hl; rfl
theorem AG:aJ ["world","numbers","rule"] ["world","numbers"] (ah iO):=⟨rfl,rfl,rfl,by decide +kernel,rfl,by decide +kernel,by decide +kernel⟩
theorem Txt.ai1 (T:Txt K mg A):Binds K A.Qq ["world","given"] []:=T.Rp.binds fun _ _ _ _ _ _ us hl=>by obtain ⟨_,_,rfl⟩:=dQ us hl; rfl
theorem Vq:aJ ["world","given","controller"] ["world","given"] (ah vt):=⟨rfl,rfl,rfl,by decide +kernel,rfl,by decide +kernel,by decide +kernel⟩
theorem Txt.anI (T:Txt K mg A):Binds K A.ad3 ["world","given"] []:=T.aeI.binds fun _ _ _ _ _ _ us hl=>by obtain ⟨_,_,rfl⟩:=dQ us hl; rfl
theorem aft:aJ ["world","given","target","x"] ["world","given"] (ah I0):=⟨rfl,rfl,rfl,by decide +kernel,rfl,by decide +kernel,by decide +kernel⟩
theorem Txt.Y7 (T:Txt K mg A):Binds K A.rY ["world","x"] []:=T.Af.binds fun _ _ _ _ _ _ us hl=>by obtain ⟨_,_,rfl⟩:=dQ us hl; rfl
theorem FZ:aJ ["world","x","controller","have"] ["world","x"] (ah ki):=⟨rfl,rfl,rfl,by decide +kernel,rfl,by decide +kernel,by decide +kernel⟩
theorem Txt.S7 (T:Txt K mg A):Binds K A.Ao ["world","x","version"] []:=T.Aw.binds fun _ _ _ _ _ _ us hl=>by obtain ⟨_,_,_,rfl⟩:=zh us hl; rfl
theorem N8:aJ ["world","x","version","start","rules","place","rule"] ["world","x","version"] (ah pI):=⟨rfl,rfl,rfl,by decide +kernel,rfl,by decide +kernel,by decide +kernel⟩
theorem Txt.afh (T:Txt K mg A):Binds K A.Aq ["world","x","target"] []:=T.IK.binds fun _ _ _ _ _ _ us hl=>by obtain ⟨_,_,_,rfl⟩:=zh us hl; rfl
theorem N9:aJ ["world","x","target","memory"] ["world","x","target"] (ah pJ):=⟨rfl,rfl,rfl,by decide +kernel,rfl,by decide +kernel,by decide +kernel⟩
theorem Txt.aep (T:Txt K mg A):Binds K A.xM ["world","x"] []:=T.FL.binds fun _ _ _ _ _ _ us hl=>by obtain ⟨_,_,rfl⟩:=dQ us hl; rfl
theorem Mx:aJ ["world","x","gone","version","time"] ["world","x"] (ah nu):=⟨rfl,rfl,rfl,by decide +kernel,rfl,by decide +kernel,by decide +kernel⟩
theorem Txt.anJ (T:Txt K mg A):Binds K A.ad4 ["world","given"] []:=T.aeJ.binds fun _ _ _ _ _ _ us hl=>by obtain ⟨_,_,rfl⟩:=dQ us hl; rfl
theorem afu:aJ ["world","given","seconds"] ["world","given"] (ah Ja):=⟨rfl,rfl,rfl,by decide +kernel,rfl,by decide +kernel,by decide +kernel⟩
theorem Txt.Iu (T:Txt K mg A):Binds K A.pT ["world","k"] []:=T.uy.binds fun _ _ _ _ _ _ us hl=>by obtain ⟨_,_,rfl⟩:=dQ us hl; rfl
theorem ack:aJ ["world","k"] ["world","k"] (ah pM):=⟨rfl,rfl,rfl,by decide +kernel,rfl,by decide +kernel,by decide +kernel⟩
theorem Txt.ai2 (T:Txt K mg A):Binds K A.Qs ["world","given"] []:=T.Rq.binds fun _ _ _ _ _ _ us hl=>by obtain ⟨_,_,rfl⟩:=dQ us hl; rfl
theorem agS:aJ ["world","given"] ["world","given"] (ah vv):=⟨rfl,rfl,rfl,by decide +kernel,rfl,by decide +kernel,by decide +kernel⟩
theorem Txt.anL (T:Txt K mg A):Binds K A.ad5 ["world","given"] []:=T.aeL.binds fun _ _ _ _ _ _ us hl=>by obtain ⟨_,_,rfl⟩:=dQ us hl; rfl
theorem ali:aJ ["world","given"] ["world","given"] (ah Jc):=⟨rfl,rfl,rfl,by decide +kernel,rfl,by decide +kernel,by decide +kernel⟩
theorem Txt.akt (T:Txt K mg A):Binds K A.Ux ["world","given"] []:=T.U0.binds fun _ _ _ _ _ _ us hl=>by obtain ⟨_,_,rfl⟩:=dQ us hl; rfl
theorem aif:aJ ["world","given"] ["world","given"] (ah zd):=⟨rfl,rfl,rfl,by decide +kernel,rfl,by decide +kernel,by decide +kernel⟩
theorem Txt.anM (T:Txt K mg A):Binds K A.ad6 ["world","given"] []:=T.aeM.binds fun _ _ _ _ _ _ us hl=>by obtain ⟨_,_,rfl⟩:=dQ us hl; rfl
theorem afv:aJ ["world","given","delivered"] ["world","given"] (ah Jd):=⟨rfl,rfl,rfl,by decide +kernel,rfl,by decide +kernel,by decide +kernel⟩
theorem Txt.ai0 (T:Txt K mg A):Binds K A.Qp ["world","given"] []:=T.Ro.binds fun _ _ _ _ _ _ us hl=>by obtain ⟨_,_,rfl⟩:=dQ us hl; rfl
theorem Vo:aJ ["world","given","x"] ["world","given"] (ah vq):=⟨rfl,rfl,rfl,by decide +kernel,rfl,by decide +kernel,by decide +kernel⟩
theorem Txt.al2 (T:Txt K mg A):Binds K A.YI ["world","given"] []:=T.Zm.binds fun _ _ _ _ _ _ us hl=>by obtain ⟨_,_,rfl⟩:=dQ us hl; rfl
theorem ajw:aJ ["world","given"] ["world","given"] (ah Dz):=⟨rfl,rfl,rfl,by decide +kernel,rfl,by decide +kernel,by decide +kernel⟩
theorem Txt.Q3 (T:Txt K mg A):Binds K A.rC ["world","x"] []:=T.yn.binds fun _ _ _ _ _ _ us hl=>by obtain ⟨_,_,rfl⟩:=dQ us hl; rfl
theorem aaG:aJ ["world","x"] ["world","x"] (ah nt):=⟨rfl,rfl,rfl,by decide +kernel,rfl,by decide +kernel,by decide +kernel⟩
theorem Txt.al4 (T:Txt K mg A):Binds K A.YJ ["world","given"] []:=T.Zo.binds fun _ _ _ _ _ _ us hl=>by obtain ⟨_,_,rfl⟩:=dQ us hl; rfl
theorem ajx:aJ ["world","given"] ["world","given"] (ah DC):=⟨rfl,rfl,rfl,by decide +kernel,rfl,by decide +kernel,by decide +kernel⟩
theorem Txt.abc (T:Txt K mg A):Binds K A.uB ["world","number","given"] []:=T.CP.binds fun _ _ _ _ _ _ us hl=>by obtain ⟨_,_,_,rfl⟩:=zh us hl; rfl
theorem Xw:aJ ["world","number","given"] ["world","number","given"] (ah lC):=⟨rfl,rfl,rfl,by decide +kernel,rfl,by decide +kernel,by decide +kernel⟩
theorem Txt.afk (T:Txt K mg A):Binds K A.Au ["self","number","given"] []:=T.Th.binds fun _ _ _ _ _ _ us hl=>by obtain ⟨_,_,_,rfl⟩:=zh us hl; rfl
theorem acq:aJ ["self","number","given"] ["self","number","given"] (ah pP):=⟨rfl,rfl,rfl,by decide +kernel,rfl,by decide +kernel,by decide +kernel⟩
theorem Txt.aeq (T:Txt K mg A):Binds K A.xN ["numbers"] []:=T.FN.binds fun _ _ _ _ _ _ us hl=>by obtain ⟨_,rfl⟩:=wR us hl; rfl
theorem My:aJ ["numbers","read","at","number","given","row"] ["numbers"] (ah nv):=⟨rfl,rfl,rfl,by decide +kernel,rfl,by decide +kernel,by decide +kernel⟩
theorem Txt.Y9 (T:Txt K mg A):Binds K A.r6 ["self"] []:=T.KQ.binds fun _ _ _ _ _ _ us hl=>by obtain ⟨_,rfl⟩:=wR us hl; rfl
theorem Vs:aJ ["self"] ["self"] (ah ko):=⟨rfl,rfl,rfl,by decide +kernel,rfl,by decide +kernel,by decide +kernel⟩
theorem Txt.UM (T:Txt K mg A):Binds K A.oS ["self","call"] []:=T.FO.binds fun _ _ _ _ _ _ us hl=>by obtain ⟨_,_,rfl⟩:=dQ us hl; rfl
theorem RY:aJ ["self","call"] ["self","call"] (ah je):=⟨rfl,rfl,rfl,by decide +kernel,rfl,by decide +kernel,by decide +kernel⟩
theorem Txt.WT (T:Txt K mg A):Binds K A.qx ["self","given"] []:=T.GX.binds fun _ _ _ _ _ _ us hl=>by obtain ⟨_,_,rfl⟩:=dQ us hl; rfl
theorem Tz:aJ ["self","given"] ["self","given"] (ah jE):=⟨rfl,rfl,rfl,by decide +kernel,rfl,by decide +kernel,by decide +kernel⟩
theorem Txt.apd (T:Txt K mg A):Binds K A.Qt ["calls"] []:=T.aaf.binds fun _ _ _ _ _ _ us hl=>by obtain ⟨_,rfl⟩:=wR us hl; rfl
theorem Vr:aJ ["calls","session","told","call","answer"] ["calls"] (ah vy):=⟨rfl,rfl,rfl,by decide +kernel,rfl,by decide +kernel,by decide +kernel⟩
end Pt
namespace Pt
open PySem PySem.Spec PyProof.Rows L2
section
variable (P:Program) (w:World) (K:W.Frag) (mg:Str → Option Value) (base:Heap) (f:Addr) (au:Value) (R:Around) (outer:List Env) (s:Shared) (H:Hp) (E:XK)
noncomputable abbrev Z1:Cx:=(bC aC P w K mg base ["number"] "is_key" (ah zc) f au R outer s H E).cD
noncomputable abbrev Qz:Cx:=(bC aC P w K mg base ["rule","x","key"] "rule_fits" (ah pL) f au R outer s H E).cD
noncomputable abbrev Qy:Cx:=(bC aC P w K mg base ["rules","x","key","rule"] "rules_say" (ah pK) f au R outer s H E).cD
noncomputable abbrev QC:Cx:=(bC aC P w K mg base ["self","total"] "Part.__init__" (ah pO) f au R outer s H E).cD
noncomputable abbrev EX:Cx:=(bC aC P w K mg base ["self"] "Part.is_whole" (ah jF) f au R outer s H E).cD
noncomputable abbrev ua:Cx:=(bC aC P w K mg base ["self","place"] "Part.rules_by_place" (ah eN) f au R outer s H E).cD
noncomputable abbrev Kd:Cx:=(bC aC P w K mg base ["self","start"] "Switch.__init__" (ah lD) f au R outer s H E).cD
noncomputable abbrev yK:Cx:=(bC aC P w K mg base ["self","version"] "Switch.has_whole" (ah iq) f au R outer s H E).cD
noncomputable abbrev Kf:Cx:=(bC aC P w K mg base ["self"] "Memory.__init__" (ah lF) f au R outer s H E).cD
noncomputable abbrev Bf:Cx:=(bC aC P w K mg base ["self","starts"] "Controller.__init__" (ah iQ) f au R outer s H E).cD
noncomputable abbrev xR:Cx:=(bC aC P w K mg base ["self","start"] "Controller.forget" (ah fR) f au R outer s H E).cD
noncomputable abbrev oi:Cx:=(bC aC P w K mg base ["self","version"] "Controller.has_published" (ah dS) f au R outer s H E).cD
noncomputable abbrev uc:Cx:=(bC aC P w K mg base ["self","version"] "Controller.rules_of" (ah fY) f au R outer s H E).cD
noncomputable abbrev ud:Cx:=(bC aC P w K mg base ["self","version","memory"] "Controller.all_have" (ah fZ) f au R outer s H E).cD
noncomputable abbrev rD:Cx:=(bC aC P w K mg base ["self","version","memory"] "Controller.all_turned" (ah fc) f au R outer s H E).cD
noncomputable abbrev ue:Cx:=(bC aC P w K mg base ["self","version","memory"] "Controller.all_gone" (ah f6) f au R outer s H E).cD
noncomputable abbrev xQ:Cx:=(bC aC P w K mg base ["self"] "Controller.target" (ah gO) f au R outer s H E).cD
noncomputable abbrev Ke:Cx:=(bC aC P w K mg base ["self","key","route","stamp","time"] "Packet.__init__" (ah lE) f au R outer s H E).cD
noncomputable abbrev Nd:Cx:=(bC aC P w K mg base ["self","n","cap","life","room","i"] "World.__init__" (ah jt) f au R outer s H E).cD
noncomputable abbrev yJ:Cx:=(bC aC P w K mg base ["self","x"] "World.has_switch" (ah ik) f au R outer s H E).cD
noncomputable abbrev xP:Cx:=(bC aC P w K mg base ["self"] "World.bag_is_full" (ah gM) f au R outer s H E).cD
noncomputable abbrev vU:Cx:=(bC aC P w K mg base ["self"] "World.room_is_full" (ah gG) f au R outer s H E).cD
noncomputable abbrev Nc:Cx:=(bC aC P w K mg base ["self","message"] "World.send" (ah ny) f au R outer s H E).cD
noncomputable abbrev Dc:Cx:=(bC aC P w K mg base ["world","route","x"] "route_is_right" (ah jb) f au R outer s H E).cD
noncomputable abbrev aea:Cx:=(bC aC P w K mg base ["world","given","key","route"] "enter" (ah DB) f au R outer s H E).cD
noncomputable abbrev Z0:Cx:=(bC aC P w K mg base ["world","key","route","stamp","packet","outcome"] "let_in" (ah zb) f au R outer s H E).cD
noncomputable abbrev aiV:Cx:=(bC aC P w K mg base ["world","given","k","outcome"] "hop" (ah Rw) f au R outer s H E).cD
noncomputable abbrev ad9:Cx:=(bC aC P w K mg base ["world","packet","fared"] "go_on" (ah DA) f au R outer s H E).cD
noncomputable abbrev aga:Cx:=(bC aC P w K mg base ["world","packet","x","switch"] "fare" (ah Je) f au R outer s H E).cD
noncomputable abbrev GD:Cx:=(bC aC P w K mg base ["self","kind","x","start","version","place","total","rule"] "Message.__init__" (ah kq) f au R outer s H E).cD
noncomputable abbrev QB:Cx:=(bC aC P w K mg base ["world","message"] "hand_over" (ah pN) f au R outer s H E).cD
noncomputable abbrev C9:Cx:=(bC aC P w K mg base ["world","message","switch"] "take_at_switch" (ah ja) f au R outer s H E).cD
noncomputable abbrev ad7:Cx:=(bC aC P w K mg base ["world","kind","message"] "reply" (ah Dy) f au R outer s H E).cD
noncomputable abbrev SY:Cx:=(bC aC P w K mg base ["world","switch","row","part"] "take_row" (ah rV) f au R outer s H E).cD
noncomputable abbrev Qu:Cx:=(bC aC P w K mg base ["world","switch","flip"] "take_flip" (ah pG) f au R outer s H E).cD
noncomputable abbrev Qv:Cx:=(bC aC P w K mg base ["world","switch","drop","version"] "take_drop" (ah pH) f au R outer s H E).cD
noncomputable abbrev M8:Cx:=(bC aC P w K mg base ["controller","hello"] "take_hello" (ah nj) f au R outer s H E).cD
noncomputable abbrev vS:Cx:=(bC aC P w K mg base ["world","message","controller","memory"] "take_at_controller" (ah gF) f au R outer s H E).cD
noncomputable abbrev GA:Cx:=(bC aC P w K mg base ["controller","going"] "put_in_force" (ah kj) f au R outer s H E).cD
noncomputable abbrev Ka:Cx:=(bC aC P w K mg base ["controller","pair"] "forget_gone" (ah jQ) f au R outer s H E).cD
noncomputable abbrev J8:Cx:=(bC aC P w K mg base ["world","given","version","x","key"] "tell_policy" (ah lA) f au R outer s H E).cD
noncomputable abbrev J7:Cx:=(bC aC P w K mg base ["world","given","switch","told","version","part"] "tell_switch" (ah ly) f au R outer s H E).cD
noncomputable abbrev M7:Cx:=(bC aC P w K mg base ["world","given","x","memory","told"] "tell_knows" (ah ni) f au R outer s H E).cD
noncomputable abbrev Bc:Cx:=(bC aC P w K mg base ["world","given","controller","pending","told","version","time"] "tell_controller" (ah iN) f au R outer s H E).cD
noncomputable abbrev SX:Cx:=(bC aC P w K mg base ["world","given","told","message"] "tell_bag" (ah rT) f au R outer s H E).cD
noncomputable abbrev Be:Cx:=(bC aC P w K mg base ["message","numbers"] "message_numbers" (ah iP) f au R outer s H E).cD
noncomputable abbrev Gy:Cx:=(bC aC P w K mg base ["world","given","told","packet"] "tell_packets" (ah kh) f au R outer s H E).cD
noncomputable abbrev J9:Cx:=(bC aC P w K mg base ["world","given","told","reason"] "tell_counts" (ah lB) f au R outer s H E).cD
noncomputable abbrev af7:Cx:=(bC aC P w K mg base ["world","number","given"] "tell" (ah Jb) f au R outer s H E).cD
noncomputable abbrev Dd:Cx:=(bC aC P w K mg base ["n","cap","life","room"] "begin_is_right" (ah jd) f au R outer s H E).cD
noncomputable abbrev EV:Cx:=(bC aC P w K mg base ["world","rule"] "rule_is_right" (ah jD) f au R outer s H E).cD
noncomputable abbrev GB:Cx:=(bC aC P w K mg base ["numbers","at"] "cut_in_rules" (ah jc) f au R outer s H E).cD
noncomputable abbrev Bd:Cx:=(bC aC P w K mg base ["world","numbers","rule"] "rules_are_right" (ah iO) f au R outer s H E).cD
noncomputable abbrev WH:Cx:=(bC aC P w K mg base ["world","given","controller"] "publish" (ah vt) f au R outer s H E).cD
noncomputable abbrev af5:Cx:=(bC aC P w K mg base ["world","given","target","x"] "work" (ah I0) f au R outer s H E).cD
noncomputable abbrev Gz:Cx:=(bC aC P w K mg base ["world","x","controller","have"] "send_missing" (ah ki) f au R outer s H E).cD
noncomputable abbrev Qw:Cx:=(bC aC P w K mg base ["world","x","version","start","rules","place","rule"] "send_rows" (ah pI) f au R outer s H E).cD
noncomputable abbrev Qx:Cx:=(bC aC P w K mg base ["world","x","target","memory"] "send_flip" (ah pJ) f au R outer s H E).cD
noncomputable abbrev Na:Cx:=(bC aC P w K mg base ["world","x","gone","version","time"] "send_drops" (ah nu) f au R outer s H E).cD
noncomputable abbrev af6:Cx:=(bC aC P w K mg base ["world","given","seconds"] "tick" (ah Ja) f au R outer s H E).cD
noncomputable abbrev QA:Cx:=(bC aC P w K mg base ["world","k"] "is_in_bag" (ah pM) f au R outer s H E).cD
noncomputable abbrev WI:Cx:=(bC aC P w K mg base ["world","given"] "deliver" (ah vv) f au R outer s H E).cD
noncomputable abbrev af8:Cx:=(bC aC P w K mg base ["world","given"] "lose" (ah Jc) f au R outer s H E).cD
noncomputable abbrev Z2:Cx:=(bC aC P w K mg base ["world","given"] "double" (ah zd) f au R outer s H E).cD
noncomputable abbrev af9:Cx:=(bC aC P w K mg base ["world","given","delivered"] "flow" (ah Jd) f au R outer s H E).cD
noncomputable abbrev WG:Cx:=(bC aC P w K mg base ["world","given","x"] "restart" (ah vq) f au R outer s H E).cD
noncomputable abbrev ad8:Cx:=(bC aC P w K mg base ["world","given"] "hello" (ah Dz) f au R outer s H E).cD
noncomputable abbrev M9:Cx:=(bC aC P w K mg base ["world","x"] "send_hello" (ah nt) f au R outer s H E).cD
noncomputable abbrev aeb:Cx:=(bC aC P w K mg base ["world","given"] "crash" (ah DC) f au R outer s H E).cD
noncomputable abbrev Kc:Cx:=(bC aC P w K mg base ["world","number","given"] "answer_call" (ah lC) f au R outer s H E).cD
noncomputable abbrev QD:Cx:=(bC aC P w K mg base ["self","number","given"] "Call.__init__" (ah pP) f au R outer s H E).cD
noncomputable abbrev Nb:Cx:=(bC aC P w K mg base ["numbers","read","at","number","given","row"] "read_calls" (ah nv) f au R outer s H E).cD
noncomputable abbrev GC:Cx:=(bC aC P w K mg base ["self"] "Session.__init__" (ah ko) f au R outer s H E).cD
noncomputable abbrev De:Cx:=(bC aC P w K mg base ["self","call"] "Session.answer" (ah je) f au R outer s H E).cD
noncomputable abbrev EW:Cx:=(bC aC P w K mg base ["self","given"] "Session.begin" (ah jE) f au R outer s H E).cD
noncomputable abbrev WJ:Cx:=(bC aC P w K mg base ["calls","session","told","call","answer"] "answers" (ah vy) f au R outer s H E).cD
end
noncomputable section
variable {P:Program} {w:World} {K:W.Frag} {mg:Str → Option Value} {base:Heap} {A:bg} {au:Value} {R:Around} {outer:List Env} {s:Shared} {H:Hp} {E:XK}
def ah0 (T:Txt K mg A) (hr:aX 0 (Z1 P w K mg base A.jj au R outer s H E).A):{t:TS // cg (Z1 P w K mg base A.jj au R outer s H E) (aI zc) t} :=
 ⟨_,(ao (aK (l5 ff ff az (pv 0) (bF rfl T.tX))))⟩
def aby (T:Txt K mg A) (hr:aX 0 (Qz P w K mg base A.gZ au R outer s H E).A):{t:TS // cg (Qz P w K mg base A.gZ au R outer s H E) (aI pL) t} :=
 ⟨_,(ao (aK (AR (Jq OL (bE nJ (pv 0) az (fun _ _=>rfl)) (VF (aq (bF rfl T.jM) (aq (pv 1) aj))) rfl) (VG (l5 ff ff (bE nJ (pv 0) az (fun _ _=>rfl)) (pv 2) (bE nJ (pv 0) az (fun _ _=>rfl)))))))⟩
def abx (T:Txt K mg A) (hr:aX 1 (Qy P w K mg base A.gB au R outer s H E).A) {DT:Sp} (afo:aD P w K mg base aC 1 A.gZ A.Ar ["rule","x","key"] DT):{t:TS // cg (Qy P w K mg base A.gB au R outer s H E) (aI pK) t} :=
 have nd:=Oa.nd
 ⟨_,(af (jX PassesOwn.never rfl (ir (pv 0)) (dU (i:=3) nd rfl (Or.inl rfl)) (ao (bw (cA (bB afo (hr.mono (by decide)) rfl T.afa T.IL.kp T.afi .nil aO (aq (pv 3) (aq (pv 1) (aq (pv 2) aj)))) (fun _=>rfl)) (ao (aK (bE nJ (pv 3) az (fun _ _=>rfl)))) aW))) (ao (aK az)))⟩
def abB (T:Txt K mg A) (hr:aX 0 (QC P w K mg base A.gD au R outer s H E).A):{t:TS // cg (QC P w K mg base A.gD au R outer s H E) (aI pO) t} :=
 ⟨_,(af (bM (pv 0) (pv 1) rfl) (ao (bM (pv 0) Ln rfl)))⟩
def Tn (T:Txt K mg A) (hr:aX 0 (EX P w K mg base A.cZ au R outer s H E).A):{t:TS // cg (EX P w K mg base A.cZ au R outer s H E) (aI jF) t} :=
 ⟨_,(ao (aK (Jq mP (bV Bo (by rfl) T.c8 PySem.boot_len (aP (ai (pv 0) rfl) aj)) (ai (pv 0) rfl) (cj _))))⟩
def G4 (T:Txt K mg A) (hr:aX 0 (ua P w K mg base A.b7 au R outer s H E).A):{t:TS // cg (ua P w K mg base A.b7 au R outer s H E) (aI eN) t} :=
 have hu:=qo hr
 have nd:=tF.nd
 ⟨_,(ao (aK (Rz (own:=[("place",1)]) rfl nd (ir (bV (xV rfl) (by rfl) T.lM PyProof.Rows.boot_sorted (aP (ai (pv 0) rfl) aj))) (z7 (N:=["self","place"]) (sc:=ah eN) (by decide +kernel)) (fun _ _ _ _ _=>(dU (i:=1) nd rfl (Or.inl rfl))) (fun _ _ _ _ _=>Jf) (fun _ _ _ _ _=>(DF hu (alu K rfl (pv 0) rfl) (pv 1) (fun _ _=>rfl))))))⟩
def Xf (T:Txt K mg A) (hr:aX 0 (Kd P w K mg base A.dY au R outer s H E).A):{t:TS // cg (Kd P w K mg base A.dY au R outer s H E) (aI lD) t} :=
 ⟨_,(af (bM (pv 0) (pv 1) rfl) (af (bM (pv 0) az rfl) (af (bM (pv 0) az rfl) (ao (bM (pv 0) Ln rfl)))))⟩
def NF (T:Txt K mg A) (hr:aX 1 (yK P w K mg base A.cG au R outer s H E).A) {kF:Sp} (ym:aD P w K mg base aC 1 A.cZ A.lU ["self"] kF):{t:TS // cg (yK P w K mg base A.cG au R outer s H E) (aI iq) t} :=
 have hu:=qo hr
 ⟨_,(ao (aK (AR (amN (aip hu (pv 1) (ai (pv 0) rfl))) (VG (lZ (DF hu (ai (pv 0) rfl) (pv 1) (fun _ _=>rfl)) T.kD T.Gb ym (hr.mono (by decide)) T.GO .nil aO)))))⟩
def Xh (T:Txt K mg A) (hr:aX 0 (Kf P w K mg base A.d7 au R outer s H E).A):{t:TS // cg (Kf P w K mg base A.d7 au R outer s H E) (aI lF) t} :=
 ⟨_,(af (bM (pv 0) Ln rfl) (af (bM (pv 0) az rfl) (ao (bM (pv 0) Ln rfl))))⟩
def NW (T:Txt K mg A) (hr:aX 3 (Bf P w K mg base A.cV au R outer s H E).A) {iG:Sp} (qg:aD P w K mg base aC 3 A.cz A.i6 ["self"] iG):{t:TS // cg (Bf P w K mg base A.cV au R outer s H E) (aI iQ) t} :=
 ⟨_,(af (bM (pv 0) (bN aj) rfl) (af (bM (pv 0) az rfl) (af (bM (pv 0) k6 rfl) (af (bM (pv 0) (bN aj) rfl) (af (bM (pv 0) (pv 1) rfl) (ao (bf (lZ (pv 0) T.aA T.yz qg (hr.mono (by decide)) T.yQ .nil aO))))))))⟩
def K3 (T:Txt K mg A) (hr:aX 2 (xR P w K mg base A.cz au R outer s H E).A) {m9:Sp} (CJ:aD P w K mg base aC 1 A.d7 A.pC ["self"] m9):{t:TS // cg (xR P w K mg base A.cz au R outer s H E) (aI fR) t} :=
 have nd:=wu.nd
 ⟨_,(ao (bM (pv 0) (Rz (own:=[("start",1)]) rfl nd (ir (ai (pv 0) rfl)) (z7 (N:=["self","start"]) (sc:=ah fR) (by decide +kernel)) (fun _ _ _ _ _=>(dU (i:=1) nd rfl (Or.inl rfl))) (fun _ _ _ _ _=>Jf) (fun _ _ _ _ _=>(TR T.vJ CJ (agU hr (by decide)) rfl T.ZR T.Nn .nil aO))) rfl))⟩
def AA (T:Txt K mg A) (hr:aX 0 (oi P w K mg base A.bA au R outer s H E).A):{t:TS // cg (oi P w K mg base A.bA au R outer s H E) (aI dS) t} :=
 ⟨_,(ao (aK (l5 ff ff az (pv 1) (bV bT (by rfl) T.c8 PySem.boot_len (aP (ai (pv 0) rfl) aj)))))⟩
def G5 (T:Txt K mg A) (hr:aX 0 (uc P w K mg base A.bW au R outer s H E).A):{t:TS // cg (uc P w K mg base A.bW au R outer s H E) (aI fY) t} :=
 ⟨_,(ao (aK (bE bj (ai (pv 0) rfl) (j1 amQ (pv 1) az) (fun _ _=>rfl))))⟩
def G6 (T:Txt K mg A) (hr:aX 0 (ud P w K mg base A.b8 au R outer s H E).A):{t:TS // cg (ud P w K mg base A.b8 au R outer s H E) (aI fZ) t} :=
 have hu:=qo hr
 have nd:=tG.nd
 ⟨_,(af (jX PassesOwn.never rfl (ir (ai (pv 0) rfl)) (dU (i:=2) nd rfl (Or.inl rfl)) (ao (bw (wB (qK hu (pv 1) (ai (pv 2) rfl))) (ao (aK k6)) aW))) (ao (aK k6)))⟩
def DO (T:Txt K mg A) (hr:aX 0 (rD P w K mg base A.bU au R outer s H E).A):{t:TS // cg (rD P w K mg base A.bU au R outer s H E) (aI fc) t} :=
 have nd:=qG.nd
 ⟨_,(af (jX PassesOwn.never rfl (ir (ai (pv 0) rfl)) (dU (i:=2) nd rfl (Or.inl rfl)) (ao (bw (bQ Lo (ai (pv 2) rfl) (pv 1) (cj _)) (ao (aK k6)) aW))) (ao (aK k6)))⟩
def G7 (T:Txt K mg A) (hr:aX 0 (ue P w K mg base A.b9 au R outer s H E).A):{t:TS // cg (ue P w K mg base A.b9 au R outer s H E) (aI f6) t} :=
 have hu:=qo hr
 have nd:=tH.nd
 ⟨_,(af (jX PassesOwn.never rfl (ir (ai (pv 0) rfl)) (dU (i:=2) nd rfl (Or.inl rfl)) (ao (bw (wB (qK hu (pv 1) (ai (pv 2) rfl))) (ao (aK k6)) aW))) (ao (aK k6)))⟩
def K2 (T:Txt K mg A) (hr:aX 1 (xQ P w K mg base A.cy au R outer s H E).A) {lW:Sp} (KO:aD P w K mg base aC 1 A.b8 A.jO ["self","version"] lW):{t:TS // cg (xQ P w K mg base A.cy au R outer s H E) (aI gO) t} :=
 ⟨_,(af (bw (PW.pt (wA (cA (ai (pv 0) rfl) (fun _=>rfl)) (vA (cA (eB (pv 0) T.aA T.JF KO (hr.mono (by decide)) T.Kv .nil aO (OJ (j1 jY (ai (pv 0) rfl) az) aj)) (fun _=>rfl))))) (ao (aK (j1 jY (ai (pv 0) rfl) az))) aW) (ao (aK (ai (pv 0) rfl))))⟩
def Xg (T:Txt K mg A) (hr:aX 0 (Ke P w K mg base A.eM au R outer s H E).A):{t:TS // cg (Ke P w K mg base A.eM au R outer s H E) (aI lE) t} :=
 ⟨_,(af (bM (pv 0) (pv 1) rfl) (af (bM (pv 0) (pv 2) rfl) (af (bM (pv 0) az rfl) (af (bM (pv 0) (pv 3) rfl) (ao (bM (pv 0) (pv 4) rfl))))))⟩
def aam (T:Txt K mg A) (hr:aX 5 (Nd P w K mg base A.fF au R outer s H E).A) {m8:Sp} (CI:aD P w K mg base aC 1 A.dY A.pB ["self","start"] m8) {qE:Sp} (Sn:aD P w K mg base aC 4 A.cV A.mY ["self","starts"] qE):{t:TS // cg (Nd P w K mg base A.fF au R outer s H E) (aI jt) t} :=
 have nd:=Mz.nd
 ⟨_,(af (bM (pv 0) (pv 2) rfl) (af (bM (pv 0) (pv 3) rfl) (af (bM (pv 0) (pv 4) rfl) (af (bM (pv 0) (pv 1) rfl) (af (bM (pv 0) az rfl) (af (bM (pv 0) (Rz (own:=[("i",5)]) rfl nd (OF rfl T.qL (aq (pv 1) aj)) (z7 (N:=["self","n","cap","life","room","i"]) (sc:=ah jt) (by decide +kernel)) (fun _ _ _ _ _=>(dU (i:=5) nd rfl (Or.inl rfl))) (fun _ _ _ _ _=>Jf) (fun _ _ _ _ _=>(kr T.vI CI (agU hr (by decide)) rfl T.ZQ T.Nm .nil aO (OJ (j1 jY (pv 5) az) aj)))) rfl) (af (bM (pv 0) (kr T.pq Sn (hr.mono (by decide)) rfl T.aa4 T.Sk .nil aO (ajM (Rz (own:=[("i",5)]) rfl nd (OF rfl T.qL (aq (pv 1) aj)) (z7 (N:=["self","n","cap","life","room","i"]) (sc:=ah jt) (by decide +kernel)) (fun _ _ _ _ _=>(dU (i:=5) nd rfl (Or.inl rfl))) (fun _ _ _ _ _=>Jf) (fun _ _ _ _ _=>(j1 jY (pv 5) az))) aj)) rfl) (af (bM (pv 0) (bN aj) rfl) (af (bM (pv 0) az rfl) (af (bM (pv 0) (bN aj) rfl) (af (bM (pv 0) az rfl) (af (bM (pv 0) az rfl) (ao (bM (pv 0) (alv (Lh az az (Lh az az (Lh az az (Lh az az alp)))) rfl rfl (by simp) (by decide)) rfl))))))))))))))⟩
def ND (T:Txt K mg A) (hr:aX 0 (yJ P w K mg base A.bx au R outer s H E).A):{t:TS // cg (yJ P w K mg base A.bx au R outer s H E) (aI ik) t} :=
 ⟨_,(ao (aK (l5 ff Lo az (pv 1) (bV bT (by rfl) T.c8 PySem.boot_len (aP (ai (pv 0) rfl) aj)))))⟩
def K1 (T:Txt K mg A) (hr:aX 0 (xP P w K mg base A.cu au R outer s H E).A):{t:TS // cg (xP P w K mg base A.cu au R outer s H E) (aI gM) t} :=
 ⟨_,(ao (aK (Jq akJ (bV bT (by rfl) T.c8 PySem.boot_len (aP (ai (pv 0) rfl) aj)) (ai (pv 0) rfl) (cj _))))⟩
def IS (T:Txt K mg A) (hr:aX 0 (vU P w K mg base A.cC au R outer s H E).A):{t:TS // cg (vU P w K mg base A.cC au R outer s H E) (aI gG) t} :=
 ⟨_,(ao (aK (Jq akJ (bV bT (by rfl) T.c8 PySem.boot_len (aP (ai (pv 0) rfl) aj)) (ai (pv 0) rfl) (cj _))))⟩
def aal (T:Txt K mg A) (hr:aX 1 (Nc P w K mg base A.cY au R outer s H E).A) {iE:Sp} (qe:aD P w K mg base aC 1 A.cu A.i0 ["self"] iE):{t:TS // cg (Nc P w K mg base A.cY au R outer s H E) (aI ny) t} :=
 ⟨_,(ao (bw (cA (lZ (pv 0) T.aB T.yx qe (hr.mono (by decide)) T.yO .nil aO) (fun _=>rfl)) (ao (qI (pv 0) az xm)) (ao (bf (iy PySem.F.plainAttrs_list PySem.F.slot_list_append PySem.F.type_list_append kc (ai (pv 0) rfl) (aq (pv 1) aj))))))⟩
def RP (T:Txt K mg A) (hr:aX 1 (Dc P w K mg base A.dI au R outer s H E).A) {bP:Sp} (cH:aD P w K mg base aC 1 A.bx A.dw ["self","x"] bP):{t:TS // cg (Dc P w K mg base A.dI au R outer s H E) (aI jb) t} :=
 have nd:=CU.nd
 ⟨_,(af (bw (fu (Lg ff ff az (bV bT (by rfl) T.c8 PySem.boot_len (aq (pv 1) aj)) (bF rfl T.e8))) (ao (aK k6)) aW) (af (jX PassesOwn.never rfl (ir (pv 1)) (dU (i:=2) nd rfl (Or.inl rfl)) (ao (bw (fu (cA (eB (pv 0) T.aB T.gj cH (hr.mono (by decide)) T.gA .nil aO (aq (pv 2) aj)) (fun _=>rfl))) (ao (aK k6)) aW))) (ao (aK k6))))⟩
def ajg (T:Txt K mg A) (hr:aX 5 (aea P w K mg base A.jl au R outer s H E).A) {qC:Sp} (Ac:aD P w K mg base aC 1 A.jj A.zN ["number"] qC) {sy:Sp} (UW:aD P w K mg base aC 2 A.dI A.oQ ["world","route"] sy) {m7:Sp} (Mr:aD P w K mg base aC 1 A.cC A.j6 ["self"] m7) {N2:Sp} (akz:aD P w K mg base aC 5 A.kQ A.L3 ["world","key","route"] N2):{t:TS // cg (aea P w K mg base A.jl au R outer s H E) (aI DB) t} :=
 have nd:=aco.nd
 ⟨_,(af (bS (i:=2) nd rfl (Or.inl rfl) (bE bj (pv 1) az (fun _ _=>rfl))) (af (bS (i:=3) nd rfl (Or.inl rfl) (Lm Ru (pv 1) (ze az) alq)) (af (bw (PW.pt (Vw (fu (cA (bB Ac (hr.mono (by decide)) rfl T.LV T.Ah.kp T.Mg .nil aO (aq (pv 2) aj)) (fun _=>rfl))) (Vv (fu (cA (bB UW (hr.mono (by decide)) rfl T.Uv T.vj.kp T.UK .nil aO (aq (pv 0) (aq (pv 3) aj))) (fun _=>rfl)))))) (ao (aK (bN (k7 (kZ iY az) aj)))) aW) (af (bw (cA (lZ (pv 0) T.aB T.LF Mr (hr.mono (by decide)) T.Mh .nil aO) (fun _=>rfl)) (ao (aK (bN (k7 (kZ iY az) aj)))) aW) (ao (aK (bN (cS (bB akz (hr.mono (by decide)) rfl T.akk T.UZ.kp T.aks .nil aO (aq (pv 0) (aq (pv 2) (aq (pv 3) aj)))) aj))))))))⟩
def ahZ (T:Txt K mg A) (hr:aX 4 (Z0 P w K mg base A.kQ au R outer s H E).A) {y9:Sp} (abg:aD P w K mg base aC 1 A.eM A.uC ["self","key","route","stamp","time"] y9) {DU:Sp} (Zk:aD P w K mg base aC 4 A.lI A.J6 ["world","packet"] DU):{t:TS // cg (Z0 P w K mg base A.kQ au R outer s H E) (aI zb) t} :=
 have hu:=qo hr
 have nd:=Zt.nd
 ⟨_,(af (qI (pv 0) az xm) (af (bS (i:=3) nd rfl (Or.inl rfl) (ai (bE bj (ai (pv 0) rfl) (bE bj (pv 2) az (fun _ _=>rfl)) (fun _ _=>rfl)) rfl)) (af (bw (bQ mP (pv 3) az (cj _)) (af (afy hu (ai (pv 0) rfl) (bF rfl T.iu) az xm (fun _ _ _=>rfl)) (ao (aK (bF rfl T.iu)))) aW) (af (bS (i:=4) nd rfl (Or.inl rfl) (kr T.AX abg (hr.mono (by decide)) rfl T.aiM T.abd .nil aO (aq (pv 1) (aq (pv 2) (aq (pv 3) (aP (ai (pv 0) rfl) aj)))))) (af (bS (i:=5) nd rfl (Or.inl rfl) (bB Zk (hr.mono (by decide)) rfl T.afU T.RN.kp T.agk .nil aO (aq (pv 0) (aq (pv 4) aj)))) (af (bw (bQ mP (pv 5) (bF rfl T.iI) (cj _)) (ao (bf (iy PySem.F.plainAttrs_list PySem.F.slot_list_append PySem.F.type_list_append kc (ai (pv 0) rfl) (aq (pv 4) aj)))) aW) (ao (aK (pv 5)))))))))⟩
def amq (T:Txt K mg A) (hr:aX 4 (aiV P w K mg base A.qt au R outer s H E).A) {DU:Sp} (Zk:aD P w K mg base aC 4 A.lI A.J6 ["world","packet"] DU):{t:TS // cg (aiV P w K mg base A.qt au R outer s H E) (aI Rw) t} :=
 have nd:=aie.nd
 ⟨_,(af (bS (i:=2) nd rfl (Or.inl rfl) (bE bj (pv 1) az (fun _ _=>rfl))) (af (bw (fu (Lg ff Lo az (pv 2) (bV bT (by rfl) T.c8 PySem.boot_len (aP (ai (pv 0) rfl) aj)))) (ao (aK (bN (k7 (kZ iY az) aj)))) aW) (af (bS (i:=3) nd rfl (Or.inl rfl) (bB Zk (hr.mono (by decide)) rfl T.afU T.RN.kp T.agk .nil aO (aq (pv 0) (eG (bE bj (ai (pv 0) rfl) (pv 2) (fun _ _=>rfl)) aj)))) (af (bw (bQ Dr (pv 3) (bF rfl T.iI) (cj _)) (ao (bf (iy PySem.F.plainAttrs_list PySem.F.slot_list_pop PySem.F.type_list_pop LB (ai (pv 0) rfl) (aq (pv 2) aj)))) aW) (ao (aK (bN (aq (pv 3) aj))))))))⟩
def ajf (T:Txt K mg A) (hr:aX 3 (ad9 P w K mg base A.lI au R outer s H E).A) {Xm:Sp} (an3:aD P w K mg base aC 3 A.rA A.WE ["world","packet","x"] Xm):{t:TS // cg (ad9 P w K mg base A.lI au R outer s H E) (aI DA) t} :=
 have hu:=qo hr
 have nd:=acn.nd
 ⟨_,(af (bS (i:=2) nd rfl (Or.inl rfl) (bB an3 (hr.mono (by decide)) rfl T.anz T.aeN.kp T.anN .nil aO (aq (pv 0) (aq (pv 1) (eG (bE bj (ai (pv 1) rfl) (ai (pv 1) rfl) (fun _ _=>rfl)) aj))))) (af (bw (bQ Dr (pv 2) (bF rfl T.iI) (cj _)) (af (afy hu (ai (pv 0) rfl) (pv 2) az xm (fun _ _ _=>rfl)) (ao (aK (pv 2)))) aW) (af (qI (pv 1) az xm) (af (bw (bQ mP (ai (pv 1) rfl) (bV bT (by rfl) T.c8 PySem.boot_len (aP (ai (pv 1) rfl) aj)) (cj _)) (af (qI (pv 0) az xm) (ao (aK (bF rfl T.rh)))) aW) (ao (aK (bF rfl T.iI)))))))⟩
def ak1 (T:Txt K mg A) (hr:aX 2 (aga P w K mg base A.rA au R outer s H E).A) {iZ:Sp} (rR:aD P w K mg base aC 2 A.cG A.jz ["self","version"] iZ) {qz:Sp} (IF:aD P w K mg base aC 2 A.gB A.t8 ["rules","x","key"] qz) {lV:Sp} (KN:aD P w K mg base aC 1 A.b7 A.jN ["self"] lV):{t:TS // cg (aga P w K mg base A.rA au R outer s H E) (aI Je) t} :=
 have hu:=qo hr
 have nd:=afw.nd
 ⟨_,(af (bw (bQ ff (j1 jY (ai (pv 1) rfl) (ai (pv 0) rfl)) (ai (pv 0) rfl) (cj _)) (ao (aK (bF rfl T.xw))) aW) (af (bS (i:=3) nd rfl (Or.inl rfl) (bE bj (ai (pv 0) rfl) (pv 2) (fun _ _=>rfl))) (af (bw (fu (cA (eB (pv 3) T.cB T.AZ rR (hr.mono (by decide)) T.Bq .nil aO (aP (ai (pv 1) rfl) aj)) (fun _=>rfl))) (ao (aK (bF rfl T.qY))) aW) (af (bw (bQ mP (bB IF (hr.mono (by decide)) rfl T.SO T.Ax.kp T.S8 .nil aO (cS (lZ (DF hu (ai (pv 3) rfl) (ai (pv 1) rfl) (fun _ _=>rfl)) T.kD T.JE KN (hr.mono (by decide)) T.Ku .nil aO) (aq (pv 2) (aP (ai (pv 1) rfl) aj)))) az (cj _)) (ao (aK (bF rfl T.iI))) aW) (ao (aK (bF rfl T.lS)))))))⟩
def Vc (T:Txt K mg A) (hr:aX 0 (GD P w K mg base A.cO au R outer s H E).A):{t:TS // cg (GD P w K mg base A.cO au R outer s H E) (aI kq) t} :=
 ⟨_,(af (bM (pv 0) (pv 1) rfl) (af (bM (pv 0) (pv 2) rfl) (af (bM (pv 0) (pv 3) rfl) (af (bM (pv 0) (pv 4) rfl) (af (bM (pv 0) (pv 5) rfl) (af (bM (pv 0) (pv 6) rfl) (ao (bM (pv 0) (pv 7) rfl))))))))⟩
def abA (T:Txt K mg A) (hr:aX 5 (QB P w K mg base A.gC au R outer s H E).A) {Bx:Sp} (aeD:aD P w K mg base aC 3 A.gr A.xK ["controller","hello"] Bx) {su:Sp} (UU:aD P w K mg base aC 5 A.dH A.oO ["world","message"] su) {m6:Sp} (Mq:aD P w K mg base aC 3 A.cM A.j5 ["world","message"] m6):{t:TS // cg (QB P w K mg base A.gC au R outer s H E) (aI pN) t} :=
 ⟨_,(ao (bw (bQ mP (ai (pv 1) rfl) (bF rfl T.uV) (cj _)) (ao (bf (bB aeD (hr.mono (by decide)) rfl T.adN T.FJ.kp T.aeo .nil aO (aP (ai (pv 0) rfl) (aq (pv 1) aj))))) (ao (bw (bQ OL (ai (pv 1) rfl) (VF (aq (bF rfl T.xx) (aq (bF rfl T.zH) (aq (bF rfl T.DJ) aj)))) rfl) (ao (bf (bB UU (hr.mono (by decide)) rfl T.Uu T.vh.kp T.UJ .nil aO (aq (pv 0) (aq (pv 1) aj))))) (ao (bf (bB Mq (hr.mono (by decide)) rfl T.LU T.o8.kp T.Me .nil aO (aq (pv 0) (aq (pv 1) aj)))))))))⟩
def RO (T:Txt K mg A) (hr:aX 4 (C9 P w K mg base A.dH au R outer s H E).A) {G8:Sp} (ahQ:aD P w K mg base aC 4 A.iL A.Du ["world","switch","row"] G8) {DP:Sp} (afl:aD P w K mg base aC 4 A.gV A.Am ["world","switch","flip"] DP) {DQ:Sp} (afm:aD P w K mg base aC 4 A.gW A.An ["world","switch","drop"] DQ):{t:TS // cg (C9 P w K mg base A.dH au R outer s H E) (aI ja) t} :=
 have nd:=CT.nd
 ⟨_,(af (bS (i:=2) nd rfl (Or.inl rfl) (bE bj (ai (pv 0) rfl) (ai (pv 1) rfl) (fun _ _=>rfl))) (af (bw (bQ Dr (ai (pv 1) rfl) (ai (pv 2) rfl) (cj _)) (ao Rx) aW) (ao (bw (bQ mP (ai (pv 1) rfl) (bF rfl T.xx) (cj _)) (ao (bf (bB ahQ (hr.mono (by decide)) rfl T.ahF T.Mt.kp T.ahO .nil aO (aq (pv 0) (aq (pv 2) (aq (pv 1) aj)))))) (ao (bw (bQ mP (ai (pv 1) rfl) (bF rfl T.zH) (cj _)) (ao (bf (bB afl (hr.mono (by decide)) rfl T.ae7 T.II.kp T.afe .nil aO (aq (pv 0) (aq (pv 2) (aq (pv 1) aj)))))) (ao (bf (bB afm (hr.mono (by decide)) rfl T.ae8 T.IJ.kp T.afg .nil aO (aq (pv 0) (aq (pv 2) (aq (pv 1) aj))))))))))))⟩
def ajd (T:Txt K mg A) (hr:aX 2 (ad7 P w K mg base A.kC au R outer s H E).A) {dR:Sp} (fH:aD P w K mg base aC 2 A.cY A.iM ["self","message"] dR) {d8:Sp} (fO:aD P w K mg base aC 1 A.cO A.eW ["self","kind","x","start","version","place","total","rule"] d8):{t:TS // cg (ad7 P w K mg base A.kC au R outer s H E) (aI Dy) t} :=
 ⟨_,(ao (bf (eB (pv 0) T.aB T.kH fH (hr.mono (by decide)) T.kW .nil aO (cS (kr T.jo fO (hr.mono (by decide)) rfl T.rX T.o5 T.mS aO (aq (pv 1) (aP (ai (pv 2) rfl) (aP (ai (pv 2) rfl) (aP (ai (pv 2) rfl) aj))))) aj))))⟩
def aeQ (T:Txt K mg A) (hr:aX 3 (SY P w K mg base A.iL au R outer s H E).A) {DV:Sp} (afp:aD P w K mg base aC 1 A.gD A.As ["self","total"] DV) {kF:Sp} (ym:aD P w K mg base aC 1 A.cZ A.lU ["self"] kF) {uG:Sp} (DL:aD P w K mg base aC 3 A.kC A.DK ["world","kind","message"] uG):{t:TS // cg (SY P w K mg base A.iL au R outer s H E) (aI rV) t} :=
 have hu:=qo hr
 have nd:=Sq.nd
 ⟨_,(af (bw (bQ ff (ai (pv 2) rfl) (ai (pv 1) rfl) (cj _)) (ao Rx) aW) (af (bw (wB (qK hu (ai (pv 2) rfl) (ai (pv 1) rfl))) (ao (Ry hu (ai (pv 1) rfl) (ai (pv 2) rfl) (kr T.JC afp (hr.mono (by decide)) rfl T.alW T.afj .nil aO (aP (ai (pv 2) rfl) aj)) rfl)) aW) (af (bS (i:=3) nd rfl (Or.inl rfl) (DF hu (ai (pv 1) rfl) (ai (pv 2) rfl) (fun _ _=>rfl))) (af (bw (PW.pt (wA (bQ afI (ai (pv 2) rfl) VH (cj _)) (vA (wB (qK hu (ai (pv 2) rfl) (ai (pv 3) rfl)))))) (ao (Ry hu (ai (pv 3) rfl) (ai (pv 2) rfl) (ai (pv 2) rfl) rfl)) aW) (ao (bw (cA (lZ (pv 3) T.kD T.Gb ym (hr.mono (by decide)) T.GO .nil aO) (fun _=>rfl)) (ao (bf (bB DL (hr.mono (by decide)) rfl T.RE T.DM.kp T.RJ .nil aO (aq (pv 0) (aq (bF rfl T.DI) (aq (pv 2) aj)))))) aW))))))⟩
def abt (T:Txt K mg A) (hr:aX 3 (Qu P w K mg base A.gV au R outer s H E).A) {uG:Sp} (DL:aD P w K mg base aC 3 A.kC A.DK ["world","kind","message"] uG) {iZ:Sp} (rR:aD P w K mg base aC 2 A.cG A.jz ["self","version"] iZ):{t:TS // cg (Qu P w K mg base A.gV au R outer s H E) (aI pG) t} :=
 ⟨_,(ao (bw (bQ ff (ai (pv 2) rfl) (ai (pv 1) rfl) (cj _)) (ao (bf (bB DL (hr.mono (by decide)) rfl T.RE T.DM.kp T.RJ .nil aO (aq (pv 0) (aq (bF rfl T.qX) (aq (pv 2) aj)))))) (ao (bw (cA (eB (pv 1) T.cB T.AZ rR (hr.mono (by decide)) T.Bq .nil aO (aP (ai (pv 2) rfl) aj)) (fun _=>rfl)) (af (bM (pv 1) (ai (pv 2) rfl) rfl) (ao (bf (bB DL (hr.mono (by decide)) rfl T.RE T.DM.kp T.RJ .nil aO (aq (pv 0) (aq (bF rfl T.qX) (aq (pv 2) aj))))))) aW))))⟩
def abu (T:Txt K mg A) (hr:aX 3 (Qv P w K mg base A.gW au R outer s H E).A) {uG:Sp} (DL:aD P w K mg base aC 3 A.kC A.DK ["world","kind","message"] uG):{t:TS // cg (Qv P w K mg base A.gW au R outer s H E) (aI pH) t} :=
 have nd:=N7.nd
 ⟨_,(af (bM (pv 1) (bV (Z7 rfl) (by rfl) T.JA PyProof.Rows.boot_max (aP (ai (pv 1) rfl) (aP (ai (pv 2) rfl) aj))) rfl) (af (jX PassesOwn.never rfl (ir (ZC (ahM rfl) (by rfl) T.JB PyProof.Rows.boot_list (aP (ai (pv 1) rfl) aj))) (dU (i:=3) nd rfl (Or.inl rfl)) (ao (bw (bQ ff (pv 3) (ai (pv 2) rfl) (cj _)) (ao (bf (ajK (ai (pv 1) rfl) (pv 3) ⟨rfl,rfl,rfl,rfl⟩))) aW))) (ao (bf (bB DL (hr.mono (by decide)) rfl T.RE T.DM.kp T.RJ .nil aO (aq (pv 0) (aq (bF rfl T.JV) (aq (pv 2) aj))))))))⟩
def aah (T:Txt K mg A) (hr:aX 2 (M8 P w K mg base A.gr au R outer s H E).A) {m9:Sp} (CJ:aD P w K mg base aC 1 A.d7 A.pC ["self"] m9):{t:TS // cg (M8 P w K mg base A.gr au R outer s H E) (aI nj) t} :=
 ⟨_,(ao (bw (bQ abj (ai (pv 1) rfl) (bE bj (ai (pv 0) rfl) (ai (pv 1) rfl) (fun _ _=>rfl)) (cj _)) (af (acw (ai (pv 1) rfl) (acF (ai (pv 0) rfl) (ai (pv 1) rfl) set_list)) (ao (acw (TR T.vJ CJ (hr.mono (by decide)) rfl T.ZR T.Nn .nil aO) (acF (ai (pv 0) rfl) (ai (pv 1) rfl) set_list)))) aW))⟩
def IQ (T:Txt K mg A) (hr:aX 2 (vS P w K mg base A.cM au R outer s H E).A) {wo:Sp} (Zj:aD P w K mg base aC 2 A.eV A.rZ ["controller","going"] wo) {yY:Sp} (abe:aD P w K mg base aC 2 A.fD A.uA ["controller"] yY):{t:TS // cg (vS P w K mg base A.cM au R outer s H E) (aI gF) t} :=
 have hu:=qo hr
 have nd:=vp.nd
 ⟨_,(af (bS (i:=2) nd rfl (Or.inl rfl) (ai (pv 0) rfl)) (af (bw (bQ Dr (ai (pv 1) rfl) (bE bj (ai (pv 2) rfl) (ai (pv 1) rfl) (fun _ _=>rfl)) (cj _)) (ao Rx) aW) (af (bS (i:=3) nd rfl (Or.inl rfl) (bE bj (ai (pv 2) rfl) (ai (pv 1) rfl) (fun _ _=>rfl))) (af (bw (bQ mP (ai (pv 1) rfl) (bF rfl T.DI) (cj _)) (ao (Ry hu (ai (pv 3) rfl) (ai (pv 1) rfl) k6 rfl)) (ao (bw (bQ mP (ai (pv 1) rfl) (bF rfl T.qX) (cj _)) (ao (bM (pv 3) (bV (Z7 rfl) (by rfl) T.JA PyProof.Rows.boot_max (aP (ai (pv 3) rfl) (aP (ai (pv 1) rfl) aj))) rfl)) (ao (Ry hu (ai (pv 3) rfl) (ai (pv 1) rfl) k6 rfl))))) (af (bf (bB Zj (hr.mono (by decide)) rfl T.YF T.Ag.kp T.Y8 .nil aO (aq (pv 2) (OJ (j1 jY (ai (pv 0) rfl) (ai (pv 0) rfl)) aj)))) (ao (bf (bB abe (hr.mono (by decide)) rfl T.aa5 T.CO.kp T.abb .nil aO (aq (pv 2) aj)))))))))⟩
def U9 (T:Txt K mg A) (hr:aX 1 (GA P w K mg base A.eV au R outer s H E).A) {kG:Sp} (FU:aD P w K mg base aC 1 A.bU A.iX ["self","version"] kG):{t:TS // cg (GA P w K mg base A.eV au R outer s H E) (aI kj) t} :=
 ⟨_,(af (bw (PW.pt (Vw (fu (cA (ai (pv 0) rfl) (fun _=>rfl))) (Vv (fu (cA (eB (pv 0) T.aA T.FQ FU (hr.mono (by decide)) T.FT .nil aO (OJ (j1 jY (ai (pv 0) rfl) az) aj)) (fun _=>rfl)))))) (ao Rx) aW) (af (bw (bQ Dr (ai (pv 0) rfl) az (cj _)) (ao (bf (iy PySem.F.plainAttrs_list PySem.F.slot_list_append PySem.F.type_list_append kc (ai (pv 0) rfl) (ajL (VF (aP (ai (pv 0) rfl) (aq (pv 1) aj))) aj)))) aW) (af (qI (pv 0) az xm) (ao (bM (pv 0) k6 rfl)))))⟩
def Xd (T:Txt K mg A) (hr:aX 1 (Ka P w K mg base A.fD au R outer s H E).A) {lX:Sp} (KP:aD P w K mg base aC 1 A.b9 A.jP ["self","version"] lX):{t:TS // cg (Ka P w K mg base A.fD au R outer s H E) (aI jQ) t} :=
 have nd:=IY.nd
 ⟨_,(ao (bM (pv 0) (Rz (own:=[("pair",1)]) rfl nd (ir (ai (pv 0) rfl)) (z7 (N:=["controller","pair"]) (sc:=ah jQ) (by decide +kernel)) (fun _ _ _ _ _=>(dU (i:=1) nd rfl (Or.inl rfl))) (fun _ _ _ _ _=>(alo (fu (aim K rfl (eB (pv 0) T.aA T.JG KP (agU hr (by decide)) T.Kw .nil aO (eG (bE (alV K rfl) (pv 1) az (fun _ _=>rfl)) aj)) (fun _=>rfl))))) (fun _ _ _ _ _=>(pv 1))) rfl))⟩
def Xb (T:Txt K mg A) (hr:aX 2 (J8 P w K mg base A.eK au R outer s H E).A) {jr:Sp} (CK:aD P w K mg base aC 1 A.bA A.g8 ["self","version"] jr) {bP:Sp} (cH:aD P w K mg base aC 1 A.bx A.dw ["self","x"] bP) {qC:Sp} (Ac:aD P w K mg base aC 1 A.jj A.zN ["number"] qC) {qz:Sp} (IF:aD P w K mg base aC 2 A.gB A.t8 ["rules","x","key"] qz) {gR:Sp} (nZ:aD P w K mg base aC 1 A.bW A.iw ["self","version"] gR):{t:TS // cg (J8 P w K mg base A.eK au R outer s H E) (aI lA) t} :=
 have nd:=IW.nd
 ⟨_,(af (bS (i:=2) nd rfl (Or.inl rfl) (bE bj (pv 1) az (fun _ _=>rfl))) (af (bS (i:=3) nd rfl (Or.inl rfl) (bE bj (pv 1) az (fun _ _=>rfl))) (af (bS (i:=4) nd rfl (Or.inl rfl) (bE bj (pv 1) az (fun _ _=>rfl))) (af (bw (PW.pt (Vw (fu (cA (eB (ai (pv 0) rfl) T.aA T.BI CK (hr.mono (by decide)) T.Cz .nil aO (aq (pv 2) aj)) (fun _=>rfl))) (Vw (fu (cA (eB (pv 0) T.aB T.gj cH (hr.mono (by decide)) T.gA .nil aO (aq (pv 3) aj)) (fun _=>rfl))) (Vv (fu (cA (bB Ac (hr.mono (by decide)) rfl T.LV T.Ah.kp T.Mg .nil aO (aq (pv 4) aj)) (fun _=>rfl))))))) (ao (aK (bN (k7 (kZ iY az) aj)))) aW) (ao (aK (bN (cS (bB IF (hr.mono (by decide)) rfl T.SO T.Ax.kp T.S8 .nil aO (cS (eB (ai (pv 0) rfl) T.aA T.vK nZ (hr.mono (by decide)) T.vY .nil aO (aq (pv 2) aj)) (aq (pv 3) (aq (pv 4) aj)))) aj))))))))⟩
def Xa (T:Txt K mg A) (hr:aX 1 (J7 P w K mg base A.eJ au R outer s H E).A) {bP:Sp} (cH:aD P w K mg base aC 1 A.bx A.dw ["self","x"] bP):{t:TS // cg (J7 P w K mg base A.eJ au R outer s H E) (aI ly) t} :=
 have hu:=qo hr
 have nd:=IV.nd
 ⟨_,(af (bw (fu (cA (eB (pv 0) T.aB T.gj cH (hr.mono (by decide)) T.gA .nil aO (eG (bE bj (pv 1) az (fun _ _=>rfl)) aj)) (fun _=>rfl))) (ao (aK (bN (k7 (kZ iY az) aj)))) aW) (af (bS (i:=2) nd rfl (Or.inl rfl) (bE bj (ai (pv 0) rfl) (bE bj (pv 1) az (fun _ _=>rfl)) (fun _ _=>rfl))) (af (bS (i:=3) nd rfl (Or.inl rfl) (bN (fS az (aP (ai (pv 2) rfl) (aP (ai (pv 2) rfl) (aP (ai (pv 2) rfl) (cS (bV Bo (by rfl) T.c8 PySem.boot_len (aP (ai (pv 2) rfl) aj)) aj))))))) (af (jX PassesOwn.never rfl (ir (bV (xV rfl) (by rfl) T.lM PyProof.Rows.boot_sorted (aP (ai (pv 2) rfl) aj))) (dU (i:=4) nd rfl (Or.inl rfl)) (af (bS (i:=5) nd rfl (Or.inl rfl) (DF hu (ai (pv 2) rfl) (pv 4) (fun _ _=>rfl))) (ao (bf (iy PySem.F.plainAttrs_list PySem.F.slot_list_extend PySem.F.type_list_extend lN (pv 3) (RA (bN (aq (pv 4) (aP (ai (pv 5) rfl) (cS (bV Bo (by rfl) T.c8 PySem.boot_len (aP (ai (pv 5) rfl) aj)) aj)))) aj)))))) (ao (aK (pv 3)))))))⟩
def aag (T:Txt K mg A) (hr:aX 1 (M7 P w K mg base A.fB au R outer s H E).A) {bP:Sp} (cH:aD P w K mg base aC 1 A.bx A.dw ["self","x"] bP):{t:TS // cg (M7 P w K mg base A.fB au R outer s H E) (aI ni) t} :=
 have nd:=Mw.nd
 ⟨_,(af (bS (i:=2) nd rfl (Or.inl rfl) (bE bj (pv 1) az (fun _ _=>rfl))) (af (bw (fu (cA (eB (pv 0) T.aB T.gj cH (hr.mono (by decide)) T.gA .nil aO (aq (pv 2) aj)) (fun _=>rfl))) (ao (aK (bN (k7 (kZ iY az) aj)))) aW) (af (bS (i:=3) nd rfl (Or.inl rfl) (bE bj (ai (ai (pv 0) rfl) rfl) (pv 2) (fun _ _=>rfl))) (af (bS (i:=4) nd rfl (Or.inl rfl) (bN (fS az (eG (bE bj (ai (ai (pv 0) rfl) rfl) (pv 2) (fun _ _=>rfl)) (aP (ai (pv 3) rfl) aj))))) (af (bf (iy PySem.F.plainAttrs_list PySem.F.slot_list_append PySem.F.type_list_append kc (pv 4) (cS (bV Bo (by rfl) T.c8 PySem.boot_len (aP (ai (pv 3) rfl) aj)) aj))) (af (bf (iy PySem.F.plainAttrs_list PySem.F.slot_list_extend PySem.F.type_list_extend lN (pv 4) (cS (bV (xV rfl) (by rfl) T.lM PyProof.Rows.boot_sorted (aP (ai (pv 3) rfl) aj)) aj))) (af (bf (iy PySem.F.plainAttrs_list PySem.F.slot_list_append PySem.F.type_list_append kc (pv 4) (cS (bV Bo (by rfl) T.c8 PySem.boot_len (aP (ai (pv 3) rfl) aj)) aj))) (af (bf (iy PySem.F.plainAttrs_list PySem.F.slot_list_extend PySem.F.type_list_extend lN (pv 4) (cS (bV (xV rfl) (by rfl) T.lM PyProof.Rows.boot_sorted (aP (ai (pv 3) rfl) aj)) aj))) (ao (aK (pv 4)))))))))))⟩
def NT (T:Txt K mg A) (hr:aX 2 (Bc P w K mg base A.cU au R outer s H E).A) {iF:Sp} (qf:aD P w K mg base aC 2 A.cy A.i5 ["self"] iF):{t:TS // cg (Bc P w K mg base A.cU au R outer s H E) (aI iN) t} :=
 have nd:=AF.nd
 ⟨_,(af (bS (i:=2) nd rfl (Or.inl rfl) (ai (pv 0) rfl)) (af (bS (i:=3) nd rfl (Or.inl rfl) (ajJ (cA (ai (pv 2) rfl) (fun _=>rfl)) az az)) (af (bS (i:=4) nd rfl (Or.inl rfl) (bN (fS az (aP (ai (pv 2) rfl) (aq (pv 3) (cS (lZ (pv 2) T.aA T.yy qf (hr.mono (by decide)) T.yP .nil aO) (cS (bV bT (by rfl) T.c8 PySem.boot_len (aP (ai (pv 2) rfl) aj)) aj))))))) (af (jX PassesOwn.never rfl (ir (ai (pv 2) rfl)) (acE rfl (zf (dU (i:=5) nd rfl (Or.inl rfl)) (zf (dU (i:=6) nd rfl (Or.inl rfl)) XJ))) (ao (bf (iy PySem.F.plainAttrs_list PySem.F.slot_list_extend PySem.F.type_list_extend lN (pv 4) (RA (bN (aq (pv 5) (aq (pv 6) aj))) aj))))) (ao (aK (pv 4)))))))⟩
def aeP (T:Txt K mg A) (hr:aX 1 (SX P w K mg base A.g7 au R outer s H E).A) {qB:Sp} (Sm:aD P w K mg base aC 1 A.dc A.mW ["message"] qB):{t:TS // cg (SX P w K mg base A.g7 au R outer s H E) (aI rT) t} :=
 have nd:=So.nd
 ⟨_,(af (bS (i:=2) nd rfl (Or.inl rfl) (bN (fS az (cS (bV bT (by rfl) T.c8 PySem.boot_len (aP (ai (pv 0) rfl) aj)) aj)))) (af (jX PassesOwn.never rfl (ir (ai (pv 0) rfl)) (dU (i:=3) nd rfl (Or.inl rfl)) (ao (bf (iy PySem.F.plainAttrs_list PySem.F.slot_list_extend PySem.F.type_list_extend lN (pv 2) (cS (bB Sm (hr.mono (by decide)) rfl T.Sf T.tE.kp T.Sj .nil aO (aq (pv 3) aj)) aj))))) (ao (aK (pv 2)))))⟩
def NV (T:Txt K mg A) (hr:aX 0 (Be P w K mg base A.dc au R outer s H E).A):{t:TS // cg (Be P w K mg base A.dc au R outer s H E) (aI iP) t} :=
 have nd:=AH.nd
 ⟨_,(af (bS (i:=1) nd rfl (Or.inl rfl) (bN (aP (ai (pv 0) rfl) (aP (ai (pv 0) rfl) (aP (ai (pv 0) rfl) aj))))) (af (bw (bQ mP (ai (pv 0) rfl) (bF rfl T.uV) (cj _)) (ao (aK (pv 1))) aW) (af (bf (iy PySem.F.plainAttrs_list PySem.F.slot_list_append PySem.F.type_list_append kc (pv 1) (aP (ai (pv 0) rfl) aj))) (af (bw (bQ mP (ai (pv 0) rfl) (bF rfl T.xx) (cj _)) (af (bf (iy PySem.F.plainAttrs_list PySem.F.slot_list_extend PySem.F.type_list_extend lN (pv 1) (RA (bN (aP (ai (pv 0) rfl) (aP (ai (pv 0) rfl) aj))) aj))) (ao (bw (bQ afI (ai (pv 0) rfl) VH (cj _)) (ao (bf (iy PySem.F.plainAttrs_list PySem.F.slot_list_extend PySem.F.type_list_extend ahg (pv 1) (aP (ai (pv 0) rfl) aj)))) aW))) aW) (ao (aK (pv 1)))))))⟩
def U7 (T:Txt K mg A) (hr:aX 0 (Gy P w K mg base A.dW au R outer s H E).A):{t:TS // cg (Gy P w K mg base A.dW au R outer s H E) (aI kh) t} :=
 have nd:=FY.nd
 ⟨_,(af (bS (i:=2) nd rfl (Or.inl rfl) (bN (fS az (cS (bV bT (by rfl) T.c8 PySem.boot_len (aP (ai (pv 0) rfl) aj)) aj)))) (af (jX PassesOwn.never rfl (ir (ai (pv 0) rfl)) (dU (i:=3) nd rfl (Or.inl rfl)) (af (bf (iy PySem.F.plainAttrs_list PySem.F.slot_list_extend PySem.F.type_list_extend lN (pv 2) (RA (bN (aP (ai (pv 3) rfl) (aP (ai (pv 3) rfl) (aP (ai (pv 3) rfl) (aP (ai (pv 3) rfl) (cS (bV bT (by rfl) T.c8 PySem.boot_len (aP (ai (pv 3) rfl) aj)) aj)))))) aj))) (ao (bf (iy PySem.F.plainAttrs_list PySem.F.slot_list_extend PySem.F.type_list_extend lN (pv 2) (aP (ai (pv 3) rfl) aj)))))) (ao (aK (pv 2)))))⟩
def Xc (T:Txt K mg A) (hr:aX 0 (J9 P w K mg base A.eL au R outer s H E).A):{t:TS // cg (J9 P w K mg base A.eL au R outer s H E) (aI lB) t} :=
 have hu:=qo hr
 have nd:=IX.nd
 ⟨_,(af (bS (i:=2) nd rfl (Or.inl rfl) (bN (fS az (aP (ai (pv 0) rfl) (aP (ai (pv 0) rfl) (aP (ai (pv 0) rfl) (aP (ai (pv 0) rfl) aj))))))) (af (jX PassesOwn.never rfl (ir (bV (xV rfl) (by rfl) T.lM PyProof.Rows.boot_sorted (aP (ai (pv 0) rfl) aj))) (dU (i:=3) nd rfl (Or.inl rfl)) (ao (bf (iy PySem.F.plainAttrs_list PySem.F.slot_list_append PySem.F.type_list_append kc (pv 2) (eG (DF hu (ai (pv 0) rfl) (pv 3) (fun _ _=>rfl)) aj))))) (ao (aK (pv 2)))))⟩
def akY (T:Txt K mg A) (hr:aX 3 (af7 P w K mg base A.rq au R outer s H E).A) {ahJ:Int → Option Sp} (ahw:∀ z sp,ahJ z = some sp → ∃ f fd ps,(LX A).lookup z = some f ∧ aD P w K mg base aC 3 f fd ps sp ∧ Binds K fd ps [] ∧ W.keepIn K (.ref f) = true):{t:TS // cg (af7 P w K mg base A.rq au R outer s H E) (aI Jb) t} :=
 ⟨_,(ao (aK (acG rfl T.xr T.ahD (pv 1) (fun _ _=>rfl) ahw (hr.mono (by decide)) aO (aq (pv 0) (aq (pv 2) aj)))))⟩
def RQ (T:Txt K mg A) (hr:aX 0 (Dd P w K mg base A.dJ au R outer s H E).A):{t:TS // cg (Dd P w K mg base A.dJ au R outer s H E) (aI jd) t} :=
 ⟨_,(ao (aK (AR (l5 ff ff az (pv 0) az) (AR (l5 ff ff az (pv 1) az) (AR (l5 ff ff az (pv 2) az) (VG (l5 ff ff az (pv 3) az)))))))⟩
def DN (T:Txt K mg A) (hr:aX 1 (EV P w K mg base A.ej au R outer s H E).A) {bP:Sp} (cH:aD P w K mg base aC 1 A.bx A.dw ["self","x"] bP) {qC:Sp} (Ac:aD P w K mg base aC 1 A.jj A.zN ["number"] qC):{t:TS // cg (EV P w K mg base A.ej au R outer s H E) (aI jD) t} :=
 ⟨_,(af (bw (PW.pt (wA (bQ Dr (bE nJ (pv 1) az (fun _ _=>rfl)) (bF rfl T.jM) (cj _)) (vA (fu (cA (eB (pv 0) T.aB T.gj cH (hr.mono (by decide)) T.gA .nil aO (eG (bE nJ (pv 1) az (fun _ _=>rfl)) aj)) (fun _=>rfl)))))) (ao (aK k6)) aW) (ao (aK (AR (bB Ac (hr.mono (by decide)) rfl T.LV T.Ah.kp T.Mg .nil aO (eG (bE nJ (pv 1) az (fun _ _=>rfl)) aj)) (AR (bB Ac (hr.mono (by decide)) rfl T.LV T.Ah.kp T.Mg .nil aO (eG (bE nJ (pv 1) az (fun _ _=>rfl)) aj)) (AR (Jq ff (bE nJ (pv 1) az (fun _ _=>rfl)) (bE nJ (pv 1) az (fun _ _=>rfl)) (cj _)) (VG (l5 ff ff az (bE nJ (pv 1) az (fun _ _=>rfl)) az))))))))⟩
def Va (T:Txt K mg A) (hr:aX 0 (GB P w K mg base A.dX au R outer s H E).A):{t:TS // cg (GB P w K mg base A.dX au R outer s H E) (aI jc) t} :=
 have nd:=F0.nd
 ⟨_,(ao (aK (Rz (own:=[("at",1)]) rfl nd (aio rfl T.qL (fS az (cS (bV bT (by rfl) T.c8 PySem.boot_len (aq (pv 0) aj)) (fS az aj)))) (z7 (N:=["numbers","at"]) (sc:=ah jc) (by decide +kernel)) (fun _ _ _ _ _=>(dU (i:=1) nd rfl (Or.inl rfl))) (fun _ _ _ _ _=>Jf) (fun _ _ _ _ _=>(ZC (Y3 K rfl) (by rfl) T.Ed PyProof.Rows.boot_tuple (eG (Lm (ajq K rfl) (pv 0) (ze (pv 1)) (ze (j1 jY (pv 1) az))) aj))))))⟩
def NU (T:Txt K mg A) (hr:aX 2 (Bd P w K mg base A.c9 au R outer s H E).A) {lJ:Sp} (Ad:aD P w K mg base aC 1 A.dX A.nT ["numbers"] lJ) {uF:Sp} (W7:aD P w K mg base aC 2 A.ej A.qw ["world","rule"] uF):{t:TS // cg (Bd P w K mg base A.c9 au R outer s H E) (aI iO) t} :=
 have nd:=AG.nd
 ⟨_,(af (bw (PW.pt (Vw (bQ abj (bV bT (by rfl) T.c8 PySem.boot_len (aq (pv 1) aj)) (bF rfl T.iJ) (cj _)) (Vv (bQ Dr (j1 amR (bV bT (by rfl) T.c8 PySem.boot_len (aq (pv 1) aj)) az) az (cj _))))) (ao (aK k6)) aW) (af (jX PassesOwn.never rfl (ir (bB Ad (hr.mono (by decide)) rfl T.JW T.r8.kp T.Ks .nil aO (aq (pv 1) aj))) (dU (i:=2) nd rfl (Or.inl rfl)) (ao (bw (fu (cA (bB W7 (hr.mono (by decide)) rfl T.Wt T.yo.kp T.WS .nil aO (aq (pv 0) (aq (pv 2) aj))) (fun _=>rfl))) (ao (aK k6)) aW))) (ao (aK k6))))⟩
def agw (T:Txt K mg A) (hr:aX 3 (WH P w K mg base A.fQ au R outer s H E).A) {qA:Sp} (Sl:aD P w K mg base aC 3 A.c9 A.mU ["world","numbers"] qA) {lJ:Sp} (Ad:aD P w K mg base aC 1 A.dX A.nT ["numbers"] lJ):{t:TS // cg (WH P w K mg base A.fQ au R outer s H E) (aI vt) t} :=
 have nd:=Vq.nd
 ⟨_,(af (bw (fu (cA (bB Sl (hr.mono (by decide)) rfl T.Se T.tD.kp T.Si .nil aO (aq (pv 0) (aq (pv 1) aj))) (fun _=>rfl))) (ao (aK (bN (k7 (kZ iY az) aj)))) aW) (af (bS (i:=2) nd rfl (Or.inl rfl) (ai (pv 0) rfl)) (af (bw (cA (ai (pv 2) rfl) (fun _=>rfl)) (ao (aK (bN (k7 (kZ iY az) aj)))) aW) (af (bf (iy PySem.F.plainAttrs_list PySem.F.slot_list_append PySem.F.type_list_append kc (ai (pv 2) rfl) (cS (bB Ad (hr.mono (by decide)) rfl T.JW T.r8.kp T.Ks .nil aO (aq (pv 1) aj)) aj))) (af (bM (pv 2) k6 rfl) (ao (aK (bN (cS (bV bT (by rfl) T.c8 PySem.boot_len (aP (ai (pv 2) rfl) aj)) aj)))))))))⟩
def akW (T:Txt K mg A) (hr:aX 4 (af5 P w K mg base A.kN au R outer s H E).A) {iF:Sp} (qf:aD P w K mg base aC 2 A.cy A.i5 ["self"] iF) {wm:Sp} (Zi:aD P w K mg base aC 4 A.eU A.rY ["world","x"] wm) {DS:Sp} (afn:aD P w K mg base aC 3 A.gY A.Aq ["world","x","target"] DS) {By:Sp} (aeE:aD P w K mg base aC 3 A.gu A.xM ["world","x"] By):{t:TS // cg (af5 P w K mg base A.kN au R outer s H E) (aI I0) t} :=
 have nd:=aft.nd
 ⟨_,(af (bS (i:=2) nd rfl (Or.inl rfl) (lZ (ai (pv 0) rfl) T.aA T.yy qf (hr.mono (by decide)) T.yP .nil aO)) (af (jX PassesOwn.never rfl (OF rfl T.qL (cS (bV bT (by rfl) T.c8 PySem.boot_len (aP (ai (pv 0) rfl) aj)) aj)) (dU (i:=3) nd rfl (Or.inl rfl)) (af (bf (bB Zi (hr.mono (by decide)) rfl T.YE T.Af.kp T.Y7 .nil aO (aq (pv 0) (aq (pv 3) aj)))) (af (bf (bB afn (hr.mono (by decide)) rfl T.ae9 T.IK.kp T.afh .nil aO (aq (pv 0) (aq (pv 3) (aq (pv 2) aj))))) (ao (bf (bB aeE (hr.mono (by decide)) rfl T.adO T.FL.kp T.aep .nil aO (aq (pv 0) (aq (pv 3) aj)))))))) (ao (aK (bN (fS az aj))))))⟩
def U8 (T:Txt K mg A) (hr:aX 3 (Gz P w K mg base A.eU au R outer s H E).A) {DR:Sp} (Tf:aD P w K mg base aC 3 A.gX A.Ao ["world","x","version"] DR):{t:TS // cg (Gz P w K mg base A.eU au R outer s H E) (aI ki) t} :=
 have hu:=qo hr
 have nd:=FZ.nd
 ⟨_,(af (bS (i:=2) nd rfl (Or.inl rfl) (ai (pv 0) rfl)) (af (bS (i:=3) nd rfl (Or.inl rfl) (ai (bE bj (ai (pv 2) rfl) (pv 1) (fun _ _=>rfl)) rfl)) (af (bw (PW.pt (wA (bQ Dr (ai (pv 2) rfl) az (cj _)) (vA (wB (qK hu (ai (pv 2) rfl) (pv 3)))))) (ao (bf (bB Tf (hr.mono (by decide)) rfl T.SN T.Aw.kp T.S7 .nil aO (aq (pv 0) (aq (pv 1) (aP (ai (pv 2) rfl) aj)))))) aW) (ao (bw (PW.pt (wA (cA (ai (pv 2) rfl) (fun _=>rfl)) (vA (wB (qK hu (j1 jY (ai (pv 2) rfl) az) (pv 3)))))) (ao (bf (bB Tf (hr.mono (by decide)) rfl T.SN T.Aw.kp T.S7 .nil aO (aq (pv 0) (aq (pv 1) (OJ (j1 jY (ai (pv 2) rfl) az) aj)))))) aW)))))⟩
def abv (T:Txt K mg A) (hr:aX 2 (Qw P w K mg base A.gX au R outer s H E).A) {gR:Sp} (nZ:aD P w K mg base aC 1 A.bW A.iw ["self","version"] gR) {dR:Sp} (fH:aD P w K mg base aC 2 A.cY A.iM ["self","message"] dR) {d8:Sp} (fO:aD P w K mg base aC 1 A.cO A.eW ["self","kind","x","start","version","place","total","rule"] d8):{t:TS // cg (Qw P w K mg base A.gX au R outer s H E) (aI pI) t} :=
 have nd:=N8.nd
 ⟨_,(af (bS (i:=3) nd rfl (Or.inl rfl) (bE bj (ai (ai (pv 0) rfl) rfl) (pv 1) (fun _ _=>rfl))) (af (bS (i:=4) nd rfl (Or.inl rfl) (eB (ai (pv 0) rfl) T.aA T.vK nZ (hr.mono (by decide)) T.vY .nil aO (aq (pv 2) aj))) (af (bw (bQ mP (bV bT (by rfl) T.c8 PySem.boot_len (aq (pv 4) aj)) az (cj _)) (ao (bf (eB (pv 0) T.aB T.kH fH (hr.mono (by decide)) T.kW .nil aO (cS (kr T.jo fO (hr.mono (by decide)) rfl T.rX T.o5 T.mS aO (aq (bF rfl T.xx) (aq (pv 1) (aq (pv 3) (aq (pv 2) aj))))) aj)))) aW) (ao (jX PassesOwn.never rfl (alr rfl T.qM (aq (pv 4) aj)) (acE rfl (zf (dU (i:=5) nd rfl (Or.inl rfl)) (zf (dU (i:=6) nd rfl (Or.inl rfl)) XJ))) (ao (bf (eB (pv 0) T.aB T.kH fH (hr.mono (by decide)) T.kW .nil aO (cS (kr T.jo fO (hr.mono (by decide)) rfl T.rX T.UN .nil aO (aq (bF rfl T.xx) (aq (pv 1) (aq (pv 3) (aq (pv 2) (aq (pv 5) (cS (bV bT (by rfl) T.c8 PySem.boot_len (aq (pv 4) aj)) (aq (pv 6) aj)))))))) aj)))))))))⟩
def abw (T:Txt K mg A) (hr:aX 2 (Qx P w K mg base A.gY au R outer s H E).A) {dR:Sp} (fH:aD P w K mg base aC 2 A.cY A.iM ["self","message"] dR) {d8:Sp} (fO:aD P w K mg base aC 1 A.cO A.eW ["self","kind","x","start","version","place","total","rule"] d8):{t:TS // cg (Qx P w K mg base A.gY au R outer s H E) (aI pJ) t} :=
 have hu:=qo hr
 have nd:=N9.nd
 ⟨_,(af (bS (i:=3) nd rfl (Or.inl rfl) (bE bj (ai (ai (pv 0) rfl) rfl) (pv 1) (fun _ _=>rfl))) (ao (bw (PW.pt (wA (bQ Dr (pv 2) az (cj _)) (wA (wB (aip hu (pv 2) (ai (pv 3) rfl))) (vA (bQ Lo (ai (pv 3) rfl) (pv 2) (cj _)))))) (ao (bf (eB (pv 0) T.aB T.kH fH (hr.mono (by decide)) T.kW .nil aO (cS (kr T.jo fO (hr.mono (by decide)) rfl T.rX T.o5 T.mS aO (aq (bF rfl T.zH) (aq (pv 1) (eG (bE bj (ai (ai (pv 0) rfl) rfl) (pv 1) (fun _ _=>rfl)) (aq (pv 2) aj))))) aj)))) aW)))⟩
def aaj (T:Txt K mg A) (hr:aX 2 (Na P w K mg base A.gu au R outer s H E).A) {dR:Sp} (fH:aD P w K mg base aC 2 A.cY A.iM ["self","message"] dR) {d8:Sp} (fO:aD P w K mg base aC 1 A.cO A.eW ["self","kind","x","start","version","place","total","rule"] d8):{t:TS // cg (Na P w K mg base A.gu au R outer s H E) (aI nu) t} :=
 have hu:=qo hr
 have nd:=Mx.nd
 ⟨_,(af (bS (i:=2) nd rfl (Or.inl rfl) (ai (bE bj (ai (ai (pv 0) rfl) rfl) (pv 1) (fun _ _=>rfl)) rfl)) (ao (jX PassesOwn.never rfl (ir (ai (ai (pv 0) rfl) rfl)) (acE rfl (zf (dU (i:=3) nd rfl (Or.inl rfl)) (zf (dU (i:=4) nd rfl (Or.inl rfl)) XJ))) (ao (bw (PW.pt (wA (bQ ff (pv 4) (ai (pv 0) rfl) (cj _)) (vA (wB (qK hu (pv 3) (pv 2)))))) (ao (bf (eB (pv 0) T.aB T.kH fH (hr.mono (by decide)) T.kW .nil aO (cS (kr T.jo fO (hr.mono (by decide)) rfl T.rX T.o5 T.mS aO (aq (bF rfl T.DJ) (aq (pv 1) (eG (bE bj (ai (ai (pv 0) rfl) rfl) (pv 1) (fun _ _=>rfl)) (aq (pv 3) aj))))) aj)))) aW)))))⟩
def akX (T:Txt K mg A) (hr:aX 0 (af6 P w K mg base A.kO au R outer s H E).A):{t:TS // cg (af6 P w K mg base A.kO au R outer s H E) (aI Ja) t} :=
 have nd:=afu.nd
 ⟨_,(af (bS (i:=2) nd rfl (Or.inl rfl) (bE bj (pv 1) az (fun _ _=>rfl))) (af (bw (fu (Lg ff ff az (pv 2) (bF rfl T.nQ))) (ao (aK (bN (k7 (kZ iY az) aj)))) aW) (af (bw (bQ abj (j1 jY (ai (pv 0) rfl) (pv 2)) (bF rfl T.nQ) (cj _)) (ao (aK (bN (k7 (kZ iY az) aj)))) aW) (af (qI (pv 0) (pv 2) xm) (ao (aK (bN (fS az aj))))))))⟩
def abz (T:Txt K mg A) (hr:aX 0 (QA P w K mg base A.fM au R outer s H E).A):{t:TS // cg (QA P w K mg base A.fM au R outer s H E) (aI pM) t} :=
 ⟨_,(ao (aK (l5 ff Lo az (pv 1) (bV bT (by rfl) T.c8 PySem.boot_len (aP (ai (pv 0) rfl) aj)))))⟩
def agx (T:Txt K mg A) (hr:aX 6 (WI P w K mg base A.gz au R outer s H E).A) {kE:Sp} (ux:aD P w K mg base aC 1 A.fM A.pT ["world","k"] kE) {qD:Sp} (IG:aD P w K mg base aC 6 A.gC A.t9 ["world","message"] qD):{t:TS // cg (WI P w K mg base A.gz au R outer s H E) (aI vv) t} :=
 ⟨_,(af (bw (fu (cA (bB ux (hr.mono (by decide)) rfl T.Ik T.uy.kp T.Iu .nil aO (aq (pv 0) (eG (bE bj (pv 1) az (fun _ _=>rfl)) aj))) (fun _=>rfl))) (ao (aK (bN (k7 (kZ iY az) aj)))) aW) (af (bf (bB IG (hr.mono (by decide)) rfl T.SQ T.Ay.kp T.S9 .nil aO (aq (pv 0) (cS (iy PySem.F.plainAttrs_list PySem.F.slot_list_pop PySem.F.type_list_pop LB (ai (pv 0) rfl) (eG (bE bj (pv 1) az (fun _ _=>rfl)) aj)) aj)))) (ao (aK (bN (fS az aj))))))⟩
def akZ (T:Txt K mg A) (hr:aX 1 (af8 P w K mg base A.kP au R outer s H E).A) {kE:Sp} (ux:aD P w K mg base aC 1 A.fM A.pT ["world","k"] kE):{t:TS // cg (af8 P w K mg base A.kP au R outer s H E) (aI Jc) t} :=
 ⟨_,(af (bw (fu (cA (bB ux (hr.mono (by decide)) rfl T.Ik T.uy.kp T.Iu .nil aO (aq (pv 0) (eG (bE bj (pv 1) az (fun _ _=>rfl)) aj))) (fun _=>rfl))) (ao (aK (bN (k7 (kZ iY az) aj)))) aW) (af (bf (iy PySem.F.plainAttrs_list PySem.F.slot_list_pop PySem.F.type_list_pop LB (ai (pv 0) rfl) (eG (bE bj (pv 1) az (fun _ _=>rfl)) aj))) (ao (aK (bN (fS az aj))))))⟩
def ah1 (T:Txt K mg A) (hr:aX 2 (Z2 P w K mg base A.ig au R outer s H E).A) {kE:Sp} (ux:aD P w K mg base aC 1 A.fM A.pT ["world","k"] kE) {iE:Sp} (qe:aD P w K mg base aC 1 A.cu A.i0 ["self"] iE) {dR:Sp} (fH:aD P w K mg base aC 2 A.cY A.iM ["self","message"] dR):{t:TS // cg (Z2 P w K mg base A.ig au R outer s H E) (aI zd) t} :=
 ⟨_,(af (bw (fu (cA (bB ux (hr.mono (by decide)) rfl T.Ik T.uy.kp T.Iu .nil aO (aq (pv 0) (eG (bE bj (pv 1) az (fun _ _=>rfl)) aj))) (fun _=>rfl))) (ao (aK (bN (k7 (kZ iY az) aj)))) aW) (af (bw (cA (lZ (pv 0) T.aB T.yx qe (hr.mono (by decide)) T.yO .nil aO) (fun _=>rfl)) (ao (aK (bN (k7 (kZ iY az) aj)))) aW) (af (bf (eB (pv 0) T.aB T.kH fH (hr.mono (by decide)) T.kW .nil aO (eG (bE bj (ai (pv 0) rfl) (bE bj (pv 1) az (fun _ _=>rfl)) (fun _ _=>rfl)) aj))) (ao (aK (bN (fS az aj)))))))⟩
def ak0 (T:Txt K mg A) (hr:aX 6 (af9 P w K mg base A.jZ au R outer s H E).A) {qD:Sp} (IG:aD P w K mg base aC 6 A.gC A.t9 ["world","message"] qD):{t:TS // cg (af9 P w K mg base A.jZ au R outer s H E) (aI Jd) t} :=
 have nd:=afv.nd
 ⟨_,(af (bw (fu (Lg ff ff az (bE bj (pv 1) az (fun _ _=>rfl)) (bF rfl T.rf))) (ao (aK (bN (k7 (kZ iY az) aj)))) aW) (af (bS (i:=2) nd rfl (Or.inl rfl) az) (af (acv PassesOwn.never (PW.pt (wA (bQ Lo (pv 2) (bE bj (pv 1) az (fun _ _=>rfl)) (cj _)) (vA (bQ abj (bV bT (by rfl) T.c8 PySem.boot_len (aP (ai (pv 0) rfl) aj)) az (cj _))))) (af (bf (bB IG (hr.mono (by decide)) rfl T.SQ T.Ay.kp T.S9 .nil aO (aq (pv 0) (cS (iy PySem.F.plainAttrs_list PySem.F.slot_list_pop PySem.F.type_list_pop LB (ai (pv 0) rfl) (fS az aj)) aj)))) (ao (Vz (i:=2) nd rfl (Or.inl rfl) az Wc)))) (ao (aK (bN (fS az (aq (pv 2) aj))))))))⟩
def agv (T:Txt K mg A) (hr:aX 3 (WG P w K mg base A.gx au R outer s H E).A) {bP:Sp} (cH:aD P w K mg base aC 1 A.bx A.dw ["self","x"] bP) {m8:Sp} (CI:aD P w K mg base aC 1 A.dY A.pB ["self","start"] m8) {o9:Sp} (FG:aD P w K mg base aC 3 A.fC A.rC ["world","x"] o9):{t:TS // cg (WG P w K mg base A.gx au R outer s H E) (aI vq) t} :=
 have nd:=Vo.nd
 ⟨_,(af (bS (i:=2) nd rfl (Or.inl rfl) (bE bj (pv 1) az (fun _ _=>rfl))) (af (bw (fu (cA (eB (pv 0) T.aB T.gj cH (hr.mono (by decide)) T.gA .nil aO (aq (pv 2) aj)) (fun _=>rfl))) (ao (aK (bN (k7 (kZ iY az) aj)))) aW) (af (qI (pv 0) az xm) (af (acw (kr T.vI CI (hr.mono (by decide)) rfl T.ZQ T.Nm .nil aO (aP (ai (pv 0) rfl) aj)) (acF (ai (pv 0) rfl) (pv 2) set_list)) (af (bf (bB FG (hr.mono (by decide)) rfl T.PY T.yn.kp T.Q3 .nil aO (aq (pv 0) (aq (pv 2) aj)))) (ao (aK (bN (aP (ai (pv 0) rfl) aj)))))))))⟩
def aje (T:Txt K mg A) (hr:aX 3 (ad8 P w K mg base A.jk au R outer s H E).A) {bP:Sp} (cH:aD P w K mg base aC 1 A.bx A.dw ["self","x"] bP) {o9:Sp} (FG:aD P w K mg base aC 3 A.fC A.rC ["world","x"] o9):{t:TS // cg (ad8 P w K mg base A.jk au R outer s H E) (aI Dz) t} :=
 ⟨_,(af (bw (fu (cA (eB (pv 0) T.aB T.gj cH (hr.mono (by decide)) T.gA .nil aO (eG (bE bj (pv 1) az (fun _ _=>rfl)) aj)) (fun _=>rfl))) (ao (aK (bN (k7 (kZ iY az) aj)))) aW) (af (bf (bB FG (hr.mono (by decide)) rfl T.PY T.yn.kp T.Q3 .nil aO (aq (pv 0) (eG (bE bj (pv 1) az (fun _ _=>rfl)) aj)))) (ao (aK (bN (fS az aj))))))⟩
def aai (T:Txt K mg A) (hr:aX 2 (M9 P w K mg base A.fC au R outer s H E).A) {dR:Sp} (fH:aD P w K mg base aC 2 A.cY A.iM ["self","message"] dR) {d8:Sp} (fO:aD P w K mg base aC 1 A.cO A.eW ["self","kind","x","start","version","place","total","rule"] d8):{t:TS // cg (M9 P w K mg base A.fC au R outer s H E) (aI nt) t} :=
 ⟨_,(ao (bf (eB (pv 0) T.aB T.kH fH (hr.mono (by decide)) T.kW .nil aO (cS (kr T.jo fO (hr.mono (by decide)) rfl T.rX T.UO T.Sg aO (aq (bF rfl T.uV) (aq (pv 1) (aP (ai (bE bj (ai (pv 0) rfl) (pv 1) (fun _ _=>rfl)) rfl) aj)))) aj))))⟩
def ajh (T:Txt K mg A) (hr:aX 3 (aeb P w K mg base A.jm au R outer s H E).A) {iG:Sp} (qg:aD P w K mg base aC 3 A.cz A.i6 ["self"] iG):{t:TS // cg (aeb P w K mg base A.jm au R outer s H E) (aI DC) t} :=
 ⟨_,(af (bf (lZ (ai (pv 0) rfl) T.aA T.yz qg (hr.mono (by decide)) T.yQ .nil aO)) (ao (aK (bN (fS az aj)))))⟩
def Xe (T:Txt K mg A) (hr:aX 7 (Kc P w K mg base A.fE au R outer s H E).A) {ajo:Sp} (al8:aD P w K mg base aC 6 A.jl A.RI ["world","given"] ajo) {amB:Sp} (ao8:aD P w K mg base aC 5 A.qt A.abq ["world","given"] amB) {Xl:Sp} (an2:aD P w K mg base aC 4 A.rq A.WD ["world","number","given"] Xl) {akq:Int → Option Sp} (akh:∀ z sp,akq z = some sp → ∃ f fd ps,(EI A).lookup z = some f ∧ aD P w K mg base aC 7 f fd ps sp ∧ Binds K fd ps [] ∧ W.keepIn K (.ref f) = true):{t:TS // cg (Kc P w K mg base A.fE au R outer s H E) (aI lC) t} :=
 ⟨_,(af (bw (wB (amO rfl T.zG T.adM (pv 1))) (ao (aK (acG rfl T.zG T.adM (pv 1) (fun _ _=>rfl) akh (hr.mono (by decide)) aO (aq (pv 0) (aq (pv 2) aj))))) aW) (af (bw (bQ mP (pv 1) (bF rfl T.jx) (cj _)) (ao (aK (bB al8 (hr.mono (by decide)) rfl T.alZ T.Zn.kp T.al3 .nil aO (aq (pv 0) (aq (pv 2) aj))))) aW) (af (bw (bQ mP (pv 1) (bF rfl T.PX) (cj _)) (ao (aK (bB ao8 (hr.mono (by decide)) rfl T.aoN T.ahR.kp T.aoX .nil aO (aq (pv 0) (aq (pv 2) aj))))) aW) (ao (aK (bB an2 (hr.mono (by decide)) rfl T.anx T.aeK.kp T.anK .nil aO (aq (pv 0) (aq (pv 1) (aq (pv 2) aj)))))))))⟩
def abC (T:Txt K mg A) (hr:aX 0 (QD P w K mg base A.gE au R outer s H E).A):{t:TS // cg (QD P w K mg base A.gE au R outer s H E) (aI pP) t} :=
 ⟨_,(af (bM (pv 0) (pv 1) rfl) (ao (bM (pv 0) (pv 2) rfl)))⟩
def aak (T:Txt K mg A) (hr:aX 2 (Nb P w K mg base A.gy au R outer s H E).A) {DW:Sp} (afq:aD P w K mg base aC 1 A.gE A.Au ["self","number","given"] DW):{t:TS // cg (Nb P w K mg base A.gy au R outer s H E) (aI nv) t} :=
 have nd:=My.nd
 ⟨_,(af (bS (i:=1) nd rfl (Or.inl rfl) (bN aj)) (af (bS (i:=2) nd rfl (Or.inl rfl) az) (af (acv PassesOwn.never (bQ Lo (pv 2) (bV bT (by rfl) T.c8 PySem.boot_len (aq (pv 0) aj)) (cj _)) (af (bS (i:=3) nd rfl (Or.inl rfl) (bE bj (pv 0) (pv 2) (fun _ _=>rfl))) (af (Vz (i:=2) nd rfl (Or.inl rfl) az Wc) (af (bS (i:=4) nd rfl (Or.inl rfl) (Lm Ru (pv 0) (ze (pv 2)) (ze (j1 jY (pv 2) (bE nJ (als rfl T.xu) (pv 3) (fun _ _=>rfl)))))) (af (Vz (i:=2) nd rfl (Or.inl rfl) (bV bT (by rfl) T.c8 PySem.boot_len (aq (pv 4) aj)) Wc) (af (bw (bQ OL (pv 3) (VF (aq (bF rfl T.xy) (aq (bF rfl T.kL) aj))) rfl) (af (bS (i:=5) nd rfl (Or.inl rfl) (Lm Ru (pv 0) (ze (j1 jY (pv 2) az)) (ze (j1 jY (j1 jY (pv 2) az) (bE bj (pv 0) (pv 2) (fun _ _=>rfl)))))) (af (Vz (i:=2) nd rfl (Or.inl rfl) (j1 jY az (bV bT (by rfl) T.c8 PySem.boot_len (aq (pv 5) aj))) Wc) (ao (bS (i:=4) nd rfl (Or.inl rfl) (j1 amT (pv 4) (pv 5)))))) aW) (ao (bf (iy PySem.F.plainAttrs_list PySem.F.slot_list_append PySem.F.type_list_append kc (pv 1) (cS (kr T.JD afq (hr.mono (by decide)) rfl T.alX T.afk .nil aO (aq (pv 3) (aq (pv 4) aj))) aj)))))))))) (ao (aK (pv 1))))))⟩
def Vb (T:Txt K mg A) (hr:aX 0 (GC P w K mg base A.dZ au R outer s H E).A):{t:TS // cg (GC P w K mg base A.dZ au R outer s H E) (aI ko) t} :=
 ⟨_,(ao (bM (pv 0) VH rfl))⟩
def RS (T:Txt K mg A) (hr:aX 8 (De P w K mg base A.c6 au R outer s H E).A) {uH:Sp} (W8:aD P w K mg base aC 8 A.dB A.qx ["self","given"] uH) {yZ:Sp} (abf:aD P w K mg base aC 8 A.fE A.uB ["world","number","given"] yZ):{t:TS // cg (De P w K mg base A.c6 au R outer s H E) (aI je) t} :=
 ⟨_,(af (bw (bQ mP (ai (pv 1) rfl) (bF rfl T.EH) (cj _)) (ao (aK (eB (pv 0) T.oX T.V4 W8 (hr.mono (by decide)) T.WT .nil aO (aP (ai (pv 1) rfl) aj)))) aW) (af (bw (bQ amS (ai (pv 0) rfl) VH (cj _)) (ao (aK (bN (aq (bF rfl T.qZ) aj)))) aW) (ao (aK (bB abf (hr.mono (by decide)) rfl T.aa6 T.CP.kp T.abc .nil aO (aP (ai (pv 0) rfl) (aP (ai (pv 1) rfl) (aP (ai (pv 1) rfl) aj))))))))⟩
def Tj (T:Txt K mg A) (hr:aX 7 (EW P w K mg base A.dB au R outer s H E).A) {sA:Sp} (UX:aD P w K mg base aC 1 A.dJ A.oR ["n","cap","life","room"] sA) {BB:Sp} (aeG:aD P w K mg base aC 6 A.fF A.xO ["self","n","cap","life","room"] BB):{t:TS // cg (EW P w K mg base A.dB au R outer s H E) (aI jE) t} :=
 ⟨_,(af (bw (fu (cA (bB UX (hr.mono (by decide)) rfl T.Uw T.vm.kp T.UL .nil aO (eG (bE bj (pv 1) az (fun _ _=>rfl)) (eG (bE bj (pv 1) az (fun _ _=>rfl)) (eG (bE bj (pv 1) az (fun _ _=>rfl)) (eG (bE bj (pv 1) az (fun _ _=>rfl)) aj))))) (fun _=>rfl))) (ao (aK (bN (k7 (kZ iY az) aj)))) aW) (af (bM (pv 0) (kr T.Eg aeG (hr.mono (by decide)) rfl T.akj T.aer .nil aO (eG (bE bj (pv 1) az (fun _ _=>rfl)) (eG (bE bj (pv 1) az (fun _ _=>rfl)) (eG (bE bj (pv 1) az (fun _ _=>rfl)) (eG (bE bj (pv 1) az (fun _ _=>rfl)) aj))))) rfl) (ao (aK (bN (fS az aj))))))⟩
def agy (T:Txt K mg A) (hr:aX 9 (WJ P w K mg base A.lT au R outer s H E).A) {wq:Sp} (Zl:aD P w K mg base aC 1 A.dZ A.r6 ["self"] wq) {BA:Sp} (aeF:aD P w K mg base aC 3 A.gy A.xN ["numbers"] BA) {sC:Sp} (UY:aD P w K mg base aC 9 A.c6 A.oS ["self","call"] sC):{t:TS // cg (WJ P w K mg base A.lT au R outer s H E) (aI vy) t} :=
 have nd:=Vr.nd
 ⟨_,(af (bS (i:=1) nd rfl (Or.inl rfl) (TR T.wO Zl (hr.mono (by decide)) rfl T.ahE T.Y9 .nil aO)) (af (bS (i:=2) nd rfl (Or.inl rfl) (bN aj)) (af (jX PassesOwn.never rfl (ir (bB aeF (hr.mono (by decide)) rfl T.adP T.FN.kp T.aeq .nil aO (aq (pv 0) aj))) (dU (i:=3) nd rfl (Or.inl rfl)) (af (bS (i:=4) nd rfl (Or.inl rfl) (eB (pv 1) T.oX T.Ua UY (hr.mono (by decide)) T.UM .nil aO (aq (pv 3) aj))) (af (bf (iy PySem.F.plainAttrs_list PySem.F.slot_list_append PySem.F.type_list_append kc (pv 2) (cS (bV bT (by rfl) T.c8 PySem.boot_len (aq (pv 4) aj)) aj))) (ao (bf (iy PySem.F.plainAttrs_list PySem.F.slot_list_extend PySem.F.type_list_extend lN (pv 2) (aq (pv 4) aj))))))) (ao (aK (pv 2))))))⟩
end
end Pt
namespace Pt
open Vbcnao
noncomputable abbrev Up (l:List Nat):Prop:=l.Pairwise (· < ·)
theorem KZ {l:List Nat} (h:Up l):l.Nodup:=h.imp fun {a b} z=>Nat.ne_of_lt z
theorem IP:∀ {l:List Nat} {n b:Nat},Up l → (∀ x ∈ l,b ≤ x ∧ x < n + b) → l.length ≤ n
 | [],_,_,_,_=>Nat.zero_le _
 | x :: l,n,b,h,hb=>by
  have h0:=List.pairwise_cons.mp h
  have hx:=hb x (List.mem_cons_self ..)
  have:=IP (l:=l) (n:=n + b - (x + 1)) (b:=x + 1) h0.2 fun y hy=>⟨h0.1 y hy,by have:=hb y (List.mem_cons_of_mem _ hy); omega⟩
  show l.length + 1 ≤ n
  omega
theorem Dq (v:Nat):∀ (l:List Nat) (x:Nat),x ∈ putNat v l ↔ x = v ∨ x ∈ l
 | [],x=>by simp [putNat]
 | y :: l,x=>by
  unfold putNat
  split
  ·rename_i e
   subst e
   simp
  ·split
   ·simp
   ·simp only [List.mem_cons,Dq v l x]
    constructor
    ·rintro (h | h | h) <;> simp [h]
    ·rintro (h | h | h) <;> simp [h]
theorem Oi {v:Nat}:∀ {l:List Nat},Up l → v ∈ l → putNat v l = l
 | [],_,h=>by simp at h
 | y :: l,hu,h=>by
  have h0:=List.pairwise_cons.mp hu
  unfold putNat
  split
  ·rfl
  ·rename_i ne
   rcases List.mem_cons.mp h with e | h
   ·exact absurd e ne
   ·have:=h0.1 v h
    rw [if_neg (by omega),Oi h0.2 h]
theorem Lf {v:Nat}:∀ {l:List Nat},¬ v ∈ l → (putNat v l).Perm (v :: l)
 | [],_=>.refl _
 | y :: l,h=>by
  simp only [List.mem_cons,not_or] at h
  unfold putNat
  rw [if_neg h.1]
  split
  ·exact .refl _
  ·exact ((Lf h.2).cons y).trans (List.Perm.swap ..)
theorem vB (v:Nat):∀ {l:List Nat},Up l → Up (putNat v l)
 | [],_=>by simp [putNat,Up]
 | y :: l,hu=>by
  have h0:=List.pairwise_cons.mp hu
  unfold putNat
  split
  ·exact hu
  ·rename_i ne
   split
   ·rename_i lt
    refine List.pairwise_cons.mpr ⟨fun z hz=>?_,hu⟩
    rcases List.mem_cons.mp hz with e | hz
    ·omega
    ·have:=h0.1 z hz
     omega
   ·refine List.pairwise_cons.mpr ⟨fun z hz=>?_,vB v h0.2⟩
    rcases (Dq v l z).mp hz with e | hz
    ·omega
    ·exact h0.1 z hz
theorem Ss (i:Nat) (r:Rule):∀ l:List (Nat × Rule),(putRow i r l).map (·.1) = putNat i (l.map (·.1))
 | []=>rfl
 | y :: l=>by
  show (if i = y.1 then y :: l else if i < y.1 then (i,r) :: y :: l else y :: putRow i r l).map (·.1) = if i = y.1 then y.1 :: l.map (·.1) else if i < y.1 then i :: y.1 :: l.map (·.1) else y.1 :: putNat i (l.map (·.1))
  split
  ·rfl
  ·split
   ·rfl
   ·show y.1 :: (putRow i r l).map (·.1) = _
    rw [Ss i r l]
theorem Zw {i:Nat} {r:Rule}:∀ {l:List (Nat × Rule)},Up (l.map (·.1)) → i ∈ l.map (·.1) → putRow i r l = l
 | [],_,h=>by simp at h
 | y :: l,hu,h=>by
  have h0:=List.pairwise_cons.mp hu
  unfold putRow
  split
  ·rfl
  ·rename_i ne
   rcases List.mem_cons.mp h with e | h
   ·exact absurd e ne
   ·have:y.1 < i:=h0.1 i h
    rw [if_neg (by omega),Zw h0.2 h]
theorem Vx {i:Nat} {r:Rule}:∀ {l:List (Nat × Rule)},¬ i ∈ l.map (·.1) → (putRow i r l).Perm ((i,r) :: l)
 | [],_=>.refl _
 | y :: l,h=>by
  simp only [List.map_cons,List.mem_cons,not_or] at h
  unfold putRow
  rw [if_neg h.1]
  split
  ·exact .refl _
  ·exact ((Vx h.2).cons y).trans (List.Perm.swap ..)
theorem qH (h:Held):∀ l:List Held,(putHeld h l).map (·.v) = putNat h.v (l.map (·.v))
 | []=>rfl
 | y :: l=>by
  show (if h.v = y.v then h :: l else if h.v < y.v then h :: y :: l else y :: putHeld h l).map (·.v) = if h.v = y.v then y.v :: l.map (·.v) else if h.v < y.v then h.v :: y.v :: l.map (·.v) else y.v :: putNat h.v (l.map (·.v))
  split
  ·rename_i e
   show h.v :: _ = _
   rw [e]
  ·split
   ·rfl
   ·show y.v :: (putHeld h l).map (·.v) = _
    rw [qH h l]
theorem Ol {h:Held} {v:Nat}:∀ {l:List Held},Up (l.map (·.v)) → (putHeld h l).find? (fun x=>x.v == v) = if v = h.v then some h else l.find? (fun x=>x.v == v)
 | [],_=>by
  unfold putHeld
  by_cases e:v = h.v
  ·rw [if_pos e,e]
   simp
  ·rw [if_neg e]
   simp
   exact fun z=>e z.symm
 | y :: l,hu=>by
  have h0:=List.pairwise_cons.mp hu
  unfold putHeld
  split
  ·rename_i e0
   rw [List.find?_cons,List.find?_cons]
   by_cases e:v = h.v
   ·rw [if_pos e,e,beq_self_eq_true]
   ·rw [if_neg e,show (h.v == v) = false from beq_eq_false_iff_ne.mpr (fun z=>e z.symm),show (y.v == v) = false from beq_eq_false_iff_ne.mpr (fun z=>e (by omega))]
  ·rename_i ne
   split
   ·rw [List.find?_cons]
    by_cases e:v = h.v
    ·rw [if_pos e,e,beq_self_eq_true]
    ·rw [if_neg e,show (h.v == v) = false from beq_eq_false_iff_ne.mpr (fun z=>e z.symm)]
   ·rw [List.find?_cons,List.find?_cons,Ol h0.2]
    by_cases e:v = h.v
    ·rw [if_pos e,if_pos e,show (y.v == v) = false from beq_eq_false_iff_ne.mpr (fun z=>ne (by omega))]
    ·rw [if_neg e,if_neg e]
theorem Hl {h x:Held}:∀ {l:List Held},x ∈ putHeld h l → x = h ∨ x ∈ l
 | [],hx=>by simp [putHeld] at hx; exact .inl hx
 | y :: l,hx=>by
  unfold putHeld at hx
  split at hx
  ·rcases List.mem_cons.mp hx with e | hx
   ·exact .inl e
   ·exact .inr (List.mem_cons_of_mem _ hx)
  ·split at hx
   ·rcases List.mem_cons.mp hx with e | hx
    ·exact .inl e
    ·exact .inr hx
   ·rcases List.mem_cons.mp hx with e | hx
    ·exact .inr (by rw [e]; exact List.mem_cons_self ..)
    ·rcases Hl hx with e | hx
     ·exact .inl e
     ·exact .inr (List.mem_cons_of_mem _ hx)
theorem Vy {i:Nat} {r:Rule} {x:Nat × Rule}:∀ {l:List (Nat × Rule)},x ∈ putRow i r l → x = (i,r) ∨ x ∈ l
 | [],hx=>by simp [putRow] at hx; exact .inl hx
 | y :: l,hx=>by
  unfold putRow at hx
  split at hx
  ·exact .inr hx
  ·split at hx
   ·rcases List.mem_cons.mp hx with e | hx
    ·exact .inl e
    ·exact .inr hx
   ·rcases List.mem_cons.mp hx with e | hx
    ·exact .inr (by rw [e]; exact List.mem_cons_self ..)
    ·rcases Vy hx with e | hx
     ·exact .inl e
     ·exact .inr (List.mem_cons_of_mem _ hx)
theorem mq {w:Switch} {v:Nat} {h:Held} (e:heldOf w v = some h):h.v = v ∧ h ∈ w.held:=by
 unfold heldOf at e
 have h1:(h.v == v) = true:=List.find?_some (p:=fun h:Held=>h.v == v) e
 exact ⟨eq_of_beq h1,List.mem_of_find?_eq_some e⟩
theorem pS {w:Switch} {v:Nat}:heldOf w v = none ↔ ¬ v ∈ w.held.map (·.v):=by
 unfold heldOf
 rw [List.find?_eq_none]
 constructor
 ·intro h m
  obtain ⟨x,hx,e⟩:=List.mem_map.mp m
  exact h x hx (by rw [e]; exact beq_self_eq_true _)
 ·intro h x hx e
  exact h (List.mem_map.mpr ⟨x,hx,eq_of_beq e⟩)
structure GoodW (P:Nat) (w:Switch):Prop where
 up:Up (w.held.map (·.v))
 v:∀ h ∈ w.held,h.v ≤ P
 rows:∀ h ∈ w.held,Up (h.rows.map (·.1)) ∧ ∀ x ∈ h.rows,x.1 < 64
structure Mp (P:Nat) (k:Known):Prop where
 hup:Up k.haves
 hv:∀ v ∈ k.haves,v ≤ P
 gup:Up k.gones
 gv:∀ v ∈ k.gones,v ≤ P
noncomputable def mx:Msg → Nat
 | .row x _ _ _ _ _=>x
 | .flip x _ _=>x
 | .drop x _ _=>x
 | .hello x _=>x
 | .have_ x _ _=>x
 | .flipped x _ _=>x
 | .gone x _ _=>x
noncomputable def mv:Msg → Nat
 | .row _ _ v _ _ _=>v
 | .flip _ _ v=>v
 | .drop _ _ v=>v
 | .hello _ _=>0
 | .have_ _ _ v=>v
 | .flipped _ _ v=>v
 | .gone _ _ v=>v
noncomputable def mi:Msg → Nat
 | .row _ _ _ i _ _=>i
 | _=>0
structure lj (n P:Nat) (m:Msg):Prop where
 x:mx m < n
 v:mv m ≤ P
 i:mi m < 64
structure akU (n:Nat) (p:Packet):Prop where
 done:p.done < p.route.length
 len:p.route.length ≤ 8
 sw:∀ x ∈ p.route,x < n
structure Good (c:Nat) (S:State):Prop where
 n:S.known.length = S.switches.length
 n1:1 ≤ S.switches.length
 n16:S.switches.length ≤ 16
 cap:S.cap ≤ 4096
 room:S.room ≤ 256
 Ho:S.policies.length ≤ c
 pol:∀ l ∈ S.policies,l.length ≤ 16
 pend:S.policies.length = if S.pending = true then S.inForce + 1 else S.inForce
 acs:S.retired.length ≤ S.inForce
 ret:∀ r ∈ S.retired,r.1 ≤ S.policies.length
 sw:∀ w ∈ S.switches,GoodW S.policies.length w
 kn:∀ k ∈ S.known,Mp S.policies.length k
 Y4:S.bag.length ≤ S.cap
 bag:∀ m ∈ S.bag,lj S.switches.length S.policies.length m
 pkl:S.packets.length ≤ S.room
 pk:∀ p ∈ S.packets,akU S.switches.length p
 cnt:S.counts.length = 6
 on:S.on = true
theorem Yi {α:Type} {f:α → α} {x:α}:∀ {l:List α} {i:Nat},x ∈ changeAt l i f → x ∈ l ∨ ∃ y ∈ l,x = f y
 | [],_,h=>by simp [changeAt] at h
 | y :: l,0,h=>by
  rcases List.mem_cons.mp h with e | h
  ·exact .inr ⟨y,List.mem_cons_self ..,e⟩
  ·exact .inl (List.mem_cons_of_mem _ h)
 | y :: l,i + 1,h=>by
  rcases List.mem_cons.mp h with e | h
  ·exact .inl (by rw [e]; exact List.mem_cons_self ..)
  ·rcases Yi h with h | ⟨z,hz,e⟩
   ·exact .inl (List.mem_cons_of_mem _ h)
   ·exact .inr ⟨z,List.mem_cons_of_mem _ hz,e⟩
theorem rW {α:Type} (f:α → α):∀ (l:List α) (i:Nat),(changeAt l i f).length = l.length
 | [],_=>rfl
 | _ :: _,0=>rfl
 | _ :: l,i + 1=>by
  show (changeAt l i f).length + 1 = l.length + 1
  rw [rW f l i]
section
variable {c:Nat} {S:State}
theorem Good.send (G:Good c S) {m:Msg} (h:lj S.switches.length S.policies.length m):Good c (send S m):=by
 unfold Vbcnao.send
 split
 ·rename_i lt
  refine { G with Y4:=?_,bag:=fun x hx=>?_ }
  ·show (S.bag ++ [m]).length ≤ S.cap
   rw [List.length_append]
   exact lt
  ·rcases List.mem_append.mp hx with hx | hx
   ·exact G.bag x hx
   ·rw [List.mem_singleton.mp hx]
    exact h
 ·exact { G with }
theorem alg (S:State) (m:Msg):(send S m).switches = S.switches ∧ (send S m).policies = S.policies ∧ (send S m).known = S.known ∧ (send S m).cap = S.cap ∧ (send S m).inForce = S.inForce ∧ (send S m).pending = S.pending ∧ (send S m).retired = S.retired ∧ (send S m).now = S.now ∧ (send S m).life = S.life:=by
 unfold Vbcnao.send
 split <;> exact ⟨rfl,rfl,rfl,rfl,rfl,rfl,rfl,rfl,rfl⟩
theorem Good.sends {l:List Msg}:∀ {S:State},Good c S → (∀ m ∈ l,lj S.switches.length S.policies.length m) → Good c (sends S l):=by
 induction l with
 | nil=>exact fun G _=>G
 | cons m l ih =>
  intro S G h
  have e:=alg S m
  exact ih (S:=Vbcnao.send S m) (G.send (h m (List.mem_cons_self ..))) fun x hx=>by rw [e.1,e.2.1]; exact h x (List.mem_cons_of_mem _ hx)
theorem Good.agZ (G:Good c S) {x:Nat} {f:Switch → Switch} (h:∀ w ∈ S.switches,GoodW S.policies.length w → GoodW S.policies.length (f w)):Good c (onSwitch S x f):=by
 have e:(changeAt S.switches x f).length = S.switches.length:=rW f _ _
 refine { G with n:=?_,n1:=?_,n16:=?_,sw:=fun w hw=>?_,bag:=?_,pk:=?_ }
 ·show S.known.length = (changeAt S.switches x f).length
  rw [e]
  exact G.n
 ·show 1 ≤ (changeAt S.switches x f).length
  rw [e]
  exact G.n1
 ·show (changeAt S.switches x f).length ≤ 16
  rw [e]
  exact G.n16
 ·rcases Yi hw with hw | ⟨y,hy,rfl⟩
  ·exact G.sw w hw
  ·exact h y hy (G.sw y hy)
 ·show ∀ m ∈ S.bag,lj (changeAt S.switches x f).length S.policies.length m
  rw [e]
  exact G.bag
 ·show ∀ p ∈ S.packets,akU (changeAt S.switches x f).length p
  rw [e]
  exact G.pk
theorem Good.ag0 (G:Good c S) {x:Nat} {f:Known → Known} (h:∀ k ∈ S.known,Mp S.policies.length k → Mp S.policies.length (f k)):Good c (onKnown S x f):=by
 refine { G with n:=?_,kn:=fun k hk=>?_ }
 ·show (changeAt S.known x f).length = S.switches.length
  rw [rW]
  exact G.n
 ·rcases Yi hk with hk | ⟨y,hy,rfl⟩
  ·exact G.kn k hk
  ·exact h y hy (G.kn y hy)
theorem Good.settles (G:Good c S):Good c (settles S):=by
 unfold Vbcnao.settles
 have key:∀ T:State,Good c T → Good c { T with retired:=T.retired.filter fun r=>!T.known.all fun k=>k.gones.contains r.1 }:=fun T G =>
  { G with acs:=Nat.le_trans (List.length_filter_le ..) G.acs,ret:=fun r hr=>G.ret r (List.mem_filter.mp hr).1 }
 refine key _ ?_
 split
 ·rename_i hc
  have hp:S.pending = true:=(Bool.and_eq_true_iff.mp hc).1
  have e:=G.pend
  rw [if_pos hp] at e
  refine { G with pend:=?_,acs:=?_,ret:=fun r hr=>?_ }
  ·show S.policies.length = if false = true then _ else S.inForce + 1
   rw [if_neg (by simp)]
   exact e
  ·show (if S.inForce = 0 then S.retired else S.retired ++ [(S.inForce,S.now + S.life)]).length ≤ S.inForce + 1
   have:=G.acs
   split
   ·omega
   ·rw [List.length_append]
    exact Nat.succ_le_succ this
  ·have gU:r ∈ (if S.inForce = 0 then S.retired else S.retired ++ [(S.inForce,S.now + S.life)]):=hr
   split at gU
   ·exact G.ret r gU
   ·rcases List.mem_append.mp gU with h | h
    ·exact G.ret r h
    ·rw [List.mem_singleton.mp h]
     show S.inForce ≤ S.policies.length
     omega
 ·exact G
theorem iD {x:Nat} (h:x < S.switches.length):switchAt S x ∈ S.switches:=by
 unfold switchAt
 rw [List.getD_eq_getElem?_getD,List.getElem?_eq_getElem h]
 exact List.getElem_mem h
noncomputable def fJ (w:Switch) (v i t:Nat) (r:Option Rule):Held:=match r with
 | some r=>{ (heldOf w v).getD ⟨v,t,[]⟩ with rows:=putRow i r ((heldOf w v).getD ⟨v,t,[]⟩).rows }
 | none=>(heldOf w v).getD ⟨v,t,[]⟩
theorem Lq (S:State) (x b v i t:Nat) (r:Option Rule):onRow S x b v i t r =
  if (switchAt S x).boot ≠ b ∨ v ≤ (switchAt S x).floor then S
  else if whole (fJ (switchAt S x) v i t r) = true then Vbcnao.send (onSwitch S x fun w=>{ w with held:=putHeld (fJ (switchAt S x) v i t r) w.held }) (.have_ x b v)
  else onSwitch S x fun w=>{ w with held:=putHeld (fJ (switchAt S x) v i t r) w.held }:=by
 cases r <;> rfl
theorem agT {P:Nat} {w:Switch} (g:GoodW P w) {v i t:Nat} (hi:i < 64) (r:Option Rule):(fJ w v i t r).v = v ∧ Up ((fJ w v i t r).rows.map (·.1)) ∧ ∀ y ∈ (fJ w v i t r).rows,y.1 < 64:=by
 have h0:((heldOf w v).getD ⟨v,t,[]⟩).v = v ∧ Up (((heldOf w v).getD ⟨v,t,[]⟩).rows.map (·.1)) ∧ ∀ y ∈ ((heldOf w v).getD ⟨v,t,[]⟩).rows,y.1 < 64:=by
  cases e:heldOf w v with
  | none=>exact ⟨rfl,by simp [Up],by simp⟩
  | some h =>
   have:=mq e
   exact ⟨this.1,g.rows h this.2⟩
 cases r with
 | none=>exact h0
 | some r =>
  refine ⟨h0.1,?_,fun y hy=>?_⟩
  ·show Up ((putRow i r _).map (·.1))
   rw [Ss]
   exact vB _ h0.2.1
  ·rcases Vy hy with e | hy
   ·rw [e]
    exact hi
   ·exact h0.2.2 y hy
theorem Good.onRow (G:Good c S) {x b v i t:Nat} {r:Option Rule} (hm:lj S.switches.length S.policies.length (.row x b v i t r)):Good c (onRow S x b v i t r):=by
 rw [Lq]
 split
 ·exact G
 ·have hh:=agT (t:=t) (v:=v) (i:=i) (G.sw (switchAt S x) (iD hm.x)) hm.i r
  generalize fJ (switchAt S x) v i t r = h at hh
  have G1:=G.agZ (x:=x) (f:=fun w=>{ w with held:=putHeld h w.held }) fun w _ g=>by
   refine ⟨?_,fun h' Wi=>?_,fun h' Wi=>?_⟩
   ·show Up ((putHeld _ w.held).map (·.v))
    rw [qH]
    exact vB _ g.up
   ·rcases Hl Wi with e | Wi
    ·rw [e,hh.1]
     exact hm.v
    ·exact g.v h' Wi
   ·rcases Hl Wi with e | Wi
    ·rw [e]
     exact hh.2
    ·exact g.rows h' Wi
  have e:(onSwitch S x fun w=>{ w with held:=putHeld h w.held }).switches.length = S.switches.length:=rW _ _ _
  split
  ·exact G1.send ⟨by rw [e]; exact hm.x,hm.v,by show 0 < 64; omega⟩
  ·exact G1
theorem Good.onFlip (G:Good c S) {x b v:Nat} (hm:lj S.switches.length S.policies.length (.flip x b v)):Good c (onFlip S x b v):=by
 unfold Vbcnao.onFlip
 dsimp only
 split
 ·exact G
 ·split
  ·exact G.send ⟨hm.x,hm.v,by show 0 < 64; omega⟩
  ·split
   ·have G1:=G.agZ (x:=x) (f:=fun w=>{ w with current:=v }) fun w _ g=>⟨g.up,g.v,g.rows⟩
    exact G1.send ⟨by show x < (changeAt S.switches x _).length; rw [rW]; exact hm.x,hm.v,by show 0 < 64; omega⟩
   ·exact G
theorem Good.onDrop (G:Good c S) {x b v:Nat} (hm:lj S.switches.length S.policies.length (.drop x b v)):Good c (onDrop S x b v):=by
 unfold Vbcnao.onDrop
 dsimp only
 split
 ·exact G
 ·have G1:=G.agZ (x:=x) (f:=fun w=>{ w with floor:=max w.floor v,held:=w.held.filter fun h=>decide (v < h.v) }) fun w _ g =>
   ⟨List.Pairwise.sublist (List.filter_sublist.map _) g.up,fun h hh=>g.v h (List.mem_filter.mp hh).1,fun h hh=>g.rows h (List.mem_filter.mp hh).1⟩
  exact G1.send ⟨by show x < (changeAt S.switches x _).length; rw [rW]; exact hm.x,hm.v,by show 0 < 64; omega⟩
theorem Good.takes (G:Good c S) {m:Msg} (hm:lj S.switches.length S.policies.length m):Good c (takes S m):=by
 cases m with
 | row x b v i t r=>exact G.onRow hm
 | flip x b v=>exact G.onFlip hm
 | drop x b v=>exact G.onDrop hm
 | hello x b =>
  show Good c (onHello S x b)
  unfold Vbcnao.onHello
  split
  ·exact G.ag0 fun k _ _=>⟨by simp [Up],by simp,by simp [Up],by simp⟩
  ·exact G
 | have_ x b v =>
  show Good c (if _ then _ else _)
  split
  ·refine Good.settles (G.ag0 fun k _ g=>⟨vB _ g.hup,fun y hy=>?_,g.gup,g.gv⟩)
   rcases (Dq v k.haves y).mp hy with e | hy
   ·rw [e]
    exact hm.v
   ·exact g.hv y hy
  ·exact G
 | flipped x b v =>
  show Good c (if _ then _ else _)
  split
  ·exact Good.settles (G.ag0 fun k _ g=>⟨g.hup,g.hv,g.gup,g.gv⟩)
  ·exact G
 | gone x b v =>
  show Good c (if _ then _ else _)
  split
  ·refine Good.settles (G.ag0 fun k _ g=>⟨g.hup,g.hv,vB _ g.gup,fun y hy=>?_⟩)
   rcases (Dq v k.gones y).mp hy with e | hy
   ·rw [e]
    exact hm.v
   ·exact g.gv y hy
  ·exact G
end
end Pt
namespace Pt
open Vbcnao
section
variable {c:Nat} {S:State}
theorem GoodW.mono {P P':Nat} (h:P ≤ P') {w:Switch} (g:GoodW P w):GoodW P' w:=⟨g.up,fun x hx=>Nat.le_trans (g.v x hx) h,g.rows⟩
theorem Mp.mono {P P':Nat} (h:P ≤ P') {k:Known} (g:Mp P k):Mp P' k:=⟨g.hup,fun x hx=>Nat.le_trans (g.hv x hx) h,g.gup,fun x hx=>Nat.le_trans (g.gv x hx) h⟩
theorem lj.mono {n P P':Nat} (h:P ≤ P') {m:Msg} (g:lj n P m):lj n P' m:=⟨g.x,Nat.le_trans g.v h,g.i⟩
theorem Good.mono (G:Good c S):Good (c + 1) S:={ G with Ho:=Nat.le_succ_of_le G.Ho }
theorem Ak:∀ (l:List Int) (r:List Rule),rulesOf S l = some r → r.length * 4 = l.length
 | [],r,h=>by
  cases h
  rfl
 | x :: lo :: hi :: b :: l,r,h=>by
  unfold rulesOf at h
  split at h
  ·cases h
  ·cases e:rulesOf S l with
   | none =>
    rw [e] at h
    cases h
   | some r' =>
    rw [e] at h
    cases h
    have:=Ak l r' e
    simp only [List.length_cons]
    omega
 | [_],r,h=>by simp [rulesOf] at h
 | [_,_],r,h=>by simp [rulesOf] at h
 | [_,_,_],r,h=>by simp [rulesOf] at h
theorem Good.publish (G:Good c S) {r:List Rule} (hr:r.length ≤ 16) (hp:S.pending = false):Good (c + 1) { S with policies:=S.policies ++ [r],pending:=true }:=by
 have e:(S.policies ++ [r]).length = S.policies.length + 1:=by rw [List.length_append]; rfl
 have hP:=G.pend
 rw [if_neg (by rw [hp]; simp)] at hP
 refine { G with Ho:=?_,pol:=fun l hl=>?_,pend:=?_,ret:=fun x hx=>?_,sw:=fun w hw=>?_,kn:=fun k hk=>?_,bag:=fun m hm=>?_ }
 ·show (S.policies ++ [r]).length ≤ c + 1
  rw [e]
  exact Nat.succ_le_succ G.Ho
 ·rcases List.mem_append.mp hl with h | h
  ·exact G.pol l h
  ·rw [List.mem_singleton.mp h]
   exact hr
 ·show (S.policies ++ [r]).length = if true = true then S.inForce + 1 else S.inForce
  rw [e,if_pos rfl,hP]
 ·show x.1 ≤ (S.policies ++ [r]).length
  rw [e]
  exact Nat.le_succ_of_le (G.ret x hx)
 ·show GoodW (S.policies ++ [r]).length w
  rw [e]
  exact (G.sw w hw).mono (Nat.le_succ _)
 ·show Mp (S.policies ++ [r]).length k
  rw [e]
  exact (G.kn k hk).mono (Nat.le_succ _)
 ·show lj S.switches.length (S.policies ++ [r]).length m
  rw [e]
  exact (G.bag m hm).mono (Nat.le_succ _)
theorem Sy:∀ (l:List Rule) (n:Nat) (p:Nat × Rule),p ∈ numbered n l → p.1 < n + l.length
 | [],_,_,h=>by simp [numbered] at h
 | r :: l,n,p,h=>by
  rcases List.mem_cons.mp h with e | h
  ·rw [e]
   simp only [List.length_cons]
   omega
  ·have:=Sy l (n + 1) p h
   simp only [List.length_cons]
   omega
theorem Good.agW (G:Good c S) (v:Nat):(policy S v).length ≤ 16:=by
 unfold Vbcnao.policy
 split
 ·simp
 ·rw [List.getD_eq_getElem?_getD]
  cases e:S.policies[v - 1]? with
  | none=>simp
  | some l=>exact G.pol l (List.mem_of_getElem? e)
theorem Good.inF (G:Good c S):S.inForce ≤ S.policies.length ∧ newest S = S.policies.length:=by
 have:=G.pend
 unfold newest
 split at this <;> rename_i h
 ·rw [if_pos h]
  omega
 ·rw [if_neg h]
  omega
theorem Good.ah3 (G:Good c S):target S ≤ S.policies.length:=by
 have h:=G.pend
 have h2:=G.inF
 unfold target
 split
 ·rename_i e
  rw [if_pos e.1] at h
  omega
 ·exact h2.1
theorem Good.rowsTo (G:Good c S) {x b v:Nat} (hx:x < S.switches.length) (hv:v ≤ S.policies.length):∀ m ∈ rowsTo S x b v,lj S.switches.length S.policies.length m:=by
 intro m hm
 unfold Vbcnao.rowsTo at hm
 dsimp only at hm
 split at hm
 ·rw [List.mem_singleton.mp hm]
  exact ⟨hx,hv,by show 0 < 64; omega⟩
 ·obtain ⟨p,hp,rfl⟩:=List.mem_map.mp hm
  have h1:=Sy _ _ _ hp
  have h2:=G.agW v
  exact ⟨hx,hv,by show p.1 < 64; omega⟩
theorem LD {l:List Nat} {p:Nat → Bool} {v:Nat} (h:v ∈ (l.filter p).eraseDups):v ∈ l:=(List.mem_filter.mp (List.mem_eraseDups.mp h)).1
theorem Good.workTo (G:Good c S) {x:Nat} (hx:x < S.switches.length):∀ m ∈ workTo S x,lj S.switches.length S.policies.length m:=by
 intro m hm
 unfold Vbcnao.workTo at hm
 dsimp only at hm
 have hF:=G.inF
 rcases List.mem_append.mp hm with h | h
 ·rcases List.mem_append.mp h with h | h
  ·obtain ⟨v,hv,hm⟩:=List.mem_flatMap.mp h
   have hv2:=LD hv
   refine G.rowsTo hx ?_ m hm
   simp at hv2
   rcases hv2 with e | e
   ·omega
   ·omega
  ·split at h
   ·rw [List.mem_singleton.mp h]
    exact ⟨hx,G.ah3,by show 0 < 64; omega⟩
   ·simp at h
 ·obtain ⟨r,hr,rfl⟩:=List.mem_map.mp h
  exact ⟨hx,G.ret r (List.mem_filter.mp hr).1,by show 0 < 64; omega⟩
theorem Good.works (G:Good c S):Good c (works S):=by
 unfold Vbcnao.works
 refine G.sends fun m hm=>?_
 obtain ⟨x,hx,hm⟩:=List.mem_flatMap.mp hm
 exact G.workTo (List.mem_range.mp hx) m hm
theorem Good.GN (G:Good c S) {l:List Msg} (hl:l.length ≤ S.bag.length) (h:∀ m ∈ l,m ∈ S.bag):Good c { S with bag:=l } :=
 { G with Y4:=Nat.le_trans hl G.Y4,bag:=fun m hm=>G.bag m (h m hm) }
theorem Good.deliver (G:Good c S) {m:Msg} {l:List Msg} (hm:m ∈ S.bag) (hl:l.length ≤ S.bag.length) (h:∀ m ∈ l,m ∈ S.bag):Good c (Vbcnao.takes { S with bag:=l } m) :=
 (G.GN hl h).takes (G.bag m hm)
theorem Good.flows:∀ (k:Nat) {S:State},Good c S → Good c (flows S k).1
 | 0,S,G=>G
 | k + 1,S,G=>by
  unfold Vbcnao.flows
  split
  ·exact G
  ·rename_i m l e
   exact Good.flows k (G.deliver (m:=m) (l:=l) (by rw [e]; exact List.mem_cons_self ..) (by rw [e]; exact Nat.le_succ _) fun x hx=>by rw [e]; exact List.mem_cons_of_mem _ hx)
theorem Good.counted (G:Good c S) (i:Nat):Good c (counted S i):={ G with cnt:=by show (changeAt S.counts i _).length = 6; rw [rW]; exact G.cnt }
theorem Good.erase (G:Good c S) (k:Nat):Good c { S with packets:=S.packets.eraseIdx k } :=
 { G with pkl:=Nat.le_trans (List.length_eraseIdx_le ..) G.pkl,pk:=fun p hp=>G.pk p (List.mem_of_mem_eraseIdx hp) }
theorem Good.enters (G:Good c S) {key:Nat} {x:Nat} {l:List Nat} (hl:(x :: l).length ≤ 8) (hx:∀ y ∈ x :: l,y < S.switches.length) (hr:S.packets.length < S.room):Good c (enters S key (x :: l)).1:=by
 unfold Vbcnao.enters
 dsimp only
 split
 ·exact (G.counted _).counted _
 ·split
  ·exact (G.counted _).counted _
  ·split
   ·exact (G.counted _).counted _
   ·rename_i ne
    have G1:=G.counted 0
    refine { G1 with pkl:=?_,pk:=fun p hp=>?_ }
    ·show (S.packets ++ [_]).length ≤ S.room
     rw [List.length_append]
     exact hr
    ·rcases List.mem_append.mp hp with hp | hp
     ·exact G.pk p hp
     ·rw [List.mem_singleton.mp hp]
      refine ⟨?_,hl,hx⟩
      show 1 < l.length + 1
      have:l.length ≠ 0:=fun e=>ne (List.length_eq_zero_iff.mp e)
      omega
theorem Good.hops (G:Good c S) {k:Nat} {p:Packet} (hp:S.packets[k]? = some p):Good c (hops S k p).1:=by
 unfold Vbcnao.hops
 dsimp only
 split
 ·exact (G.erase k).counted _
 ·split
  ·exact (G.erase k).counted _
  ·rename_i lt
   refine { G with pkl:=?_,pk:=fun q hq=>?_ }
   ·show (changeAt S.packets k _).length ≤ S.room
    rw [rW]
    exact G.pkl
   ·have hk:∃ j,(changeAt S.packets k fun q=>{ q with done:=q.done + 1 })[j]? = some q:=let ⟨j,_,e⟩:=List.getElem_of_mem hq; ⟨j,List.getElem?_eq_some_iff.mpr ⟨_,e⟩⟩
    obtain ⟨j,hj⟩:=hk
    have get:∀ (l:List Packet) (i j:Nat) (f:Packet → Packet),(changeAt l i f)[j]? = if j = i then l[j]?.map f else l[j]?:=by
     intro l
     induction l with
     | nil=>intro i j f; simp [changeAt]
     | cons y l ih =>
      intro i j f
      cases i with
      | zero =>
       cases j with
       | zero=>rfl
       | succ j=>rfl
      | succ i =>
       cases j with
       | zero=>rfl
       | succ j =>
        show (changeAt l i f)[j]? = _
        rw [ih i j f]
        by_cases e:j = i
        ·rw [if_pos e,if_pos (by omega)]
         rfl
        ·rw [if_neg e,if_neg (by omega)]
         rfl
    rw [get] at hj
    by_cases e:j = k
    ·rw [if_pos e,e,hp] at hj
     cases hj
     have g:=G.pk p (List.mem_of_getElem? hp)
     exact ⟨by show p.done + 1 < p.route.length; omega,g.len,g.sw⟩
    ·rw [if_neg e] at hj
     exact G.pk q (List.mem_of_getElem? hj)
theorem Good.crash (G:Good c S):Good c { S with known:=S.known.map fun k=>⟨k.boot,[],0,[]⟩ }:=by
 refine { G with n:=?_,kn:=fun k hk=>?_ }
 ·show (S.known.map _).length = _
  rw [List.length_map]
  exact G.n
 ·obtain ⟨k',_,rfl⟩:=List.mem_map.mp hk
  exact ⟨by simp [Up],by simp,by simp [Up],by simp⟩
theorem Good.restart (G:Good c S) {x b:Nat} (hx:x < S.switches.length):Good c (Vbcnao.send (onSwitch { S with book:=b } x fun _=>⟨b,0,0,[]⟩) (.hello x b)):=by
 have G0:Good c { S with book:=b }:={ G with }
 have G1:=G0.agZ (x:=x) (f:=fun _=>⟨b,0,0,[]⟩) fun w _ _=>⟨by simp [Up],by simp,by simp⟩
 exact G1.send ⟨by show x < (changeAt S.switches x _).length; rw [rW]; exact hx,Nat.zero_le _,by show 0 < 64; omega⟩
theorem ahz {n cap life room:Int} (h:(within n 1 16 && (within cap 1 4096 && (within life 1 1000000 && within room 1 256))) = true) :
  Good 0 (step S (.begin_ n cap life room)).1:=by
 unfold Vbcnao.step
 dsimp only
 rw [if_neg (by rw [h]; simp)]
 simp only [within,Bool.and_eq_true,decide_eq_true_eq] at h
 obtain ⟨⟨h1,h2⟩,⟨h3,h4⟩,_,h5,h6⟩:=h
 constructor
 ·simp
 ·simp; omega
 ·simp; omega
 ·show cap.toNat ≤ 4096; omega
 ·show room.toNat ≤ 256; omega
 ·simp
 ·simp
 ·rfl
 ·simp
 ·simp
 ·intro w hw
  obtain ⟨i,_,rfl⟩:=List.mem_map.mp hw
  exact ⟨by simp [Up],by simp,by simp⟩
 ·intro k hk
  obtain ⟨i,_,rfl⟩:=List.mem_map.mp hk
  exact ⟨by simp [Up],by simp,by simp [Up],by simp⟩
 ·simp
 ·simp
 ·simp
 ·simp
 ·rfl
 ·rfl
theorem B7 {x:Int} (h:¬ isSwitch S x = false):x.toNat < S.switches.length ∧ (x.toNat:Int) = x:=by
 have h':isSwitch S x = true:=by
  cases e:isSwitch S x with
  | false=>exact absurd e h
  | true=>rfl
 unfold isSwitch within size at h'
 rw [Bool.and_eq_true,decide_eq_true_eq,decide_eq_true_eq] at h'
 omega
theorem Good.doing (G:Good c S) (q:Call):Good (c + 1) (doing S q).1:=by
 cases q with
 | begin_ n cap life room=>exact G.mono
 | publish l =>
  dsimp only [Vbcnao.doing]
  split
  ·exact G.mono
  ·rename_i r e
   split
   ·exact G.mono
   ·rename_i hp
    refine G.publish ?_ (by simpa using hp)
    split at e
    ·have:=Ak l r e
     omega
    ·cases e
 | work=>exact G.works.mono
 | tick n =>
  dsimp only [Vbcnao.doing]
  split
  ·exact G.mono
  ·split
   ·exact G.mono
   ·exact Good.mono { G with }
 | deliver k =>
  dsimp only [Vbcnao.doing]
  split
  ·exact G.mono
  ·rename_i m e
   split at e
   ·exact (G.deliver (List.mem_of_getElem? e) (List.length_eraseIdx_le ..) fun x hx=>List.mem_of_mem_eraseIdx hx).mono
   ·cases e
 | lose k =>
  dsimp only [Vbcnao.doing]
  split
  ·exact G.mono
  ·exact (G.GN (List.length_eraseIdx_le ..) fun x hx=>List.mem_of_mem_eraseIdx hx).mono
 | double k =>
  dsimp only [Vbcnao.doing]
  split
  ·exact G.mono
  ·rename_i m e
   split
   ·exact G.mono
   ·rename_i lt
    split at e
    ·refine Good.mono { G with Y4:=?_,bag:=fun x hx=>?_ }
     ·show (S.bag ++ [m]).length ≤ S.cap
      rw [List.length_append]
      show S.bag.length + 1 ≤ S.cap
      omega
     ·rcases List.mem_append.mp hx with hx | hx
      ·exact G.bag x hx
      ·rw [List.mem_singleton.mp hx]
       exact G.bag m (List.mem_of_getElem? e)
    ·cases e
 | flow m =>
  dsimp only [Vbcnao.doing]
  split
  ·exact G.mono
  ·exact (Good.flows _ G).mono
 | restart x =>
  dsimp only [Vbcnao.doing]
  split
  ·exact G.mono
  ·rename_i h
   exact (G.restart (B7 h).1).mono
 | hello x =>
  dsimp only [Vbcnao.doing]
  split
  ·exact G.mono
  ·rename_i h
   exact (G.send (m:=.hello x.toNat (switchAt S x.toNat).boot) ⟨(B7 h).1,Nat.zero_le _,by show 0 < 64; omega⟩).mono
 | crash=>exact G.crash.mono
 | enter key l =>
  dsimp only [Vbcnao.doing]
  split
  ·exact G.mono
  ·rename_i h
   split
   ·exact G.mono
   ·rename_i hr
    have h:(within key 0 65535 && (decide (1 ≤ l.length) && (decide (l.length ≤ 8) && l.all fun x=>isSwitch S x))) = true:=by
     cases e:(within key 0 65535 && (decide (1 ≤ l.length) && (decide (l.length ≤ 8) && l.all fun x=>isSwitch S x))) with
     | false=>exact absurd e h
     | true=>rfl
    simp only [Bool.and_eq_true,decide_eq_true_eq,List.all_eq_true] at h
    obtain ⟨_,h1,h2,h3⟩:=h
    cases l with
    | nil=>simp at h1
    | cons x l =>
     refine (G.enters (x:=x.toNat) (l:=l.map Int.toNat) ?_ (fun y hy=>?_) (by omega)).mono
     ·simp only [List.length_cons,List.length_map] at h2 ⊢
      exact h2
     ·have hy:y ∈ (x :: l).map Int.toNat:=hy
      obtain ⟨z,hz,rfl⟩:=List.mem_map.mp hy
      exact (B7 (by rw [h3 z hz]; simp)).1
 | hop k =>
  dsimp only [Vbcnao.doing]
  split
  ·exact G.mono
  ·rename_i p e
   split at e
   ·exact (G.hops e).mono
   ·cases e
 | policy v x key =>
  dsimp only [Vbcnao.doing]
  split <;> exact G.mono
 | switch x =>
  dsimp only [Vbcnao.doing]
  split <;> exact G.mono
 | knows x =>
  dsimp only [Vbcnao.doing]
  split <;> exact G.mono
 | controller=>exact G.mono
 | bag=>exact G.mono
 | packets=>exact G.mono
 | counts=>exact G.mono
theorem oJ {α:Type} {f:α → List Int} {n:Nat}:∀ {l:List α},(∀ x ∈ l,(f x).length ≤ n) → (l.flatMap f).length ≤ n * l.length
 | [],_=>by simp
 | x :: l,h=>by
  have h1:=h x (List.mem_cons_self ..)
  have h2:=oJ (l:=l) fun y hy=>h y (List.mem_cons_of_mem _ hy)
  rw [List.flatMap_cons,List.length_append,List.length_cons,Nat.mul_add]
  omega
theorem Yh (m:Msg):(msgShown m).length ≤ 10:=by
 cases m with
 | row x b v i t r=>cases r <;> simp [msgShown,ruleShown]
 | _=>simp [msgShown,«ints»]
theorem Good.Ur (G:Good c S) {w:Switch} (hw:w ∈ S.switches):w.held.length ≤ c + 1:=by
 have g:=G.sw w hw
 have:=IP (n:=S.policies.length + 1) (b:=0) g.up fun x hx=>by
  obtain ⟨h,hh,rfl⟩:=List.mem_map.mp hx
  have:=g.v h hh
  omega
 rw [List.length_map] at this
 have:=G.Ho
 omega
theorem Good.PV (G:Good c S) {k:Known} (hk:k ∈ S.known):k.haves.length ≤ c + 1 ∧ k.gones.length ≤ c + 1:=by
 have g:=G.kn k hk
 have h1:=IP (n:=S.policies.length + 1) (b:=0) g.hup fun x hx=>by have:=g.hv x hx; omega
 have h2:=IP (n:=S.policies.length + 1) (b:=0) g.gup fun x hx=>by have:=g.gv x hx; omega
 have:=G.Ho
 omega
theorem Good.ajz (G:Good c S) {w:Switch} (hw:w ∈ S.switches) {h:Held} (hh:h ∈ w.held):h.rows.length ≤ 64:=by
 have g:=(G.sw w hw).rows h hh
 have:=IP (n:=64) (b:=0) g.1 fun x hx=>by
  obtain ⟨y,hy,rfl⟩:=List.mem_map.mp hx
  have:=g.2 y hy
  omega
 rwa [List.length_map] at this
theorem Good.XE (G:Good c S):S.retired.length ≤ c:=by
 have:=G.acs
 have:=G.inF
 have:=G.Ho
 omega
theorem tR {x:Nat} (h:x < S.known.length):knownAt S x ∈ S.known:=by
 unfold knownAt
 rw [List.getD_eq_getElem?_getD,List.getElem?_eq_getElem h]
 exact List.getElem_mem h
theorem Good.long (G:Good c S) (hc:c ≤ 400) (q:Call):(Vbcnao.doing S q).2.length ≤ 40962:=by
 cases q with
 | begin_ n cap life room=>simp [Vbcnao.doing]
 | publish l =>
  dsimp only [Vbcnao.doing]
  split
  ·simp
  ·split <;> simp
 | work=>simp [Vbcnao.doing]
 | tick n =>
  dsimp only [Vbcnao.doing]
  split
  ·simp
  ·split <;> simp
 | deliver k =>
  dsimp only [Vbcnao.doing]
  split <;> simp
 | lose k =>
  dsimp only [Vbcnao.doing]
  split <;> simp
 | double k =>
  dsimp only [Vbcnao.doing]
  split
  ·simp
  ·split <;> simp
 | flow m =>
  dsimp only [Vbcnao.doing]
  split <;> simp
 | restart x =>
  dsimp only [Vbcnao.doing]
  split <;> simp
 | hello x =>
  dsimp only [Vbcnao.doing]
  split <;> simp
 | crash=>simp [Vbcnao.doing]
 | enter key l =>
  dsimp only [Vbcnao.doing]
  split
  ·simp
  ·split <;> simp
 | hop k =>
  dsimp only [Vbcnao.doing]
  split <;> simp
 | policy v x key =>
  dsimp only [Vbcnao.doing]
  split <;> simp
 | switch x =>
  dsimp only [Vbcnao.doing]
  split
  ·simp
  ·rename_i h
   have h1:=G.Ur (iD (B7 h).1)
   have h2:=oJ (f:=fun h:Held=>«ints» [h.v,h.total,h.rows.length]) (n:=3) (l:=(switchAt S x.toNat).held) fun y _=>by simp [«ints»]
   simp only [List.length_append,List.length_cons,List.length_nil]
   omega
 | knows x =>
  dsimp only [Vbcnao.doing]
  split
  ·simp
  ·rename_i h
   have h1:=G.PV (tR (by rw [G.n]; exact (B7 h).1))
   simp only [List.length_append,List.length_cons,List.length_nil,«ints»,List.length_map]
   omega
 | controller =>
  dsimp only [Vbcnao.doing]
  have h1:=G.XE
  have h2:=oJ (f:=fun r:Nat × Nat=>«ints» [r.1,r.2]) (n:=2) (l:=S.retired) fun y _=>by simp [«ints»]
  simp only [List.length_append,List.length_cons,List.length_nil]
  omega
 | bag =>
  dsimp only [Vbcnao.doing]
  have h1:=G.Y4
  have h3:=G.cap
  have h2:=oJ (f:=msgShown) (n:=10) (l:=S.bag) fun y _=>Yh y
  simp only [List.length_append,List.length_cons,List.length_nil]
  omega
 | packets =>
  dsimp only [Vbcnao.doing]
  have h1:=G.pkl
  have h3:=G.room
  have h2:=oJ (f:=fun p:Packet=>«ints» [p.key,p.done,p.stamp,p.born,p.route.length] ++ «ints» p.route) (n:=13) (l:=S.packets) fun y hy=>by
   have:=(G.pk y hy).len
   simp [«ints»]
   omega
  simp only [List.length_append,List.length_cons,List.length_nil]
  omega
 | counts =>
  dsimp only [Vbcnao.doing]
  have h1:=G.cnt
  simp only [List.length_append,List.length_cons,List.length_nil,«ints»,List.length_map]
  omega
end
end Pt
namespace Pt
open PySem PySem.Spec PyProof.Rows L2
noncomputable abbrev SS:=Vbcnao.State
theorem iR {α:Type} (f:α → α):∀ (l:List α) (i:Nat),(Vbcnao.changeAt l i f).length = l.length
 | [],_=>rfl
 | _ :: _,0=>rfl
 | _ :: l,i + 1=>by
  show (Vbcnao.changeAt l i f).length + 1 = l.length + 1
  rw [iR f l i]
theorem YT {α:Type} (f:α → α):∀ (l:List α) (i j:Nat),(Vbcnao.changeAt l i f)[j]? = if j = i then l[j]?.map f else l[j]?
 | [],i,j=>by simp [Vbcnao.changeAt]
 | x :: l,0,0=>rfl
 | x :: l,0,j + 1=>rfl
 | x :: l,i + 1,0=>rfl
 | x :: l,i + 1,j + 1=>by
  show (Vbcnao.changeAt l i f)[j]? = _
  rw [YT f l i j]
  by_cases e:j = i
  ·rw [if_pos e,if_pos (by omega)]
   rfl
  ·rw [if_neg e,if_neg (by omega)]
   rfl
theorem bh {α:Type} {f:α → α} {l:List α} {i:Nat} {x:α} (h:l[i]? = some x):(Vbcnao.changeAt l i f)[i]? = some (f x):=by rw [YT,if_pos rfl,h]; rfl
theorem x9 {α:Type} {f:α → α} {l:List α} {i j:Nat} (h:j ≠ i):(Vbcnao.changeAt l i f)[j]? = l[j]?:=by rw [YT,if_neg h]
theorem agi {α β:Type} (g:α → β) (f:α → α):∀ (l:List α) (i:Nat) (x:α),l[i]? = some x → (Vbcnao.changeAt l i f).map g = (l.map g).set i (g (f x))
 | [],_,_,h=>by simp at h
 | y :: l,0,x,h=>by
  cases h
  rfl
 | y :: l,i + 1,x,h=>by
  show g y :: (Vbcnao.changeAt l i f).map g = g y :: (l.map g).set i (g (f x))
  rw [agi g f l i x h]
theorem YD {α:Type} {l:List α} {i:Nat} {x d:α} (h:l[i]? = some x):l.getD i d = x:=by
 rw [List.getD_eq_getElem?_getD,h]
 rfl
inductive Role where
 | aF | cf | iC | bag | eX | cnt | dg | ret | j7 | eS
 | sw (i:Nat) | pd (i:Nat) | pt (i v:Nat) | cm (i v:Nat) | mm (i:Nat) | hv (i:Nat) | gn (i:Nat) | pu (i:Nat)
 deriving DecidableEq
noncomputable def live (S:SS):Role → Prop
 | .sw i=>i < S.switches.length
 | .pd i=>i < S.switches.length
 | .pt i v=>∃ w h,S.switches[i]? = some w ∧ Vbcnao.heldOf w v = some h
 | .cm i v=>∃ w h,S.switches[i]? = some w ∧ Vbcnao.heldOf w v = some h
 | .mm i=>i < S.known.length
 | .hv i=>i < S.known.length
 | .gn i=>i < S.known.length
 | .pu i=>i < S.policies.length
 | .eX=>False
 | _=>True
noncomputable def nV (n:Nat):V:=.int (n:Int)
noncomputable def abi (r:Vbcnao.Rule):List V:=[.int (Vbcnao.optShown r.at_),nV r.lo,nV r.hi,nV r.pass.toNat]
noncomputable def i7 (H:Hp) (a:Addr) (r:Vbcnao.Rule):Prop:=H a = some (.tup (abi r))
noncomputable def WZ (H:Hp) (v:V):Option Vbcnao.Rule → Prop
 | none=>v = .bL
 | some r=>∃ a,v = .ref a ∧ i7 H a r
noncomputable def WY (H:Hp) (v:V) (_:Nat) (r:Vbcnao.Rule):Prop:=∃ a,v = .ref a ∧ i7 H a r
noncomputable def e7:Vbcnao.Msg → Nat
 | .row ..=>0
 | .flip ..=>1
 | .drop ..=>2
 | .hello ..=>3
 | .have_ ..=>4
 | .flipped ..=>5
 | .gone ..=>6
noncomputable def mX:Vbcnao.Msg → Nat
 | .row x _ _ _ _ _=>x
 | .flip x _ _=>x
 | .drop x _ _=>x
 | .hello x _=>x
 | .have_ x _ _=>x
 | .flipped x _ _=>x
 | .gone x _ _=>x
noncomputable def mB:Vbcnao.Msg → Nat
 | .row _ b _ _ _ _=>b
 | .flip _ b _=>b
 | .drop _ b _=>b
 | .hello _ b=>b
 | .have_ _ b _=>b
 | .flipped _ b _=>b
 | .gone _ b _=>b
noncomputable def mV:Vbcnao.Msg → Nat
 | .row _ _ v _ _ _=>v
 | .flip _ _ v=>v
 | .drop _ _ v=>v
 | .hello _ _=>0
 | .have_ _ _ v=>v
 | .flipped _ _ v=>v
 | .gone _ _ v=>v
noncomputable def mI:Vbcnao.Msg → Nat
 | .row _ _ _ i _ _=>i
 | _=>0
noncomputable def mT:Vbcnao.Msg → Nat
 | .row _ _ _ _ t _=>t
 | _=>0
noncomputable def mR:Vbcnao.Msg → Option Vbcnao.Rule
 | .row _ _ _ _ _ r=>r
 | _=>none
noncomputable def T8 (m:Vbcnao.Msg) (rv:V):List (Str × V):=j9.zip [nV (e7 m),nV (mX m),nV (mB m),nV (mV m),nV (mI m),nV (mT m),rv]
noncomputable def f9 (A:bg) (H:Hp) (a:Addr) (m:Vbcnao.Msg):Prop:=∃ dx rv,H a = some (.ins A.aU dx (T8 m rv)) ∧ WZ H rv (mR m)
noncomputable def dD (ρ:Role → Addr) (S:SS):List (Str × V) :=
 eF.zip [nV S.cap,nV S.life,nV S.room,nV S.book,nV S.now,.ref (ρ .iC),.ref (ρ .cf),.ref (ρ .bag),nV S.lost,.ref (ρ .eX),nV (S.counts.getD 0 0),nV (S.counts.getD 1 0),.ref (ρ .cnt)]
noncomputable def cntK (S:SS):List (Key × V):=[(Sum.inl 1,nV (S.counts.getD 2 0)),(Sum.inl 2,nV (S.counts.getD 3 0)),(Sum.inl 3,nV (S.counts.getD 4 0)),(Sum.inl 4,nV (S.counts.getD 5 0))]
noncomputable def oT (ρ:Role → Addr) (S:SS):List (Str × V):=bI.zip [.ref (ρ .dg),nV S.inForce,.bl S.pending,.ref (ρ .ret),.ref (ρ .j7),.ref (ρ .eS)]
noncomputable def i9 (ρ:Role → Addr) (i:Nat) (w:Vbcnao.Switch):List (Str × V):=jh.zip [nV w.boot,nV w.current,nV w.floor,.ref (ρ (.pd i))]
noncomputable def Al (ρ:Role → Addr) (i v total:Nat):List (Str × V):=qN.zip [nV total,.ref (ρ (.cm i v))]
noncomputable def BH (ρ:Role → Addr) (i:Nat) (k:Vbcnao.Known):List (Str × V):=qP.zip [.ref (ρ (.hv i)),nV k.flipped,.ref (ρ (.gn i))]
noncomputable def yl (H:Hp) (a:Addr) (r:Nat × Nat):Prop:=H a = some (.tup [nV r.1,nV r.2])
noncomputable def refs (ρ:Role → Addr) (f:Nat → Role) (n:Nat):List V:=(List.range n).map fun i=>.ref (ρ (f i))
noncomputable def fj (l:List Nat):List (Nat × Unit):=l.map fun v=>(v,())
noncomputable def KL (u:V) (_:Nat) (_:Unit):Prop:=u = .bl true
noncomputable def IsPart (ρ:Role → Addr) (i:Nat) (u:V) (v:Nat) (_:Unit):Prop:=u = .ref (ρ (.pt i v))
noncomputable def Ob (A:bg) (ρ:Role → Addr) (S:SS) (H:Hp):Role → HO → Prop
 | .aF,o=>∃ dx,o = .ins A.aN dx (dD ρ S)
 | .cf,o=>∃ dx,o = .ins A.aE dx (oT ρ S)
 | .iC,o=>o = .lst (refs ρ .sw S.switches.length)
 | .eS,o=>o = .lst (refs ρ .mm S.known.length)
 | .dg,o=>o = .lst (refs ρ .pu S.policies.length)
 | .j7,o=>o = .lst (S.known.map fun k=>nV k.boot)
 | .cnt,o=>o = .dK (cntK S)
 | .eX,_=>False
 | .bag,o=>∃ as:List Addr,o = .lst (as.map .ref) ∧ Paired (f9 A H) as S.bag
 | .ret,o=>∃ as:List Addr,o = .lst (as.map .ref) ∧ Paired (yl H) as S.retired
 | .pu i,o=>∃ (l:List Vbcnao.Rule) (as:List Addr),S.policies[i]? = some l ∧ o = .lst (as.map .ref) ∧ Paired (i7 H) as l
 | .sw i,o=>∃ w dx,S.switches[i]? = some w ∧ o = .ins A.bK dx (i9 ρ i w)
 | .pd i,o=>∃ w kvs,S.switches[i]? = some w ∧ o = .dK kvs ∧ Dk (IsPart ρ i) kvs (fj (w.held.map (·.v)))
 | .pt i v,o=>∃ w h dx,S.switches[i]? = some w ∧ Vbcnao.heldOf w v = some h ∧ o = .ins A.c5 dx (Al ρ i v h.total)
 | .cm i v,o=>∃ w h kvs,S.switches[i]? = some w ∧ Vbcnao.heldOf w v = some h ∧ o = .dK kvs ∧ Dk (WY H) kvs h.rows
 | .mm i,o=>∃ k dx,S.known[i]? = some k ∧ o = .ins A.bZ dx (BH ρ i k)
 | .hv i,o=>∃ k kvs,S.known[i]? = some k ∧ o = .dK kvs ∧ Dk KL kvs (fj k.haves)
 | .gn i,o=>∃ k kvs,S.known[i]? = some k ∧ o = .dK kvs ∧ Dk KL kvs (fj k.gones)
noncomputable def Imm (A:bg):HO → Prop
 | .tup _=>True
 | .ins C _ _=>C = A.aU
 | _=>False
noncomputable def uw (A:bg) (H H':Hp):Prop:=∀ a o,Imm A o → H a = some o → H' a = some o
noncomputable def oq (A:bg):Prop:=A.aN ≠ A.aU ∧ A.aE ≠ A.aU ∧ A.bK ≠ A.aU ∧ A.c5 ≠ A.aU ∧ A.bZ ≠ A.aU
theorem Txt.gS {K:W.Frag} {mg:Str → Option Value} {A:bg} (T:Txt K mg A):oq A:=by
 have h:=T.wM
 simp only [List.nodup_cons,List.mem_cons,not_or] at h
 unfold oq
 refine ⟨fun e=>?_,fun e=>?_,fun e=>?_,fun e=>?_,fun e=>?_⟩ <;> simp_all
theorem Txt.V2 {K:W.Frag} {mg:Str → Option Value} {A:bg} (T:Txt K mg A):A.bX ≠ A.aU:=by
 have h:=T.wM
 simp only [List.nodup_cons,List.mem_cons,not_or] at h
 intro e
 simp_all
section
variable {A:bg} {ρ ρ':Role → Addr} {S S':SS} {H H':Hp}
theorem i7.mono (h:uw A H H') {a:Addr} {r:Vbcnao.Rule} (x:i7 H a r):i7 H' a r:=h a _ trivial x
theorem WZ.mono (h:uw A H H') {v:V}:∀ {r:Option Vbcnao.Rule},WZ H v r → WZ H' v r
 | none,x=>x
 | some _,⟨a,e,x⟩=>⟨a,e,x.mono h⟩
theorem f9.mono (h:uw A H H') {a:Addr} {m:Vbcnao.Msg} (x:f9 A H a m):f9 A H' a m:=let ⟨dx,rv,e,r⟩:=x; ⟨dx,rv,h a _ rfl e,r.mono h⟩
theorem uw.of_same (h:aH H H'):uw A H H':=fun a o _ e=>h a o e
theorem uw.refl:uw A H H:=fun _ _ _ e=>e
theorem Ob.mono (h:uw A H H') {r:Role} {o:HO} (x:Ob A ρ S H r o):Ob A ρ S H' r o:=by
 cases r with
 | bag=>obtain ⟨as,e,p⟩:=x; exact ⟨as,e,jH p fun _ _ q=>q.mono h⟩
 | ret=>obtain ⟨as,e,p⟩:=x; exact ⟨as,e,jH p fun a _ q=>h a _ trivial q⟩
 | pu i=>obtain ⟨l,as,e1,e,p⟩:=x; exact ⟨l,as,e1,e,jH p fun a _ q=>h a _ trivial q⟩
 | cm i v=>obtain ⟨w,hh,kvs,e1,e2,e3,p⟩:=x; exact ⟨w,hh,kvs,e1,e2,e3,p.imp fun u v b _ ⟨a,q1,q2⟩=>⟨a,q1,q2.mono h⟩⟩
 | _=>exact x
theorem Ob.am0 (ne:oq A) {r:Role} {o:HO} (x:Ob A ρ S H r o):¬ Imm A o:=by
 obtain ⟨n1,n2,n3,n4,n5⟩:=ne
 cases r with
 | aF=>obtain ⟨dx,rfl⟩:=x; exact n1
 | cf=>obtain ⟨dx,rfl⟩:=x; exact n2
 | iC=>cases x; exact id
 | eS=>cases x; exact id
 | dg=>cases x; exact id
 | j7=>cases x; exact id
 | cnt=>cases x; exact id
 | eX=>exact x.elim
 | bag=>obtain ⟨xs,rfl,_⟩:=x; exact id
 | ret=>obtain ⟨xs,rfl,_⟩:=x; exact id
 | pu i=>obtain ⟨l,xs,_,rfl,_⟩:=x; exact id
 | sw i=>obtain ⟨w,dx,_,rfl⟩:=x; exact n3
 | pd i=>obtain ⟨w,dx,_,rfl,_⟩:=x; exact id
 | pt i v=>obtain ⟨w,h,dx,_,_,rfl⟩:=x; exact n4
 | cm i v=>obtain ⟨w,h,dx,_,_,rfl,_⟩:=x; exact id
 | mm i=>obtain ⟨k,dx,_,rfl⟩:=x; exact n5
 | hv i=>obtain ⟨k,dx,_,rfl,_⟩:=x; exact id
 | gn i=>obtain ⟨k,dx,_,rfl,_⟩:=x; exact id
end
structure Wd (A:bg) (ρ:Role → Addr) (S:SS) (H:Hp):Prop where
 inj:∀ r r',live S r → live S r' → ρ r = ρ r' → r = r'
 ob:∀ r,live S r → ∃ o,H (ρ r) = some o ∧ Ob A ρ S H r o
noncomputable def Own (ρ:Role → Addr) (S:SS) (b:Addr):Prop:=∃ r,live S r ∧ ρ r = b
structure dM (A:bg) (ρ:Role → Addr) (S:SS) (H:Hp) (ρ':Role → Addr) (S':SS) (H':Hp):Prop where
 wd:Wd A ρ' S' H'
 keep:∀ b o,H b = some o → ¬ Own ρ S b → H' b = some o
 grow:∀ b,Own ρ' S' b → Own ρ S b ∨ H b = none
 w0:ρ' .aF = ρ .aF
 c0:ρ' .cf = ρ .cf
 p0:ρ' .eX = ρ .eX
section
variable {A:bg} {ρ ρ' ρ'':Role → Addr} {S S' S'':SS} {H H' H'':Hp}
theorem Wd.acH (W:Wd A ρ S H) {b:Addr} (h:Own ρ S b):∃ o,H b = some o:=by
 obtain ⟨r,l,rfl⟩:=h
 obtain ⟨o,e,_⟩:=W.ob r l
 exact ⟨o,e⟩
theorem Wd.afJ (W:Wd A ρ S H) {b:Addr} (h:H b = none):¬ Own ρ S b:=fun q=>by
 obtain ⟨o,e⟩:=W.acH q
 rw [h] at e
 cases e
theorem Wd.vN (ne:oq A) (W:Wd A ρ S H) {b:Addr} {o:HO} (i:Imm A o) (h:H b = some o):¬ Own ρ S b:=by
 rintro ⟨r,l,rfl⟩
 obtain ⟨o',e,x⟩:=W.ob r l
 rw [h] at e
 cases e
 exact x.am0 ne i
theorem dM.refl (W:Wd A ρ S H):dM A ρ S H ρ S H:=⟨W,fun _ _ e _=>e,fun _ h=>.inl h,rfl,rfl,rfl⟩
theorem dM.trans (a:dM A ρ S H ρ' S' H') (b:dM A ρ' S' H' ρ'' S'' H''):dM A ρ S H ρ'' S'' H'' where
 wd:=b.wd
 keep:=fun x o e n=>b.keep x o (a.keep x o e n) fun q=>(a.grow x q).elim n fun z=>by rw [z] at e; cases e
 grow:=fun x q=>by
  rcases b.grow x q with h | h
  ·exact a.grow x h
  ·by_cases n:Own ρ S x
   ·exact .inl n
   ·refine .inr ?_
    cases e:H x with
    | none=>rfl
    | some o =>
     rw [a.keep x o e n] at h
     cases h
 w0:=b.w0.trans a.w0
 c0:=b.c0.trans a.c0
 p0:=b.p0.trans a.p0
theorem dM.SE (ne:oq A) (W:Wd A ρ S H) (a:dM A ρ S H ρ' S' H'):uw A H H':=fun b o i e=>a.keep b o e (W.vN ne i e)
theorem dM.O4 (a:dM A ρ S H ρ' S' H') {b:Addr} {o:HO} (e:H b = some o) (n:¬ Own ρ S b):¬ Own ρ' S' b:=fun q=>(a.grow b q).elim n fun z=>by rw [z] at e; cases e
theorem Wd.same (W:Wd A ρ S H) (h:aH H H'):dM A ρ S H ρ S H' :=
 ⟨⟨W.inj,fun r l=>let ⟨o,e,x⟩:=W.ob r l; ⟨o,h _ _ e,x.mono (.of_same h)⟩⟩,fun b o e _=>h b o e,fun _ q=>.inl q,rfl,rfl,rfl⟩
theorem Wd.Ul (W:Wd A ρ S H)
  (hr:∀ r,live S' r → (live S r ∧ ρ' r = ρ r ∨ H (ρ' r) = none) ∧ ∃ o,H' (ρ' r) = some o ∧ Ob A ρ' S' H' r o)
  (hn:∀ r r',live S' r → live S' r' → H (ρ' r) = none → ρ' r = ρ' r' → r = r')
  (keep:∀ b o,H b = some o → ¬ Own ρ S b → H' b = some o) (w0:ρ' .aF = ρ .aF) (c0:ρ' .cf = ρ .cf) (p0:ρ' .eX = ρ .eX):dM A ρ S H ρ' S' H' where
 wd:=by
  refine ⟨fun r r' l l' e=>?_,fun r l=>(hr r l).2⟩
  rcases (hr r l).1 with ⟨l1,e1⟩ | z
  ·rcases (hr r' l').1 with ⟨l2,e2⟩ | z
   ·exact W.inj r r' l1 l2 (by rw [← e1,← e2]; exact e)
   ·exact (hn r' r l' l z e.symm).symm
  ·exact hn r r' l l' z e
 keep:=keep
 grow:=fun b ⟨r,l,e⟩=>by
  subst e
  rcases (hr r l).1 with ⟨l1,e1⟩ | z
  ·exact .inl ⟨r,l1,e1.symm⟩
  ·exact .inr z
 w0:=w0
 c0:=c0
 p0:=p0
theorem IM (W:Wd A ρ S H) (ne:oq A) {r0:Role} (l0:live S r0) (o:HO):uw A H (upd H (ρ r0) o):=fun a u i e=>by
 have:a ≠ ρ r0:=fun z=>W.vN ne i e ⟨r0,l0,z.symm⟩
 rw [ak this]
 exact e
theorem Wd.put (W:Wd A ρ S H) (ne:oq A) (r0:Role) (l0:live S r0) {o:HO} (hl:∀ r,live S' r → live S r) (nP:∀ r o',r ≠ r0 → live S' r → Ob A ρ S H r o' → Ob A ρ S' H r o')
  (h0:Ob A ρ S' (upd H (ρ r0) o) r0 o):dM A ρ S H ρ S' (upd H (ρ r0) o):=by
 refine W.Ul (fun r l=>⟨.inl ⟨hl r l,rfl⟩,?_⟩) (fun r r' l l' z=>?_) (fun b u e n=>?_) rfl rfl rfl
 ·by_cases e:r = r0
  ·subst e
   exact ⟨o,ae,h0⟩
  ·obtain ⟨o',h1,h2⟩:=W.ob r (hl r l)
   refine ⟨o',?_,(nP r o' e l h2).mono (IM W ne l0 o)⟩
   rw [ak fun z=>e (W.inj r r0 (hl r l) l0 z)]
   exact h1
 ·obtain ⟨o',h1,_⟩:=W.ob r (hl r l)
  rw [z] at h1
  cases h1
 ·rw [ak fun z=>n ⟨r0,l0,z.symm⟩]
  exact e
theorem Wd.aF (W:Wd A ρ S H):∃ dx,H (ρ .aF) = some (.ins A.aN dx (dD ρ S)):=by
 obtain ⟨o,e,dx,rfl⟩:=W.ob .aF trivial
 exact ⟨dx,e⟩
theorem Wd.cf (W:Wd A ρ S H):∃ dx,H (ρ .cf) = some (.ins A.aE dx (oT ρ S)):=by
 obtain ⟨o,e,dx,rfl⟩:=W.ob .cf trivial
 exact ⟨dx,e⟩
theorem Wd.iC (W:Wd A ρ S H):H (ρ .iC) = some (.lst (refs ρ .sw S.switches.length)):=by
 obtain ⟨o,e,rfl⟩:=W.ob .iC trivial
 exact e
theorem Wd.eS (W:Wd A ρ S H):H (ρ .eS) = some (.lst (refs ρ .mm S.known.length)):=by
 obtain ⟨o,e,rfl⟩:=W.ob .eS trivial
 exact e
theorem Wd.dg (W:Wd A ρ S H):H (ρ .dg) = some (.lst (refs ρ .pu S.policies.length)):=by
 obtain ⟨o,e,rfl⟩:=W.ob .dg trivial
 exact e
theorem Wd.j7 (W:Wd A ρ S H):H (ρ .j7) = some (.lst (S.known.map fun k=>nV k.boot)):=by
 obtain ⟨o,e,rfl⟩:=W.ob .j7 trivial
 exact e
theorem Wd.cnt (W:Wd A ρ S H):H (ρ .cnt) = some (.dK (cntK S)):=by
 obtain ⟨o,e,rfl⟩:=W.ob .cnt trivial
 exact e
theorem Wd.bag (W:Wd A ρ S H):∃ as:List Addr,H (ρ .bag) = some (.lst (as.map .ref)) ∧ Paired (f9 A H) as S.bag:=by
 obtain ⟨o,e,as,rfl,p⟩:=W.ob .bag trivial
 exact ⟨as,e,p⟩
theorem Wd.ret (W:Wd A ρ S H):∃ as:List Addr,H (ρ .ret) = some (.lst (as.map .ref)) ∧ Paired (yl H) as S.retired:=by
 obtain ⟨o,e,as,rfl,p⟩:=W.ob .ret trivial
 exact ⟨as,e,p⟩
theorem Wd.pu (W:Wd A ρ S H) {i:Nat} {l:List Vbcnao.Rule} (h:S.policies[i]? = some l):∃ as:List Addr,H (ρ (.pu i)) = some (.lst (as.map .ref)) ∧ Paired (i7 H) as l:=by
 obtain ⟨o,e,l',as,h',rfl,p⟩:=W.ob (.pu i) (List.getElem?_eq_some_iff.mp h).1
 rw [h] at h'
 cases h'
 exact ⟨as,e,p⟩
theorem Wd.sw (W:Wd A ρ S H) {i:Nat} {w:Vbcnao.Switch} (h:S.switches[i]? = some w):∃ dx,H (ρ (.sw i)) = some (.ins A.bK dx (i9 ρ i w)):=by
 obtain ⟨o,e,w',dx,h',rfl⟩:=W.ob (.sw i) (List.getElem?_eq_some_iff.mp h).1
 rw [h] at h'
 cases h'
 exact ⟨dx,e⟩
theorem Wd.pd (W:Wd A ρ S H) {i:Nat} {w:Vbcnao.Switch} (h:S.switches[i]? = some w):∃ kvs,H (ρ (.pd i)) = some (.dK kvs) ∧ Dk (IsPart ρ i) kvs (fj (w.held.map (·.v))):=by
 obtain ⟨o,e,w',kvs,h',rfl,d⟩:=W.ob (.pd i) (List.getElem?_eq_some_iff.mp h).1
 rw [h] at h'
 cases h'
 exact ⟨kvs,e,d⟩
theorem Wd.pt (W:Wd A ρ S H) {i v:Nat} {w:Vbcnao.Switch} {h:Vbcnao.Held} (hw:S.switches[i]? = some w) (hh:Vbcnao.heldOf w v = some h):∃ dx,H (ρ (.pt i v)) = some (.ins A.c5 dx (Al ρ i v h.total)):=by
 obtain ⟨o,e,w',h',dx,e1,e2,rfl⟩:=W.ob (.pt i v) ⟨w,h,hw,hh⟩
 rw [hw] at e1
 cases e1
 rw [hh] at e2
 cases e2
 exact ⟨dx,e⟩
theorem Wd.cm (W:Wd A ρ S H) {i v:Nat} {w:Vbcnao.Switch} {h:Vbcnao.Held} (hw:S.switches[i]? = some w) (hh:Vbcnao.heldOf w v = some h):∃ kvs,H (ρ (.cm i v)) = some (.dK kvs) ∧ Dk (WY H) kvs h.rows:=by
 obtain ⟨o,e,w',h',kvs,e1,e2,rfl,d⟩:=W.ob (.cm i v) ⟨w,h,hw,hh⟩
 rw [hw] at e1
 cases e1
 rw [hh] at e2
 cases e2
 exact ⟨kvs,e,d⟩
theorem Wd.mm (W:Wd A ρ S H) {i:Nat} {k:Vbcnao.Known} (h:S.known[i]? = some k):∃ dx,H (ρ (.mm i)) = some (.ins A.bZ dx (BH ρ i k)):=by
 obtain ⟨o,e,w',dx,h',rfl⟩:=W.ob (.mm i) (List.getElem?_eq_some_iff.mp h).1
 rw [h] at h'
 cases h'
 exact ⟨dx,e⟩
theorem Wd.hv (W:Wd A ρ S H) {i:Nat} {k:Vbcnao.Known} (h:S.known[i]? = some k):∃ kvs,H (ρ (.hv i)) = some (.dK kvs) ∧ Dk KL kvs (fj k.haves):=by
 obtain ⟨o,e,w',kvs,h',rfl,d⟩:=W.ob (.hv i) (List.getElem?_eq_some_iff.mp h).1
 rw [h] at h'
 cases h'
 exact ⟨kvs,e,d⟩
theorem Wd.gn (W:Wd A ρ S H) {i:Nat} {k:Vbcnao.Known} (h:S.known[i]? = some k):∃ kvs,H (ρ (.gn i)) = some (.dK kvs) ∧ Dk KL kvs (fj k.gones):=by
 obtain ⟨o,e,w',kvs,h',rfl,d⟩:=W.ob (.gn i) (List.getElem?_eq_some_iff.mp h).1
 rw [h] at h'
 cases h'
 exact ⟨kvs,e,d⟩
theorem jG {f:Nat → Role} {n i:Nat} (h:i < n):(refs ρ f n)[i]? = some (.ref (ρ (f i))):=by
 unfold refs
 rw [List.getElem?_map,List.getElem?_range h]
 rfl
theorem gf {f:Nat → Role} {n:Nat}:(refs ρ f n).length = n:=by unfold refs; simp
end
end Pt
namespace Pt
open PySem PySem.Spec PyProof.Rows L2
theorem rS {t1 t2:TS} {D:Ends} {σ:L2.St} {H:Hp} (M:L2.St → Hp → Prop) (h2:∀ σ' H',M σ' H' → t2 D σ' H') (h1:(∀ σ' H',M σ' H' → t2 D σ' H') → ajk t1 t2 D σ H):ajk t1 t2 D σ H:=h1 h2
theorem yg {a b:Bool} {f:Bool → Prop} {B:Prop} (hB:f b → B) (h:f (a && b)):if a = true then B else f false:=by
 cases a
 ·exact uS h
 ·exact l7 (hB h)
theorem lz {xs:List V} (h:Nat.ble xs.length 8 = true:=by rfl):xs.length ≤ sizeLine:=Nat.le_trans (Nat.le_of_ble_eq_true h) (by decide)
theorem lp {f:Str} {v:V} {fs:List (Str × V)} {n:Nat} (h:fs.length ≤ n):(bz f v fs).length ≤ n + 1:=Nat.le_trans (HK f v fs) (Nat.succ_le_succ h)
theorem cW {fs:List (Str × V)} {n:Nat} (h:fs.length ≤ n) (hn:n < 1000:=by decide):fs.length < 1000:=Nat.lt_of_le_of_lt h hn
theorem mZ {N:List Str} {vs:List V} (h:N.length = vs.length) (hn:N.length < 1000):(N.zip vs).length < 1000:=by rw [W9 h,← h]; exact hn
noncomputable def XI (rt:Addr) (p:Vbcnao.Packet):List (Str × V):=qO.zip [nV p.key,.ref rt,nV p.done,nV p.stamp,nV p.born]
structure CH (A:bg) (H:Hp) (q:Addr × Addr) (p:Vbcnao.Packet):Prop where
 ins:∃ dx,H q.1 = some (.ins A.bX dx (XI q.2 p))
 rt:H q.2 = some (.lst (p.route.map nV))
noncomputable abbrev PL:=List (Addr × Addr)
structure Rn (A:bg) (ρ:Role → Addr) (S:SS) (H:Hp) (ps:PL):Prop where
 lst:H (ρ .eX) = some (.lst (ps.map fun q=>.ref q.1))
 at_:Paired (CH A H) ps S.packets
 nd:(ps.map (·.1)).Nodup
 nr:∀ q ∈ ps,q.2 ≠ ρ .eX
 no:¬ Own ρ S (ρ .eX)
 n8:∀ q ∈ ps,¬ Own ρ S q.1 ∧ ¬ Own ρ S q.2
noncomputable def iU (ρ:Role → Addr) (S:SS) (ps:PL) (b:Addr):Prop:=Own ρ S b ∨ b = ρ .eX ∨ ∃ q ∈ ps,b = q.1 ∨ b = q.2
structure Wh (A:bg) (ρ:Role → Addr) (S:SS) (H:Hp) (ps:PL):Prop where
 wd:Wd A ρ S H
 pk:Rn A ρ S H ps
structure kX (A:bg) (ρ:Role → Addr) (S:SS) (H:Hp) (ps:PL) (ρ':Role → Addr) (S':SS) (H':Hp) (j8:PL):Prop where
 wh:Wh A ρ' S' H' j8
 keep:∀ b o,H b = some o → ¬ iU ρ S ps b → H' b = some o
 grow:∀ b,iU ρ' S' j8 b → iU ρ S ps b ∨ H b = none
 w0:ρ' .aF = ρ .aF
section
variable {A:bg} {ρ ρ' ρ'':Role → Addr} {S S' S'':SS} {H H' H'':Hp} {ps j8 amK:PL}
theorem dM.amP (W:Wd A ρ S H) (a:dM A ρ S H ρ' S' H') (k:Rn A ρ S H ps) (e:S'.packets = S.packets):Rn A ρ' S' H' ps where
 lst:=by
  rw [a.p0]
  exact a.keep _ _ k.lst k.no
 at_:=by
  rw [e]
  have hn:=k.n8
  have h:=k.at_
  clear e k
  generalize S.packets = L at h
  induction h with
  | nil=>exact .nil
  | @cons x y l₁ l₂ r _ ih =>
   have h0:=hn x (List.mem_cons_self ..)
   exact .cons ⟨let ⟨dx,z⟩:=r.ins; ⟨dx,a.keep _ _ z h0.1⟩,a.keep _ _ r.rt h0.2⟩ (ih fun q hq=>hn q (List.mem_cons_of_mem _ hq))
 nd:=k.nd
 nr:=fun q hq=>by
  rw [a.p0]
  exact k.nr q hq
 no:=by
  rw [a.p0]
  exact a.O4 k.lst k.no
 n8:=fun q hq=>by
  have h0:=k.n8 q hq
  obtain ⟨p,_,r⟩:=DE k.at_ hq
  obtain ⟨dx,z⟩:=r.ins
  exact ⟨a.O4 z h0.1,a.O4 r.rt h0.2⟩
theorem Wh.CQ (W:Wh A ρ S H ps) (a:dM A ρ S H ρ' S' H') (e:S'.packets = S.packets):kX A ρ S H ps ρ' S' H' ps where
 wh:=⟨a.wd,a.amP W.wd W.pk e⟩
 keep:=fun b o h n=>a.keep b o h fun q=>n (.inl q)
 grow:=fun b q=>by
  rcases q with q | q | q
  ·rcases a.grow b q with h | h
   ·exact .inl (.inl h)
   ·exact .inr h
  ·exact .inl (.inr (.inl (by rw [q,a.p0])))
  ·exact .inl (.inr (.inr q))
 w0:=a.w0
theorem kX.refl (W:Wh A ρ S H ps):kX A ρ S H ps ρ S H ps:=⟨W,fun _ _ e _=>e,fun _ h=>.inl h,rfl⟩
theorem kX.trans (a:kX A ρ S H ps ρ' S' H' j8) (b:kX A ρ' S' H' j8 ρ'' S'' H'' amK):kX A ρ S H ps ρ'' S'' H'' amK where
 wh:=b.wh
 keep:=fun x o e n=>b.keep x o (a.keep x o e n) fun q=>(a.grow x q).elim n fun z=>by rw [z] at e; cases e
 grow:=fun x q=>by
  rcases b.grow x q with h | h
  ·exact a.grow x h
  ·by_cases n:iU ρ S ps x
   ·exact .inl n
   ·refine .inr ?_
    cases e:H x with
    | none=>rfl
    | some o =>
     rw [a.keep x o e n] at h
     cases h
 w0:=b.w0.trans a.w0
theorem Wh.aiq (W:Wh A ρ S H ps) {b:Addr} (h:iU ρ S ps b):∃ o,H b = some o:=by
 rcases h with h | rfl | ⟨q,hq,h⟩
 ·exact W.wd.acH h
 ·exact ⟨_,W.pk.lst⟩
 ·obtain ⟨p,_,r⟩:=DE W.pk.at_ hq
  rcases h with rfl | rfl
  ·obtain ⟨dx,z⟩:=r.ins
   exact ⟨_,z⟩
  ·exact ⟨_,r.rt⟩
theorem Wh.fresh (W:Wh A ρ S H ps) {b:Addr} (h:H b = none):¬ iU ρ S ps b:=fun q=>by
 obtain ⟨o,e⟩:=W.aiq q
 rw [h] at e
 cases e
theorem Wh.same (W:Wh A ρ S H ps) (h:aH H H'):kX A ρ S H ps ρ S H' ps:=W.CQ (W.wd.same h) rfl
theorem kX.O4 (a:kX A ρ S H ps ρ' S' H' j8) {b:Addr} {o:HO} (e:H b = some o) (n:¬ iU ρ S ps b):¬ iU ρ' S' j8 b:=fun q=>(a.grow b q).elim n fun z=>by rw [z] at e; cases e
theorem Wd.Kr (W:Wd A ρ S H) (h:∀ b,Own ρ S b → H' b = H b) (i:uw A H H'):Wd A ρ S H' :=
 ⟨W.inj,fun r l=>let ⟨o,e,x⟩:=W.ob r l; ⟨o,by rw [h _ ⟨r,l,rfl⟩]; exact e,x.mono i⟩⟩
theorem take_snoc {α:Type}:∀ {l:List α} {i:Nat} {x:α},l[i]? = some x → l.take (i + 1) = l.take i ++ [x]
 | [],i,x,h=>by simp at h
 | a :: l,0,x,h=>by
  cases h
  rfl
 | a :: l,i + 1,x,h=>by
  show a :: l.take (i + 1) = a :: l.take i ++ [x]
  rw [take_snoc (l:=l) (i:=i) (x:=x) (by simpa using h)]
  rfl
theorem uI {α β:Type} {R R':α → β → Prop} {l₁:List α} {l₂:List β} (h:Paired R l₁ l₂) (f:∀ a b,a ∈ l₁ → R a b → R' a b):Paired R' l₁ l₂:=by
 induction h with
 | nil=>exact .nil
 | cons r _ ih=>exact .cons (f _ _ (List.mem_cons_self ..) r) (ih fun a b ha=>f a b (List.mem_cons_of_mem _ ha))
end
end Pt
namespace Pt
open PySem PySem.Spec PyProof.Rows L2
section
variable {P:Program} {w:World} {K:W.Frag} {mg:Str → Option Value} {base:Heap} {A:bg}
noncomputable def qC:Sp:=fun vs H Q _=>∃ z:Int,vs = [.int z] ∧ Q (.bl (decide (0 ≤ z) && decide (z ≤ 65535))) H
theorem OQ (T:Txt K mg A):aD P w K mg base aC 1 A.jj A.zN ["number"] qC:=by
 refine T.Ah.ok aid (fun vs H Q E h=>?_) (fun au R outer s H vs Q E hr h=>?_)
 ·obtain ⟨z,rfl,_⟩:=h
  rfl
 ·obtain ⟨z,rfl,q⟩:=h
  refine ⟨_,(ah0 T hr).2,?_⟩
  refine ⟨_,rfl,_,_,rfl,rfl,_,rfl,?_⟩
  exact yg (f:=fun b=>Q (.bl b) H) (fun q=>⟨_,_,rfl,rfl,q⟩) q
theorem al0 (r:Vbcnao.Rule) (x key:Nat):r.fits x key = (ZK (.int (Vbcnao.optShown r.at_)) [.int (-1),.int (x:Int)] && (decide ((r.lo:Int) ≤ (key:Int)) && decide ((key:Int) ≤ (r.hi:Int)))):=by
 have e1:decide ((r.lo:Int) ≤ (key:Int)) = decide (r.lo ≤ key):=by simp
 have e2:decide ((key:Int) ≤ (r.hi:Int)) = decide (key ≤ r.hi):=by simp
 rw [e1,e2]
 have e0:(r.at_.all fun y=>y == x) = ZK (.int (Vbcnao.optShown r.at_)) [.int (-1),.int (x:Int)]:=by
  cases h:r.at_ with
  | none=>rfl
  | some y =>
   have e3:((-1:Int) == (y:Int)) = false:=beq_eq_false_iff_ne.mpr (by omega)
   have e4:((x:Int) == (y:Int)) = (y == x):=by
    by_cases e:y = x
    ·subst e
     simp
    ·rw [beq_eq_false_iff_ne.mpr e]
     exact beq_eq_false_iff_ne.mpr (by omega)
   show (y == x) = (((-1:Int) == (y:Int)) || (((x:Int) == (y:Int)) || false))
   rw [e3,e4]
   simp
 unfold Vbcnao.Rule.fits
 rw [e0]
noncomputable def DT:Sp:=fun vs H Q _=>∃ (a:Addr) (r:Vbcnao.Rule) (x key:Nat),vs = [.ref a,nV x,nV key] ∧ i7 H a r ∧ ∀ H',aH H H' → Q (.bl (r.fits x key)) H'
theorem acM (T:Txt K mg A):aD P w K mg base aC 1 A.gZ A.Ar ["rule","x","key"] DT:=by
 refine T.IL.ok acj (fun vs H Q E h=>?_) (fun au R outer s H vs Q E hr h=>?_)
 ·obtain ⟨a,r,x,key,rfl,_⟩:=h
  rfl
 ·obtain ⟨a,r,x,key,rfl,gU,q⟩:=h
  refine ⟨_,(aby T hr).2,?_⟩
  refine ⟨_,rfl,_,_,_,_,rfl,rfl,j0.of gU,at_of (j:=0) rfl rfl,_,rfl,lz,fun p hp=>?_⟩
  have s1:aH H (upd H p (.tup [.int (-1),nV x])):=aH.upd hp
  have q1:=q _ s1
  rw [al0] at q1
  refine ⟨_,_,rfl,.inr (j0.of ae),rfl,rfl,_,rfl,?_⟩
  refine yg (f:=fun b=>Q (.bl b) _) (fun q=>?_) q1
  refine ⟨_,rfl,_,_,_,_,rfl,rfl,j0.of (s1 _ _ gU),at_of (j:=1) rfl rfl,_,rfl,_,_,rfl,rfl,_,rfl,?_⟩
  exact yg (f:=fun b=>Q (.bl b) _) (fun q=>⟨_,rfl,_,_,_,_,rfl,rfl,j0.of (s1 _ _ gU),at_of (j:=2) rfl rfl,_,_,rfl,rfl,q⟩) q
theorem aih (r:Vbcnao.Rule) (l:List Vbcnao.Rule) (x key:Nat):Vbcnao.says (r :: l) x key = if r.fits x key = true then r.pass else Vbcnao.says l x key:=by
 unfold Vbcnao.says
 rw [List.find?_cons]
 cases h:r.fits x key <;> simp
theorem JX {α:Type}:∀ {l:List α} {i:Nat} {x:α},l[i]? = some x → l.drop i = x :: l.drop (i + 1)
 | [],_,_,h=>by simp at h
 | y :: l,0,x,h=>by
  cases h
  rfl
 | y :: l,i + 1,x,h=>by
  show l.drop i = x :: l.drop (i + 1)
  exact JX (by simpa using h)
theorem nE {α:Type} {f:α → V} {l:List α} {i:Nat} {v:V} (h:(l.map f)[i]? = some v):∃ x,l[i]? = some x ∧ v = f x:=by
 rw [List.getElem?_map] at h
 cases e:l[i]? with
 | none =>
  rw [e] at h
  cases h
 | some x =>
  rw [e] at h
  exact ⟨x,rfl,(Option.some.inj h).symm⟩
theorem lY {α β:Type} {R:α → β → Prop} {l₁:List α} {l₂:List β} (h:Paired R l₁ l₂) {i:Nat} {a:α} (e:l₁[i]? = some a):∃ b,l₂[i]? = some b ∧ R a b:=by
 induction h generalizing i with
 | nil=>simp at e
 | @cons x y l₁ l₂ r rr ih =>
  cases i with
  | zero=>exact ⟨y,rfl,by cases e; exact r⟩
  | succ i=>exact ih (by simpa using e)
noncomputable def qz:Sp:=fun vs H Q _=>∃ (p:Addr) (as:List Addr) (l:List Vbcnao.Rule) (x key:Nat),vs = [.ref p,nV x,nV key] ∧ H p = some (.lst (as.map .ref)) ∧ Paired (i7 H) as l ∧ ∀ H',aH H H' → Q (nV (Vbcnao.says l x key).toNat) H'
theorem ON (T:Txt K mg A):aD P w K mg base aC 2 A.gB A.t8 ["rules","x","key"] qz:=by
 refine T.Ax.ok Oa (fun vs H Q E h=>?_) (fun au R outer s H vs Q E hr h=>?_)
 ·obtain ⟨p,as,l,x,key,rfl,_⟩:=h
  rfl
 ·obtain ⟨p,as,l,x,key,rfl,hp,hl,q⟩:=h
  refine ⟨_,(abx T hr (acM T)).2,?_⟩
  refine ⟨_,rfl,_,rfl,⟨_,aM.of hp⟩,iK (K:=K) (a:=p) (xs:=as.map V.ref) (fun i σ H'=>∃ v:Option V,σ = [some (.ref p),some (nV x),some (nV key),v] ∧ aH H H' ∧ Vbcnao.says l x key = Vbcnao.says (l.drop i) x key)
   ⟨none,rfl,fun _ _ e=>e,rfl⟩ (fun i σ H' _ ⟨_,_,s5,_⟩=>aM.of (s5 _ _ hp)) ?_ ?_⟩
  ·rintro i y σ H' hi ⟨v,rfl,s5,e⟩
   obtain ⟨a,ha,rfl⟩:=nE hi
   obtain ⟨r,PK,SG⟩:=lY hl ha
   rw [JX PK,aih] at e
   refine ⟨_,rfl,_,rfl,_,rfl,a,r,x,key,rfl,s5 _ _ SG,fun H2 s6=>⟨_,rfl,?_⟩⟩
   refine aZ (fun c=>?_) (fun c=>?_)
   ·refine ⟨_,rfl,_,_,_,_,rfl,rfl,j0.of (s6 _ _ (s5 _ _ SG)),at_of (j:=3) rfl rfl,?_⟩
    rw [if_pos c] at e
    have:=q H2 (s5.trans s6)
    rw [e] at this
    exact this
   ·rw [if_neg c] at e
    exact ⟨_,rfl,s5.trans s6,e⟩
  ·rintro σ H' ⟨v,rfl,s5,e⟩
   have:=q H' s5
   rw [e,List.length_map,cQ hl,List.drop_length] at this
   exact this
noncomputable def d8 (A:bg):Sp:=fun vs H Q _=>∃ (p dx:Addr) (a b c d e f g:V),vs = [.ref p,a,b,c,d,e,f,g] ∧ H p = some (.ins A.aU dx []) ∧ Q .bL (upd H p (.ins A.aU dx (j9.zip [a,b,c,d,e,f,g])))
theorem lK (T:Txt K mg A):aD P w K mg base aC 1 A.cO A.eW ["self","kind","x","start","version","place","total","rule"] (d8 A):=by
 refine T.r9.ok Vt (fun vs H Q E h=>?_) (fun au R outer s H vs Q E hr h=>?_)
 ·obtain ⟨p,dx,a,b,c,d,e,f,g,rfl,_⟩:=h
  rfl
 ·obtain ⟨p,dx,a,b,c,d,e,f,g,rfl,hp,q⟩:=h
  refine ⟨_,(Vc T hr).2,?_⟩
  refine ⟨_,rfl,_,rfl,_,_,_,_,rfl,hp,T.aG,T.bG,(cW (Nat.le_refl 0)),?_⟩
  refine ⟨_,rfl,_,rfl,_,_,_,_,rfl,ae,T.aG,T.eO,(cW (lp (Nat.le_refl 0))),?_⟩
  refine ⟨_,rfl,_,rfl,_,_,_,_,rfl,ae,T.aG,T.dG,(cW (lp (lp (Nat.le_refl 0)))),?_⟩
  refine ⟨_,rfl,_,rfl,_,_,_,_,rfl,ae,T.aG,T.br,(cW (lp (lp (lp (Nat.le_refl 0))))),?_⟩
  refine ⟨_,rfl,_,rfl,_,_,_,_,rfl,ae,T.aG,T.gi,(cW (lp (lp (lp (lp (Nat.le_refl 0)))))),?_⟩
  refine ⟨_,rfl,_,rfl,_,_,_,_,rfl,ae,T.aG,T.ie,(cW (lp (lp (lp (lp (lp (Nat.le_refl 0))))))),?_⟩
  refine ⟨_,rfl,_,rfl,_,_,_,_,rfl,ae,T.aG,T.eZ,(cW (lp (lp (lp (lp (lp (lp (Nat.le_refl 0)))))))),?_⟩
  simp only [dO]
  exact q
noncomputable def iE (A:bg):Sp:=fun vs H Q _=>∃ (ρ:Role → Addr) (S:SS),vs = [.ref (ρ .aF)] ∧ Wd A ρ S H ∧ Q (.bl (decide ((S.cap:Int) ≤ (S.bag.length:Int)))) H
theorem wH (T:Txt K mg A):aD P w K mg base aC 1 A.cu A.i0 ["self"] (iE A):=by
 refine T.yT.ok Lb (fun vs H Q E h=>?_) (fun au R outer s H vs Q E hr h=>?_)
 ·obtain ⟨ρ,S,rfl,_⟩:=h
  rfl
 ·obtain ⟨ρ,S,rfl,W,q⟩:=h
  obtain ⟨dx,hw⟩:=W.aF
  obtain ⟨as,hb,hp⟩:=W.bag
  refine ⟨_,(K1 T hr).2,?_⟩
  refine ⟨_,rfl,_,_,_,_,_,rfl,hw,T.aB,T.dF,aa gT rfl rfl,_,_,rfl,.inl (aM.of hb),_,rfl,_,_,_,_,_,rfl,hw,T.aB,T.nA,aa adA rfl rfl,_,_,rfl,rfl,?_⟩
  rw [List.length_map,cQ hp]
  exact q
theorem Wd.send (ne:oq A) {ρ:Role → Addr} {S:SS} {H:Hp} (W:Wd A ρ S H) {as:List Addr} (hb:H (ρ .bag) = some (.lst (as.map .ref))) (hp:Paired (f9 A H) as S.bag) {a:Addr} {m:Vbcnao.Msg} (hm:f9 A H a m) :
  dM A ρ S H ρ { S with bag:=S.bag ++ [m] } (upd H (ρ .bag) (.lst ((as ++ [a]).map .ref))):=by
 refine W.put ne .bag trivial (fun r l=>by cases r <;> exact l) (fun r o' hr l x=>by cases r <;> first | exact absurd rfl hr | exact x) ?_
 have i:=IM W ne (r0:=.bag) trivial (.lst ((as ++ [a]).map .ref))
 exact ⟨as ++ [a],rfl,vD (jH hp fun _ _ q=>q.mono i) (vC (hm.mono i))⟩
theorem Wd.lost (ne:oq A) {ρ:Role → Addr} {S:SS} {H:Hp} (W:Wd A ρ S H) (dx:Addr) (n:Nat):dM A ρ S H ρ { S with lost:=n } (upd H (ρ .aF) (.ins A.aN dx (dD ρ { S with lost:=n }))):=by
 refine W.put ne .aF trivial (fun r l=>by cases r <;> exact l) (fun r o' hr l x=>by cases r <;> first | exact absurd rfl hr | exact x) ?_
 exact ⟨dx,rfl⟩
noncomputable def dR (A:bg):Sp:=fun vs H Q _=>∃ (ρ:Role → Addr) (S:SS) (a:Addr) (m:Vbcnao.Msg),vs = [.ref (ρ .aF),.ref a] ∧ Wd A ρ S H ∧ f9 A H a m ∧ S.cap ≤ 4096 ∧
 ∀ H',dM A ρ S H ρ (Vbcnao.send S m) H' → (∀ b,b ≠ ρ .aF → b ≠ ρ .bag → H' b = H b) → Q .bL H'
theorem lG (T:Txt K mg A):aD P w K mg base aC 2 A.cY A.iM ["self","message"] (dR A):=by
 refine T.Rr.ok aaH (fun vs H Q E h=>?_) (fun au R outer s H vs Q E hr h=>?_)
 ·obtain ⟨ρ,S,a,m,rfl,_⟩:=h
  rfl
 ·obtain ⟨ρ,S,a,m,rfl,W,hm,hc,q⟩:=h
  obtain ⟨dx,hw⟩:=W.aF
  obtain ⟨as,hb,hp⟩:=W.bag
  refine ⟨_,(aal T hr (wH T)).2,?_⟩
  refine ⟨_,rfl,_,_,_,rfl,hw,aL wK,ρ,S,rfl,W,_,rfl,?_⟩
  refine aZ (fun c=>?_) (fun c=>?_)
  ·have c':¬ S.bag.length < S.cap:=by have:=of_decide_eq_true c; omega
   refine ⟨_,rfl,_,_,_,_,_,rfl,hw,T.aB,T.jS,aa B4 rfl rfl,_,_,rfl,rfl,_,_,hw,(mZ rfl (by decide)),?_⟩
   have e:bz "lost" (V.int ((S.lost:Int) + 1)) (dD ρ S) = dD ρ { S with lost:=S.lost + 1 }:=gH B4 rfl (by decide)
   have es:Vbcnao.send S m = { S with lost:=S.lost + 1 }:=by unfold Vbcnao.send; rw [if_neg c']
   refine q _ ?_ (fun b h1 h2=>ak h1)
   rw [e,es]
   exact W.lost T.gS dx _
  ·have c':S.bag.length < S.cap:=by
    have:¬ ((S.cap:Int) ≤ (S.bag.length:Int)):=fun z=>c (decide_eq_true z)
    omega
   have es:Vbcnao.send S m = { S with bag:=S.bag ++ [m] }:=by unfold Vbcnao.send; rw [if_pos c']
   refine ⟨_,rfl,_,_,_,_,_,rfl,hw,T.aB,T.dF,aa gT rfl rfl,.inl ⟨rfl,_,aM.of hb⟩,_,rfl,_,_,_,rfl,rfl,hb,(by rw [List.length_map,cQ hp]; exact Nat.lt_of_lt_of_le c' (Nat.le_trans hc (by decide))),?_⟩
   have e:(as.map V.ref ++ [V.ref a]) = (as ++ [a]).map V.ref:=by rw [List.map_append]; rfl
   refine q _ ?_ (fun b h1 h2=>ak h2)
   rw [e,es]
   exact W.send T.gS hb hp hm
end
end Pt
namespace Pt
open PySem PySem.Spec PyProof.Rows L2
theorem ab3:∀ {l m:List Int},l.Perm m → l.Pairwise (· ≤ ·) → m.Pairwise (· ≤ ·) → l = m
 | [],m,p,_,_=>by
  have:=p.length_eq
  cases m with
  | nil=>rfl
  | cons _ _=>simp at this
 | a :: l,[],p,_,_=>by
  have:=p.length_eq
  simp at this
 | a :: l,b :: m,p,h1,h2=>by
  have h1':=List.pairwise_cons.mp h1
  have h2':=List.pairwise_cons.mp h2
  have e:a = b:=by
   have ha:a ∈ b :: m:=p.mem_iff.mp (List.mem_cons_self ..)
   have hb:b ∈ a :: l:=p.mem_iff.mpr (List.mem_cons_self ..)
   rcases List.mem_cons.mp ha with e | ha
   ·exact e
   ·rcases List.mem_cons.mp hb with e | hb
    ·exact e.symm
    ·have x1:=h1'.1 b hb
     have x2:=h2'.1 a ha
     omega
  subst e
  rw [ab3 (List.perm_cons a |>.mp p) h1'.2 h2'.2]
theorem akV {l:List Nat} (h:Up l):(l.map fun (n:Nat)=>(n:Int)).Pairwise (· ≤ ·):=List.Pairwise.map _ (fun a b hab=>by omega) h
theorem Aj {β:Type} {R:V → Nat → β → Prop} {kvs:List (Key × V)} {l:List (Nat × β)} (d:Dk R kvs l) (hu:Up (l.map (·.1))) :
  ∃ ns:List Int,(kvs.map fun kv=>kV kv.1) = ns.map V.int ∧ ∀ se:List Int,se.Perm ns → se.Pairwise (· ≤ ·) → se = (l.map (·.1)).map fun (n:Nat)=>(n:Int):=by
 obtain ⟨ks,hp,e⟩:=d.keys
 refine ⟨ks.map fun (n:Nat)=>(n:Int),by rw [e,List.map_map]; rfl,fun se h1 h2=>ab3 (h1.trans (hp.map _)) h2 (akV hu)⟩
theorem cX (l:List Nat):(fj l).map (·.1) = l:=by
 unfold fj
 rw [List.map_map]
 exact List.map_id l
section
variable {P:Program} {w:World} {K:W.Frag} {mg:Str → Option Value} {base:Heap} {A:bg}
noncomputable def DV (A:bg):Sp:=fun vs H Q _=>∃ (p dx:Addr) (t:V),vs = [.ref p,t] ∧ H p = some (.ins A.c5 dx []) ∧
 ∀ cm H',H cm = none → H' p = some (.ins A.c5 dx (qN.zip [t,.ref cm])) → H' cm = some (.dK []) → (∀ b,b ≠ p → b ≠ cm → H' b = H b) → Q .bL H'
theorem acO (T:Txt K mg A):aD P w K mg base aC 1 A.gD A.As ["self","total"] (DV A):=by
 refine T.Tg.ok acp (fun vs H Q E h=>?_) (fun au R outer s H vs Q E hr h=>?_)
 ·obtain ⟨p,dx,t,rfl,_⟩:=h
  rfl
 ·obtain ⟨p,dx,t,rfl,hp,q⟩:=h
  refine ⟨_,(abB T hr).2,?_⟩
  refine ⟨_,rfl,_,rfl,_,_,_,_,rfl,hp,T.kD,T.jU,(cW (Nat.le_refl 0)),?_⟩
  intro cm yF
  have n1:p ≠ cm:=ay ae yF
  have n2:H cm = none:=by rw [ak (Ne.symm n1)] at yF; exact yF
  refine ⟨_,rfl,_,_,_,_,rfl,(by rw [ak n1]; exact ae),T.kD,T.gh,(cW (lp (Nat.le_refl 0))),?_⟩
  refine q cm _ n2 ae ?_ fun b h1 h2=>?_
  ·rw [ak (Ne.symm n1)]
   exact ae
  ·rw [ak h1,ak h2,ak h1]
noncomputable def m8 (A:bg):Sp:=fun vs H Q _=>∃ (p dx:Addr) (t:V),vs = [.ref p,t] ∧ H p = some (.ins A.bK dx []) ∧
 ∀ pd H',H pd = none → H' p = some (.ins A.bK dx (jh.zip [t,.int 0,.int 0,.ref pd])) → H' pd = some (.dK []) → (∀ b,b ≠ p → b ≠ pd → H' b = H b) → Q .bL H'
theorem Jt (T:Txt K mg A):aD P w K mg base aC 1 A.dY A.pB ["self","start"] (m8 A):=by
 refine T.Nz.ok Xx (fun vs H Q E h=>?_) (fun au R outer s H vs Q E hr h=>?_)
 ·obtain ⟨p,dx,t,rfl,_⟩:=h
  rfl
 ·obtain ⟨p,dx,t,rfl,hp,q⟩:=h
  refine ⟨_,(Xf T hr).2,?_⟩
  refine ⟨_,rfl,_,rfl,_,_,_,_,rfl,hp,T.cB,T.gI,(cW (Nat.le_refl 0)),?_⟩
  refine ⟨_,rfl,_,_,_,_,rfl,ae,T.cB,T.eI,(cW (lp (Nat.le_refl 0))),?_⟩
  refine ⟨_,rfl,_,_,_,_,rfl,ae,T.cB,T.fV,(cW (lp (lp (Nat.le_refl 0)))),?_⟩
  simp only [dO]
  intro cm yF
  have n1:p ≠ cm:=ay ae yF
  have n2:H cm = none:=by rw [ak (Ne.symm n1)] at yF; exact yF
  refine ⟨_,rfl,_,_,_,_,rfl,(by rw [ak n1]; exact ae),T.cB,T.cE,(cW (lp (lp (lp (Nat.le_refl 0))))),?_⟩
  refine q cm _ n2 ae ?_ fun b h1 h2=>?_
  ·rw [ak (Ne.symm n1)]
   exact ae
  ·rw [ak h1,ak h2,ak h1]
noncomputable def m9 (A:bg):Sp:=fun vs H Q _=>∃ (p dx:Addr),vs = [.ref p] ∧ H p = some (.ins A.bZ dx []) ∧
 ∀ hv gn H',H hv = none → H gn = none → hv ≠ gn → H' p = some (.ins A.bZ dx (qP.zip [.ref hv,.int 0,.ref gn])) → H' hv = some (.dK []) → H' gn = some (.dK []) → (∀ b,b ≠ p → b ≠ hv → b ≠ gn → H' b = H b) → Q .bL H'
theorem Ju (T:Txt K mg A):aD P w K mg base aC 1 A.d7 A.pC ["self"] (m9 A):=by
 refine T.NC.ok Xz (fun vs H Q E h=>?_) (fun au R outer s H vs Q E hr h=>?_)
 ·obtain ⟨p,dx,rfl,_⟩:=h
  rfl
 ·obtain ⟨p,dx,rfl,hp,q⟩:=h
  refine ⟨_,(Xh T hr).2,?_⟩
  intro hv hhv
  have n1:p ≠ hv:=ay hp hhv
  refine ⟨_,rfl,_,_,_,_,rfl,(by rw [ak n1]; exact hp),T.eu,T.eR,(cW (Nat.le_refl 0)),?_⟩
  refine ⟨_,rfl,_,_,_,_,rfl,ae,T.eu,T.eA,(cW (lp (Nat.le_refl 0))),?_⟩
  simp only [dO]
  intro gn ZN
  have n2:p ≠ gn:=ay ae ZN
  rw [ak (Ne.symm n2)] at ZN
  have n3:hv ≠ gn:=ay ae ZN
  rw [ak (Ne.symm n3)] at ZN
  refine ⟨_,rfl,_,_,_,_,rfl,(by rw [ak n2]; exact ae),T.eu,T.fK,(cW (lp (lp (Nat.le_refl 0)))),?_⟩
  refine q hv gn _ hhv ZN n3 ae ?_ ?_ fun b h1 h2 h3=>?_
  ·rw [ak (Ne.symm n1),ak n3,ak (Ne.symm n1)]
   exact ae
  ·rw [ak (Ne.symm n2)]
   exact ae
  ·rw [ak h1,ak h3,ak h1,ak h2]
noncomputable def y9 (A:bg):Sp:=fun vs H Q _=>∃ (p dx:Addr) (a b c d:V),vs = [.ref p,a,b,c,d] ∧ H p = some (.ins A.bX dx []) ∧ Q .bL (upd H p (.ins A.bX dx (qO.zip [a,b,.int 0,c,d])))
theorem XU (T:Txt K mg A):aD P w K mg base aC 1 A.eM A.uC ["self","key","route","stamp","time"] (y9 A):=by
 refine T.NB.ok Xy (fun vs H Q E h=>?_) (fun au R outer s H vs Q E hr h=>?_)
 ·obtain ⟨p,dx,a,b,c,d,rfl,_⟩:=h
  rfl
 ·obtain ⟨p,dx,a,b,c,d,rfl,hp,q⟩:=h
  refine ⟨_,(Xg T hr).2,?_⟩
  refine ⟨_,rfl,_,rfl,_,_,_,_,rfl,hp,T.dP,T.jV,(cW (Nat.le_refl 0)),?_⟩
  refine ⟨_,rfl,_,rfl,_,_,_,_,rfl,ae,T.dP,T.fW,(cW (lp (Nat.le_refl 0))),?_⟩
  refine ⟨_,rfl,_,_,_,_,rfl,ae,T.dP,T.fh,(cW (lp (lp (Nat.le_refl 0)))),?_⟩
  refine ⟨_,rfl,_,rfl,_,_,_,_,rfl,ae,T.dP,T.gJ,(cW (lp (lp (lp (Nat.le_refl 0))))),?_⟩
  refine ⟨_,rfl,_,rfl,_,_,_,_,rfl,ae,T.dP,T.jf,(cW (lp (lp (lp (lp (Nat.le_refl 0)))))),?_⟩
  simp only [dO]
  exact q
theorem kR (a b:Nat):decide (V.int (a:Int) = V.int (b:Int)) = decide (a = b):=by
 by_cases e:a = b
 ·subst e
  simp
 ·rw [decide_eq_false e]
  exact decide_eq_false fun z=>e (by injection z with z; omega)
noncomputable def kF (A:bg):Sp:=fun vs H Q _=>∃ (p dx cm:Addr) (n:Nat) (kvs:List (Key × V)),vs = [.ref p] ∧ H p = some (.ins A.c5 dx (qN.zip [nV n,.ref cm])) ∧ H cm = some (.dK kvs) ∧ Q (.bl (decide (kvs.length = n))) H
theorem D6 (T:Txt K mg A):aD P w K mg base aC 1 A.cZ A.lU ["self"] (kF A):=by
 refine T.GY.ok TF (fun vs H Q E h=>?_) (fun au R outer s H vs Q E hr h=>?_)
 ·obtain ⟨p,dx,cm,n,kvs,rfl,_⟩:=h
  rfl
 ·obtain ⟨p,dx,cm,n,kvs,rfl,hp,yF,q⟩:=h
  refine ⟨_,(Tn T hr).2,?_⟩
  refine ⟨_,rfl,_,_,_,_,_,rfl,hp,T.kD,T.gh,aa nM rfl rfl,_,_,rfl,yF,_,rfl,_,_,_,_,_,rfl,hp,T.kD,T.jU,aa MS rfl rfl,rfl,?_⟩
  show Q (.bl (decide (V.int (kvs.length:Int) = V.int (n:Int)))) H
  rw [kR]
  exact q
noncomputable def lV (A:bg):Sp:=fun vs H Q _=>∃ (p dx cm:Addr) (n:V) (kvs:List (Key × V)) (rows:List (Nat × Vbcnao.Rule)),vs = [.ref p] ∧ H p = some (.ins A.c5 dx (qN.zip [n,.ref cm])) ∧ H cm = some (.dK kvs) ∧
 Dk (WY H) kvs rows ∧ Up (rows.map (·.1)) ∧ rows.length ≤ 64 ∧ ∀ H' D as,aH H H' → H' D = some (.lst (as.map .ref)) → Paired (i7 H') as (rows.map (·.2)) → Q (.ref D) H'
theorem Hq (T:Txt K mg A):aD P w K mg base aC 1 A.b7 A.jN ["self"] (lV A):=by
 refine T.v7.ok tF (fun vs H Q E h=>?_) (fun au R outer s H vs Q E hr h=>?_)
 ·obtain ⟨p,dx,cm,n,kvs,rows,rfl,_⟩:=h
  rfl
 ·obtain ⟨p,dx,cm,n,kvs,rows,rfl,hp,yF,hd,hu,hl,q⟩:=h
  obtain ⟨ns,en,es⟩:=Aj hd hu
  refine ⟨_,(G4 T hr).2,?_⟩
  refine ⟨_,rfl,_,_,_,_,_,rfl,hp,T.kD,T.gh,aa nM rfl rfl,_,_,_,rfl,yF,en,fun se l h1 h2 hl'=>?_⟩
  have e':=es se h1 h2
  subst e'
  have s1:aH H (upd H l (.lst (((rows.map (·.1)).map fun (n:Nat)=>(n:Int)).map V.int))):=aH.upd hl'
  refine ⟨_,rfl,⟨_,aM.of ae⟩,fun D hD=>?_⟩
  refine Yk (K:=K) (a:=l) (xs:=((rows.map (·.1)).map fun (n:Nat)=>(n:Int)).map V.int)
   (fun i H'=>aH H H' ∧ H' l = some (.lst (((rows.map (·.1)).map fun (n:Nat)=>(n:Int)).map V.int)) ∧ ∃ as:List Addr,H' D = some (.lst (as.map .ref)) ∧ Paired (i7 H') as ((rows.take i).map (·.2))) ?_ (fun i H' _ h=>aM.of h.2.1) ?_ ?_
  ·exact ⟨s1.trans (aH.upd hD),(aH.upd hD) _ _ ae,[],ae,.nil⟩
  ·rintro i x H' hi ⟨s2,hl2,as,yG,lR⟩
   obtain ⟨z,hz,rfl⟩:=nE hi
   rw [List.getElem?_map,List.getElem?_map] at hz
   obtain ⟨⟨pl,r⟩,aka⟩:∃ row,rows[i]? = some row:=by
    cases e:rows[i]? with
    | none =>
     rw [e] at hz
     cases hz
    | some row=>exact ⟨row,rfl⟩
   rw [aka] at hz
   cases hz
   obtain ⟨u,hu1,a,rfl,hra⟩:=hd.at_ (KZ hu) (List.mem_of_getElem? aka)
   refine ⟨rfl,_,rfl,_,_,_,_,_,rfl,s2 _ _ hp,T.kD,T.gh,aa nM rfl rfl,_,rfl,cm,_,rfl,(by have:=jn.k (k:=Sum.inl (pl:Int)) (s2 _ _ yF); rw [hu1] at this; exact this),as.map .ref,yG,?_,?_⟩
   ·rw [List.length_map,cQ lR,List.length_map,List.length_take]
    exact Nat.lt_of_le_of_lt (Nat.min_le_right _ _) (Nat.lt_of_le_of_lt hl (by decide))
   ·have hDn:H D = none:=by
     cases e:H D with
     | none=>rfl
     | some o =>
      rw [s1 _ _ e] at hD
      cases hD
    have Wg:l ≠ D:=ay ae hD
    refine ⟨fun b o e=>?_,?_,as ++ [a],?_,?_⟩
    ·rw [ak (ay e hDn)]
     exact s2 b o e
    ·rw [ak Wg]
     exact hl2
    ·rw [List.map_append]
     exact ae
    ·rw [take_snoc aka,List.map_append]
     have k:∀ b r,i7 H' b r → i7 (upd H' D (.lst (as.map V.ref ++ [V.ref a]))) b r:=fun b r e=>by
      have:b ≠ D:=dN e yG (by intro z; cases z)
      show upd H' D _ b = _
      rw [ak this]
      exact e
     exact vD (jH lR fun b r e=>k b r e) (vC (k a r (s2 _ _ hra)))
  ·rintro H' ⟨s2,_,as,yG,lR⟩
   rw [List.length_map,List.length_map,List.length_map,List.take_length] at lR
   exact q H' D as s2 yG lR
end
end Pt
namespace Pt
open PySem PySem.Spec PyProof.Rows L2
section
variable {P:Program} {w:World} {K:W.Frag} {mg:Str → Option Value} {base:Heap} {A:bg}
theorem amc {w:Vbcnao.Switch} {v:Nat} {h:Vbcnao.Held} (e:Vbcnao.heldOf w v = some h):(Vbcnao.rulesOn w v).isSome = decide (h.rows.length = h.total):=by
 unfold Vbcnao.rulesOn
 rw [e]
 show Option.isSome (if Vbcnao.whole h = true then _ else _) = _
 unfold Vbcnao.whole
 by_cases c:h.rows.length = h.total
 ·rw [if_pos (by rw [c]; simp),decide_eq_true c]
  rfl
 ·rw [if_neg (by simpa using c),decide_eq_false c]
  rfl
noncomputable def iZ (A:bg):Sp:=fun vs H Q _=>∃ (ρ:Role → Addr) (S:SS) (i v:Nat) (w:Vbcnao.Switch),vs = [.ref (ρ (.sw i)),nV v] ∧ Wd A ρ S H ∧ S.switches[i]? = some w ∧ Q (.bl (Vbcnao.rulesOn w v).isSome) H
theorem yu (T:Txt K mg A):aD P w K mg base aC 2 A.cG A.jz ["self","version"] (iZ A):=by
 refine T.Bw.ok NJ (fun vs H Q E h=>?_) (fun au R outer s H vs Q E hr h=>?_)
 ·obtain ⟨ρ,S,i,v,w,rfl,_⟩:=h
  rfl
 ·obtain ⟨ρ,S,i,v,w,rfl,W,hi,q⟩:=h
  obtain ⟨dx,hs⟩:=W.sw hi
  obtain ⟨kvs,hd,dk⟩:=W.pd hi
  refine ⟨_,(NF T hr (D6 T)).2,?_⟩
  refine ⟨_,rfl,_,rfl,_,_,_,_,_,rfl,hs,T.cB,T.cE,aa d9 rfl rfl,_,_,rfl,jn.k (k:=Sum.inl (v:Int)) hd,_,rfl,?_⟩
  refine aZ (fun c=>?_) (fun c=>?_)
  ·cases e:Vbcnao.heldOf w v with
   | none =>
    rw [dk.isSome,cX] at c
    exact absurd (of_decide_eq_true c) (pS.mp e)
   | some h =>
    have hm:(v,()) ∈ fj (w.held.map (·.v)):=by
     have:=of_decide_eq_true (by rw [← dk.isSome]; exact c:decide (v ∈ (fj (w.held.map (·.v))).map (·.1)) = true)
     rw [cX] at this
     exact List.mem_map.mpr ⟨v,this,rfl⟩
    cases e2:iz kvs (Sum.inl (v:Int)) with
    | none =>
     rw [e2] at c
     cases c
    | some u =>
     obtain ⟨_,_,rfl⟩:=dk.some_of e2
     obtain ⟨dx2,hp⟩:=W.pt hi e
     obtain ⟨Pd,yF,EO⟩:=W.cm hi e
     refine ⟨_,rfl,_,_,_,_,_,rfl,hs,T.cB,T.cE,aa d9 rfl rfl,_,rfl,_,_,rfl,(by have:=jn.k (k:=Sum.inl (v:Int)) hd; rw [e2] at this; exact this),_,_,_,rfl,hp,aL Eb,_,dx2,_,h.total,Pd,rfl,hp,yF,?_⟩
     rw [EO.len,← amc e]
     exact q
  ·have e:Vbcnao.heldOf w v = none:=pS.mpr fun z=>c (by rw [dk.isSome,cX]; exact decide_eq_true z)
   have:(Vbcnao.rulesOn w v).isSome = false:=by
    unfold Vbcnao.rulesOn
    rw [e]
    rfl
   rw [this] at q
   exact q
noncomputable def jr (A:bg):Sp:=fun vs H Q _=>∃ (ρ:Role → Addr) (S:SS) (v:Int),vs = [.ref (ρ .cf),.int v] ∧ Wd A ρ S H ∧ Q (.bl (Vbcnao.within v 1 (S.policies.length:Int))) H
theorem AS (T:Txt K mg A):aD P w K mg base aC 1 A.bA A.g8 ["self","version"] (jr A):=by
 refine T.pF.ok AI (fun vs H Q E h=>?_) (fun au R outer s H vs Q E hr h=>?_)
 ·obtain ⟨ρ,S,v,rfl,_⟩:=h
  rfl
 ·obtain ⟨ρ,S,v,rfl,W,q⟩:=h
  obtain ⟨dx,hc⟩:=W.cf
  refine ⟨_,(AA T hr).2,?_⟩
  refine ⟨_,rfl,_,_,rfl,rfl,_,rfl,?_⟩
  refine yg (f:=fun b=>Q (.bl b) H) (fun q=>⟨_,rfl,_,_,_,_,_,rfl,hc,T.aA,T.cR,aa iW rfl rfl,_,_,rfl,.inl (aM.of W.dg),_,_,rfl,rfl,?_⟩) q
  rw [gf]
  exact q
noncomputable def gR (A:bg):Sp:=fun vs H Q _=>∃ (ρ:Role → Addr) (S:SS) (v:Int) (j:Nat),vs = [.ref (ρ .cf),.int v] ∧ Wd A ρ S H ∧ v - 1 = (j:Int) ∧ j < S.policies.length ∧ Q (.ref (ρ (.pu j))) H
theorem tN (T:Txt K mg A):aD P w K mg base aC 1 A.bW A.iw ["self","version"] (gR A):=by
 refine T.v8.ok Hj (fun vs H Q E h=>?_) (fun au R outer s H vs Q E hr h=>?_)
 ·obtain ⟨ρ,S,v,j,rfl,_⟩:=h
  rfl
 ·obtain ⟨ρ,S,v,j,rfl,W,e,hj,q⟩:=h
  obtain ⟨dx,hc⟩:=W.cf
  refine ⟨_,(G5 T hr).2,?_⟩
  exact ⟨_,rfl,_,_,_,_,_,rfl,hc,T.aA,T.cR,aa iW rfl rfl,_,rfl,_,_,rfl,rfl,_,_,_,_,rfl,rfl,aM.of W.dg,at_of e (jG hj),q⟩
theorem Fx {α:Type} {p:α → Bool} {l:List α} {i:Nat} {x:α} (h:l[i]? = some x):(l.drop i).all p = (p x && (l.drop (i + 1)).all p):=by
 rw [JX h,List.all_cons]
theorem TJ {ρ:Role → Addr} {f:Nat → Role} {n i:Nat} {y:V} (h:(refs ρ f n)[i]? = some y):i < n ∧ y = .ref (ρ (f i)):=by
 have hi:i < n:=by
  have:=(List.getElem?_eq_some_iff.mp h).1
  rw [gf] at this
  exact this
 rw [jG hi] at h
 exact ⟨hi,(Option.some.inj h).symm⟩
noncomputable def lW (A:bg):Sp:=fun vs H Q _=>∃ (ρ:Role → Addr) (S:SS) (v:Nat),vs = [.ref (ρ .cf),nV v] ∧ Wd A ρ S H ∧ Q (.bl (Vbcnao.allHave S v)) H
theorem Hr (T:Txt K mg A):aD P w K mg base aC 1 A.b8 A.jO ["self","version"] (lW A):=by
 refine T.v9.ok tG (fun vs H Q E h=>?_) (fun au R outer s H vs Q E hr h=>?_)
 ·obtain ⟨ρ,S,v,rfl,_⟩:=h
  rfl
 ·obtain ⟨ρ,S,v,rfl,W,q⟩:=h
  obtain ⟨dx,hc⟩:=W.cf
  refine ⟨_,(G6 T hr).2,?_⟩
  refine ⟨_,rfl,_,_,_,_,_,rfl,hc,T.aA,T.bD,aa cJ rfl rfl,_,rfl,⟨_,aM.of W.eS⟩,iK (K:=K) (a:=ρ .eS) (xs:=refs ρ .mm S.known.length) (fun i σ H'=>∃ u:Option V,σ = [some (.ref (ρ .cf)),some (nV v),u] ∧ H' = H ∧ Vbcnao.allHave S v = (S.known.drop i).all fun k=>k.haves.contains v)
   ⟨none,rfl,rfl,rfl⟩ (fun i σ H' _ ⟨_,_,e,_⟩=>by rw [e]; exact aM.of W.eS) ?_ ?_⟩
  ·rintro i y σ H' hi ⟨u,rfl,rfl,e⟩
   obtain ⟨fk,rfl⟩:=TJ hi
   have hk:S.known[i]? = some S.known[i]:=List.getElem?_eq_getElem fk
   obtain ⟨dx2,hm⟩:=W.mm hk
   obtain ⟨kvs,hh,dk⟩:=W.hv hk
   rw [Fx hk] at e
   refine ⟨_,rfl,_,rfl,_,_,_,_,_,rfl,hm,T.eu,T.eR,aa ku rfl rfl,_,_,rfl,jn.k (k:=Sum.inl (v:Int)) hh,_,rfl,?_⟩
   have e1:(iz kvs (Sum.inl (v:Int))).isSome = (S.known[i]).haves.contains v:=by
    rw [dk.isSome,cX,List.contains_eq_mem]
   rw [e1]
   refine aZ (fun c=>?_) (fun c=>?_)
   ·rw [Bool.not_eq_true'] at c
    rw [c,Bool.false_and] at e
    rw [e] at q
    exact q
   ·have c':(S.known[i]).haves.contains v = true:=by simpa using c
    rw [c',Bool.true_and] at e
    exact ⟨_,rfl,rfl,e⟩
  ·rintro σ H' ⟨u,rfl,rfl,e⟩
   rw [gf,List.drop_length] at e
   rw [e] at q
   exact q
noncomputable def lX (A:bg):Sp:=fun vs H Q _=>∃ (ρ:Role → Addr) (S:SS) (v:Nat),vs = [.ref (ρ .cf),nV v] ∧ Wd A ρ S H ∧ Q (.bl (S.known.all fun k=>k.gones.contains v)) H
theorem Hs (T:Txt K mg A):aD P w K mg base aC 1 A.b9 A.jP ["self","version"] (lX A):=by
 refine T.wc.ok tH (fun vs H Q E h=>?_) (fun au R outer s H vs Q E hr h=>?_)
 ·obtain ⟨ρ,S,v,rfl,_⟩:=h
  rfl
 ·obtain ⟨ρ,S,v,rfl,W,q⟩:=h
  obtain ⟨dx,hc⟩:=W.cf
  refine ⟨_,(G7 T hr).2,?_⟩
  refine ⟨_,rfl,_,_,_,_,_,rfl,hc,T.aA,T.bD,aa cJ rfl rfl,_,rfl,⟨_,aM.of W.eS⟩,iK (K:=K) (a:=ρ .eS) (xs:=refs ρ .mm S.known.length) (fun i σ H'=>∃ u:Option V,σ = [some (.ref (ρ .cf)),some (nV v),u] ∧ H' = H ∧ (S.known.all fun k=>k.gones.contains v) = (S.known.drop i).all fun k=>k.gones.contains v)
   ⟨none,rfl,rfl,rfl⟩ (fun i σ H' _ ⟨_,_,e,_⟩=>by rw [e]; exact aM.of W.eS) ?_ ?_⟩
  ·rintro i y σ H' hi ⟨u,rfl,rfl,e⟩
   obtain ⟨fk,rfl⟩:=TJ hi
   have hk:S.known[i]? = some S.known[i]:=List.getElem?_eq_getElem fk
   obtain ⟨dx2,hm⟩:=W.mm hk
   obtain ⟨kvs,hh,dk⟩:=W.gn hk
   rw [Fx hk] at e
   refine ⟨_,rfl,_,rfl,_,_,_,_,_,rfl,hm,T.eu,T.fK,aa nN rfl rfl,_,_,rfl,jn.k (k:=Sum.inl (v:Int)) hh,_,rfl,?_⟩
   have e1:(iz kvs (Sum.inl (v:Int))).isSome = (S.known[i]).gones.contains v:=by
    rw [dk.isSome,cX,List.contains_eq_mem]
   rw [e1]
   refine aZ (fun c=>?_) (fun c=>?_)
   ·rw [Bool.not_eq_true'] at c
    rw [c,Bool.false_and] at e
    rw [e] at q
    exact q
   ·have c':(S.known[i]).gones.contains v = true:=by simpa using c
    rw [c',Bool.true_and] at e
    exact ⟨_,rfl,rfl,e⟩
  ·rintro σ H' ⟨u,rfl,rfl,e⟩
   rw [gf,List.drop_length] at e
   rw [e] at q
   exact q
noncomputable def kG (A:bg):Sp:=fun vs H Q _=>∃ (ρ:Role → Addr) (S:SS) (v:Nat),vs = [.ref (ρ .cf),nV v] ∧ Wd A ρ S H ∧ Q (.bl (S.known.all fun k=>decide (v ≤ k.flipped))) H
theorem D7 (T:Txt K mg A):aD P w K mg base aC 1 A.bU A.iX ["self","version"] (kG A):=by
 refine T.sr.ok qG (fun vs H Q E h=>?_) (fun au R outer s H vs Q E hr h=>?_)
 ·obtain ⟨ρ,S,v,rfl,_⟩:=h
  rfl
 ·obtain ⟨ρ,S,v,rfl,W,q⟩:=h
  obtain ⟨dx,hc⟩:=W.cf
  refine ⟨_,(DO T hr).2,?_⟩
  refine ⟨_,rfl,_,_,_,_,_,rfl,hc,T.aA,T.bD,aa cJ rfl rfl,_,rfl,⟨_,aM.of W.eS⟩,iK (K:=K) (a:=ρ .eS) (xs:=refs ρ .mm S.known.length) (fun i σ H'=>∃ u:Option V,σ = [some (.ref (ρ .cf)),some (nV v),u] ∧ H' = H ∧ (S.known.all fun k=>decide (v ≤ k.flipped)) = (S.known.drop i).all fun k=>decide (v ≤ k.flipped))
   ⟨none,rfl,rfl,rfl⟩ (fun i σ H' _ ⟨_,_,e,_⟩=>by rw [e]; exact aM.of W.eS) ?_ ?_⟩
  ·rintro i y σ H' hi ⟨u,rfl,rfl,e⟩
   obtain ⟨fk,rfl⟩:=TJ hi
   have hk:S.known[i]? = some S.known[i]:=List.getElem?_eq_getElem fk
   obtain ⟨dx2,hm⟩:=W.mm hk
   rw [Fx hk] at e
   refine ⟨_,rfl,_,_,_,_,_,rfl,hm,T.eu,T.eA,aa kJ rfl rfl,_,rfl,_,_,rfl,rfl,_,rfl,?_⟩
   refine aZ (fun c=>?_) (fun c=>?_)
   ·have c':=of_decide_eq_true c
    rw [decide_eq_false (by omega),Bool.false_and] at e
    rw [e] at q
    exact q
   ·have c':¬ ((S.known[i].flipped:Int) < (v:Int)):=fun z=>c (decide_eq_true z)
    rw [decide_eq_true (by omega),Bool.true_and] at e
    exact ⟨_,rfl,rfl,e⟩
  ·rintro σ H' ⟨u,rfl,rfl,e⟩
   rw [gf,List.drop_length] at e
   rw [e] at q
   exact q
noncomputable def iF (A:bg):Sp:=fun vs H Q _=>∃ (ρ:Role → Addr) (S:SS),vs = [.ref (ρ .cf)] ∧ Wd A ρ S H ∧ Q (nV (Vbcnao.target S)) H
theorem wI (T:Txt K mg A):aD P w K mg base aC 2 A.cy A.i5 ["self"] (iF A):=by
 refine T.yU.ok Lc (fun vs H Q E h=>?_) (fun au R outer s H vs Q E hr h=>?_)
 ·obtain ⟨ρ,S,rfl,_⟩:=h
  rfl
 ·obtain ⟨ρ,S,rfl,W,q⟩:=h
  obtain ⟨dx,hc⟩:=W.cf
  refine ⟨_,(K2 T hr (Hr T)).2,?_⟩
  unfold Vbcnao.target at q
  refine ⟨_,rfl,_,_,_,_,_,rfl,hc,T.aA,T.b5,aa eT rfl rfl,_,rfl,?_⟩
  refine aZ (fun c=>?_) (fun c=>?_)
  ·refine ⟨_,rfl,_,_,_,rfl,hc,aL HE,_,rfl,_,_,_,_,_,rfl,hc,T.aA,T.aV,aa bu rfl rfl,_,_,rfl,rfl,ρ,S,S.inForce + 1,rfl,W,_,rfl,?_⟩
   refine aZ (fun d=>?_) (fun d=>?_)
   ·rw [if_pos ⟨c,d⟩] at q
    exact ⟨_,rfl,_,_,_,_,_,rfl,hc,T.aA,T.aV,aa bu rfl rfl,_,_,rfl,rfl,q⟩
   ·rw [if_neg fun z=>d z.2] at q
    exact ⟨_,rfl,_,_,_,_,_,rfl,hc,T.aA,T.aV,aa bu rfl rfl,q⟩
  ·rw [if_neg fun z=>c z.1] at q
   exact aZ (fun d=>absurd d (by simp)) fun _=>⟨_,rfl,_,_,_,_,_,rfl,hc,T.aA,T.aV,aa bu rfl rfl,q⟩
noncomputable def bP (A:bg):Sp:=fun vs H Q _=>∃ (ρ:Role → Addr) (S:SS) (x:Int),vs = [.ref (ρ .aF),.int x] ∧ Wd A ρ S H ∧ Q (.bl (Vbcnao.isSwitch S x)) H
theorem ae6 (S:SS) (x:Int):Vbcnao.isSwitch S x = (decide (0 ≤ x) && decide (x < (S.switches.length:Int))):=by
 unfold Vbcnao.isSwitch Vbcnao.within Vbcnao.size
 congr 1
 by_cases h:x < (S.switches.length:Int)
 ·rw [decide_eq_true h]
  exact decide_eq_true (by omega)
 ·rw [decide_eq_false h]
  exact decide_eq_false (by omega)
theorem fT (T:Txt K mg A):aD P w K mg base aC 1 A.bx A.dw ["self","x"] (bP A):=by
 refine T.Bv.ok NI (fun vs H Q E h=>?_) (fun au R outer s H vs Q E hr h=>?_)
 ·obtain ⟨ρ,S,x,rfl,_⟩:=h
  rfl
 ·obtain ⟨ρ,S,x,rfl,W,q⟩:=h
  obtain ⟨dx,hw⟩:=W.aF
  refine ⟨_,(ND T hr).2,?_⟩
  rw [ae6] at q
  refine ⟨_,rfl,_,_,rfl,rfl,_,rfl,?_⟩
  refine yg (f:=fun b=>Q (.bl b) H) (fun q=>⟨_,rfl,_,_,_,_,_,rfl,hw,T.aB,T.cN,aa fP rfl rfl,_,_,rfl,.inl (aM.of W.iC),_,_,rfl,rfl,?_⟩) q
  rw [gf]
  exact q
noncomputable def m7 (A:bg):Sp:=fun vs H Q _=>∃ (ρ:Role → Addr) (S:SS) (ps:PL),vs = [.ref (ρ .aF)] ∧ Wh A ρ S H ps ∧ Q (.bl (decide (S.room ≤ S.packets.length))) H
theorem Js (T:Txt K mg A):aD P w K mg base aC 1 A.cC A.j6 ["self"] (m7 A):=by
 refine T.yp.ok IZ (fun vs H Q E h=>?_) (fun au R outer s H vs Q E hr h=>?_)
 ·obtain ⟨ρ,S,ps,rfl,_⟩:=h
  rfl
 ·obtain ⟨ρ,S,ps,rfl,W,q⟩:=h
  obtain ⟨dx,hw⟩:=W.wd.aF
  refine ⟨_,(IS T hr).2,?_⟩
  refine ⟨_,rfl,_,_,_,_,_,rfl,hw,T.aB,T.cT,aa gq rfl rfl,_,_,rfl,.inl (aM.of W.pk.lst),_,rfl,_,_,_,_,_,rfl,hw,T.aB,T.lH,aa aa3 rfl rfl,_,_,rfl,rfl,?_⟩
  rw [List.length_map,cQ W.pk.at_]
  have e:decide ((S.room:Int) ≤ (S.packets.length:Int)) = decide (S.room ≤ S.packets.length):=by simp
  rw [← e] at q
  exact q
noncomputable def sy (A:bg):Sp:=fun vs H Q _=>∃ (ρ:Role → Addr) (S:SS) (r:Addr) (zs:List Int),vs = [.ref (ρ .aF),.ref r] ∧ Wd A ρ S H ∧ H r = some (.lst (zs.map .int)) ∧ Q (.bl (decide (1 ≤ zs.length) && (decide (zs.length ≤ 8) && zs.all fun x=>Vbcnao.isSwitch S x))) H
theorem R0 (T:Txt K mg A):aD P w K mg base aC 2 A.dI A.oQ ["world","route"] (sy A):=by
 refine T.vj.ok CU (fun vs H Q E h=>?_) (fun au R outer s H vs Q E hr h=>?_)
 ·obtain ⟨ρ,S,r,zs,rfl,_⟩:=h
  rfl
 ·obtain ⟨ρ,S,r,zs,rfl,W,hz,q⟩:=h
  obtain ⟨dx,hw⟩:=W.aF
  refine ⟨_,(RP T hr (fT T)).2,?_⟩
  have e1:decide ((1:Int) ≤ ((zs.map V.int).length:Int)) = decide (1 ≤ zs.length):=by
   rw [List.length_map]
   by_cases h:1 ≤ zs.length
   ·rw [decide_eq_true h]
    exact decide_eq_true (by omega)
   ·rw [decide_eq_false h]
    exact decide_eq_false (by omega)
  have e2:decide (((zs.map V.int).length:Int) ≤ 8) = decide (zs.length ≤ 8):=by
   rw [List.length_map]
   by_cases h:zs.length ≤ 8
   ·rw [decide_eq_true h]
    exact decide_eq_true (by omega)
   ·rw [decide_eq_false h]
    exact decide_eq_false (by omega)
  refine ⟨_,rfl,_,_,rfl,.inl (aM.of hz),_,_,rfl,rfl,_,rfl,?_⟩
  rw [e1]
  refine aZ (fun c=>?_) (fun c=>?_)
  ·refine ⟨_,_,rfl,rfl,_,rfl,?_⟩
   rw [e2]
   refine aZ (fun d=>?_) (fun d=>?_)
   ·have d':decide (zs.length ≤ 8) = false:=by simpa using d
    rw [d',Bool.false_and,Bool.and_false] at q
    exact q
   ·have d':decide (zs.length ≤ 8) = true:=by simpa using d
    rw [c,d',Bool.true_and,Bool.true_and] at q
    refine ⟨_,rfl,_,rfl,⟨_,aM.of hz⟩,iK (K:=K) (a:=r) (xs:=zs.map V.int) (fun i σ H'=>∃ u:Option V,σ = [some (.ref (ρ .aF)),some (.ref r),u] ∧ H' = H ∧ (zs.all fun x=>Vbcnao.isSwitch S x) = (zs.drop i).all fun x=>Vbcnao.isSwitch S x)
     ⟨none,rfl,rfl,rfl⟩ (fun i σ H' _ ⟨_,_,e,_⟩=>by rw [e]; exact aM.of hz) ?_ ?_⟩
    ·rintro i y σ H' hi ⟨u,rfl,rfl,e⟩
     obtain ⟨z,hzi,rfl⟩:=nE hi
     rw [Fx hzi] at e
     refine ⟨_,rfl,_,_,_,rfl,hw,aL fU,_,rfl,ρ,S,z,rfl,W,_,rfl,?_⟩
     refine aZ (fun f=>?_) (fun f=>?_)
     ·rw [Bool.not_eq_true'] at f
      rw [f,Bool.false_and] at e
      rw [e] at q
      exact q
     ·have f':Vbcnao.isSwitch S z = true:=by simpa using f
      rw [f',Bool.true_and] at e
      exact ⟨_,rfl,rfl,e⟩
    ·rintro σ H' ⟨u,rfl,rfl,e⟩
     rw [List.length_map,List.drop_length] at e
     rw [e] at q
     exact q
  ·have c':decide (1 ≤ zs.length) = false:=by simpa using c
   rw [c',Bool.false_and] at q
   exact ⟨_,rfl,aZ (fun _=>q) fun d=>absurd rfl d⟩
end
end Pt
namespace Pt
open PySem PySem.Spec PyProof.Rows L2
theorem Own.of {ρ:Role → Addr} {S S':SS} (h:∀ r,live S' r → live S r) {b:Addr}:Own ρ S' b → Own ρ S b:=fun ⟨r,l,e⟩=>⟨r,h r l,e⟩
theorem wQ {S:SS} {i:Nat} {r:Role}:live (Vbcnao.counted S i) r ↔ live S r:=by cases r <;> exact Iff.rfl
theorem eY {ρ:Role → Addr} {S:SS} {i:Nat} {b:Addr}:Own ρ (Vbcnao.counted S i) b ↔ Own ρ S b:=⟨.of fun _=>wQ.mp,.of fun _=>wQ.mpr⟩
theorem six {l:List Nat} (h:l.length = 6):∃ a b c d e f,l = [a,b,c,d,e,f]:=by
 match l,h with
 | [a,b,c,d,e,f],_=>exact ⟨a,b,c,d,e,f,rfl⟩
theorem YS {S:SS} (h:S.counts.length = 6) {i:Nat} (h1:1 ≤ i) (h4:i ≤ 4):iz (cntK S) (Sum.inl (i:Int)) = some (nV (S.counts.getD (i + 1) 0)):=by
 obtain ⟨a,b,c,d,e,f,hc⟩:=six h
 unfold cntK
 rw [hc]
 match i,h1,h4 with
 | 1,_,_=>rfl
 | 2,_,_=>rfl
 | 3,_,_=>rfl
 | 4,_,_=>rfl
theorem agh {S:SS} (h:S.counts.length = 6) {i:Nat} (h1:1 ≤ i) (h4:i ≤ 4):putK (cntK S) (Sum.inl (i:Int)) (.int (((S.counts.getD (i + 1) 0:Nat):Int) + 1)) = cntK (Vbcnao.counted S (i + 1)):=by
 obtain ⟨a,b,c,d,e,f,hc⟩:=six h
 unfold cntK Vbcnao.counted
 rw [hc]
 match i,h1,h4 with
 | 1,_,_=>rfl
 | 2,_,_=>rfl
 | 3,_,_=>rfl
 | 4,_,_=>rfl
theorem aoU {ρ:Role → Addr} {S:SS} (h:S.counts.length = 6) {i:Nat} (h1:1 ≤ i) (h4:i ≤ 4):dD ρ (Vbcnao.counted S (i + 1)) = dD ρ S:=by
 obtain ⟨a,b,c,d,e,f,hc⟩:=six h
 unfold dD Vbcnao.counted
 rw [hc]
 match i,h1,h4 with
 | 1,_,_=>rfl
 | 2,_,_=>rfl
 | 3,_,_=>rfl
 | 4,_,_=>rfl
theorem aoV {S:SS} (h:S.counts.length = 6) {i:Nat} (h1:i ≤ 1):cntK (Vbcnao.counted S i) = cntK S:=by
 obtain ⟨a,b,c,d,e,f,hc⟩:=six h
 unfold cntK Vbcnao.counted
 rw [hc]
 match i,h1 with
 | 0,_=>rfl
 | 1,_=>rfl
section
variable {A:bg} {ρ:Role → Addr} {S:SS} {H:Hp}
theorem Wd.reason (ne:oq A) (W:Wd A ρ S H) (h:S.counts.length = 6) {i:Nat} (h1:1 ≤ i) (h4:i ≤ 4):dM A ρ S H ρ (Vbcnao.counted S (i + 1)) (upd H (ρ .cnt) (.dK (cntK (Vbcnao.counted S (i + 1))))):=by
 refine W.put ne .cnt trivial (fun r l=>wQ.mp l) (fun r o' hr l x=>?_) rfl
 cases r with
 | cnt=>exact absurd rfl hr
 | aF =>
  obtain ⟨dx,e⟩:=x
  exact ⟨dx,by rw [aoU h h1 h4]; exact e⟩
 | _=>exact x
theorem Wd.akB (ne:oq A) (W:Wd A ρ S H) (h:S.counts.length = 6) {i:Nat} (h1:i ≤ 1) (dx:Addr):dM A ρ S H ρ (Vbcnao.counted S i) (upd H (ρ .aF) (.ins A.aN dx (dD ρ (Vbcnao.counted S i)))):=by
 refine W.put ne .aF trivial (fun r l=>wQ.mp l) (fun r o' hr l x=>?_) ⟨dx,rfl⟩
 cases r with
 | aF=>exact absurd rfl hr
 | cnt=>exact x.trans (by rw [aoV h h1])
 | _=>exact x
theorem aeW (h:S.counts.length = 6):bz "entered" (.int (((S.counts.getD 0 0:Nat):Int) + 1)) (dD ρ S) = dD ρ (Vbcnao.counted S 0):=by
 obtain ⟨a,b,c,d,e,f,hc⟩:=six h
 rw [show bz "entered" (.int (((S.counts.getD 0 0:Nat):Int) + 1)) (dD ρ S) = _ from gH uQ rfl (by decide)]
 unfold dD Vbcnao.counted
 rw [hc]
 rfl
theorem aaI (h:S.counts.length = 6):bz "delivered" (.int (((S.counts.getD 1 0:Nat):Int) + 1)) (dD ρ S) = dD ρ (Vbcnao.counted S 1):=by
 obtain ⟨a,b,c,d,e,f,hc⟩:=six h
 rw [show bz "delivered" (.int (((S.counts.getD 1 0:Nat):Int) + 1)) (dD ρ S) = _ from gH qV rfl (by decide)]
 unfold dD Vbcnao.counted
 rw [hc]
 rfl
end
theorem gQ {S:SS} {x:Nat} (h:x < S.switches.length):S.switches[x]? = some (Vbcnao.switchAt S x):=by
 unfold Vbcnao.switchAt
 rw [List.getD_eq_getElem?_getD,List.getElem?_eq_getElem h]
 rfl
theorem l6 {S:SS} {x:Nat} (h:x < S.known.length):S.known[x]? = some (Vbcnao.knownAt S x):=by
 unfold Vbcnao.knownAt
 rw [List.getD_eq_getElem?_getD,List.getElem?_eq_getElem h]
 rfl
theorem akm (S:SS) (p:Vbcnao.Packet) (x:Nat):Vbcnao.fares S p x ≤ 3:=by
 unfold Vbcnao.fares
 split
 ·exact Nat.le_refl _
 ·split
  ·decide
  ·split <;> decide
section
variable {P:Program} {w:World} {K:W.Frag} {mg:Str → Option Value} {base:Heap} {A:bg}
theorem Wd.part {ρ:Role → Addr} {S:SS} {H:Hp} (W:Wd A ρ S H) {i v:Nat} {w:Vbcnao.Switch} {h:Vbcnao.Held} (hi:S.switches[i]? = some w) (e:Vbcnao.heldOf w v = some h) (hu:Up (w.held.map (·.v))) :
  ∃ kvs,H (ρ (.pd i)) = some (.dK kvs) ∧ iz kvs (Sum.inl (v:Int)) = some (.ref (ρ (.pt i v))):=by
 obtain ⟨kvs,hd,dk⟩:=W.pd hi
 have hm:(v,()) ∈ fj (w.held.map (·.v)):=by
  obtain ⟨e1,e2⟩:=mq e
  exact List.mem_map.mpr ⟨v,List.mem_map.mpr ⟨h,e2,e1⟩,rfl⟩
 obtain ⟨u,e2,rfl⟩:=dk.at_ (by rw [cX]; exact KZ hu) hm
 exact ⟨kvs,hd,e2⟩
noncomputable def Xm (A:bg):Sp:=fun vs H Q _=>∃ (ρ:Role → Addr) (S:SS) (q:Addr × Addr) (p:Vbcnao.Packet) (x c:Nat),vs = [.ref (ρ .aF),.ref q.1,nV x] ∧ Wd A ρ S H ∧ Good c S ∧ CH A H q p ∧ x < S.switches.length ∧ ∀ H',aH H H' → Q (nV (Vbcnao.fares S p x)) H'
theorem alC (T:Txt K mg A):aD P w K mg base aC 3 A.rA A.WE ["world","packet","x"] (Xm A):=by
 refine T.aeN.ok afw (fun vs H Q E h=>?_) (fun au R outer s H vs Q E hr h=>?_)
 ·obtain ⟨ρ,S,q,p,x,c,rfl,_⟩:=h
  rfl
 ·obtain ⟨ρ,S,q,p,x,c,rfl,W,G,pk,hx,k⟩:=h
  obtain ⟨dx,hw⟩:=W.aF
  obtain ⟨Qa,hk⟩:=pk.ins
  have hi:=gQ hx
  obtain ⟨vP,hs⟩:=W.sw hi
  refine ⟨_,(ak1 T hr (yu T) (ON T) (Hq T)).2,?_⟩
  unfold Vbcnao.fares at k
  refine ⟨_,rfl,_,_,_,_,_,rfl,hk,T.dP,T.jf,aa JR rfl rfl,_,rfl,_,_,_,_,_,rfl,hw,T.aB,T.jT,aa MR rfl rfl,_,_,rfl,rfl,_,rfl,_,_,_,_,_,rfl,hw,T.aB,T.fz,aa ju rfl rfl,_,_,rfl,rfl,_,rfl,?_⟩
  refine aZ (fun d=>?_) (fun d=>?_)
  ·have d':=of_decide_eq_true d
   have d2:p.born + S.life ≤ S.now:=by omega
   rw [if_pos d2] at k
   exact k H fun _ _ e=>e
  ·have d2:¬ p.born + S.life ≤ S.now:=fun z=>d (decide_eq_true (by omega))
   rw [if_neg d2] at k
   refine ⟨_,rfl,_,_,_,_,_,rfl,hw,T.aB,T.cN,aa fP rfl rfl,_,rfl,_,_,_,_,rfl,rfl,aM.of W.iC,gP (jG hx),?_⟩
   refine ⟨_,rfl,_,_,_,rfl,hs,aL yw,_,rfl,_,_,_,_,_,rfl,hk,T.dP,T.gJ,aa xh rfl rfl,ρ,S,x,p.stamp,_,rfl,W,hi,_,rfl,?_⟩
   cases e:Vbcnao.rulesOn (Vbcnao.switchAt S x) p.stamp with
   | none =>
    rw [e] at k
    exact l7 (k H fun _ _ e=>e)
   | some l =>
    rw [e] at k
    refine uS ?_
    obtain ⟨h,e1,Gk,rfl⟩:∃ h,Vbcnao.heldOf (Vbcnao.switchAt S x) p.stamp = some h ∧ Vbcnao.whole h = true ∧ l = h.rows.map (·.2):=by
     unfold Vbcnao.rulesOn at e
     cases e1:Vbcnao.heldOf (Vbcnao.switchAt S x) p.stamp with
     | none =>
      rw [e1] at e
      cases e
     | some h =>
      rw [e1] at e
      by_cases c:Vbcnao.whole h = true
      ·exact ⟨h,rfl,c,by simpa [c] using e.symm⟩
      ·simp [c] at e
    have gw:=G.sw _ (iD hx)
    obtain ⟨kvs,hd,hv⟩:=W.part hi e1 gw.up
    obtain ⟨sj,hp⟩:=W.pt hi e1
    obtain ⟨Pd,yF,EO⟩:=W.cm hi e1
    refine ⟨_,rfl,_,_,_,_,_,rfl,hs,T.cB,T.cE,aa d9 rfl rfl,_,rfl,_,_,_,_,_,rfl,hk,T.dP,T.gJ,aa xh rfl rfl,_,_,rfl,(by have:=jn.k (k:=Sum.inl (p.stamp:Int)) hd; rw [hv] at this; exact this),_,_,_,rfl,hp,aL HD,_,sj,_,_,Pd,h.rows,rfl,hp,yF,EO,
     (gw.rows h (mq e1).2).1,G.ajz (iD hx) (mq e1).2,fun H1 D as s1 hD PK=>?_⟩
    refine ⟨_,rfl,_,rfl,_,_,_,_,_,rfl,s1 _ _ hk,T.dP,T.jV,aa MT rfl rfl,D,as,h.rows.map (·.2),x,p.key,rfl,hD,PK,fun H2 s2=>?_⟩
    refine ⟨rfl,_,rfl,?_⟩
    have k2:=k H2 (s1.trans s2)
    dsimp only at k2
    cases e3:Vbcnao.says (h.rows.map (·.2)) x p.key with
    | true =>
     rw [e3] at k2
     exact l7 k2
    | false =>
     rw [e3] at k2
     exact uS k2
noncomputable def DU (A:bg):Sp:=fun vs H Q _=>∃ (ρ:Role → Addr) (S:SS) (q:Addr × Addr) (p:Vbcnao.Packet) (x c:Nat),vs = [.ref (ρ .aF),.ref q.1] ∧ Wd A ρ S H ∧ Good c S ∧ CH A H q p ∧ ¬ Own ρ S q.1 ∧ ¬ Own ρ S q.2 ∧
 p.route[p.done]? = some x ∧ x < S.switches.length ∧
 (Vbcnao.fares S p x ≠ 0 → ∀ H',Wd A ρ (Vbcnao.counted S (Vbcnao.fares S p x + 1)) H' → (∀ b o,H b = some o → ¬ Own ρ S b → H' b = some o) → Q (nV (Vbcnao.fares S p x)) H') ∧
 (Vbcnao.fares S p x = 0 → ∀ H',Wd A ρ (if p.route.length ≤ p.done + 1 then Vbcnao.counted S 1 else S) H' → CH A H' q { p with done:=p.done + 1 } → (∀ b o,H b = some o → ¬ Own ρ S b → b ≠ q.1 → H' b = some o) → Q (nV (if p.route.length ≤ p.done + 1 then 5 else 0)) H')
theorem acN (T:Txt K mg A):aD P w K mg base aC 4 A.lI A.J6 ["world","packet"] (DU A):=by
 refine T.RN.ok acn (fun vs H Q E h=>?_) (fun au R outer s H vs Q E hr h=>?_)
 ·obtain ⟨ρ,S,q,p,x,c,rfl,_⟩:=h
  rfl
 ·obtain ⟨ρ,S,q,p,x,c,rfl,W,G,pk,no1,no2,hx,hxn,k1,k2⟩:=h
  obtain ⟨Qa,hk⟩:=pk.ins
  refine ⟨_,(ajf T hr (alC T)).2,?_⟩
  refine ⟨_,rfl,_,rfl,_,rfl,_,_,_,_,_,rfl,hk,T.dP,T.fW,aa qm rfl rfl,_,rfl,_,_,_,_,_,rfl,hk,T.dP,T.fh,aa kI rfl rfl,_,_,_,_,rfl,rfl,aM.of pk.rt,gP (v:=nV x) (by rw [List.getElem?_map,hx]; rfl),ρ,S,q,p,x,c,rfl,W,G,pk,hxn,fun H1 s1=>?_⟩
  have W1:=(W.same s1).wd
  obtain ⟨dx,hw⟩:=W1.aF
  have hl3:=akm S p x
  refine ⟨_,rfl,rfl,_,rfl,?_⟩
  refine aZ (fun d=>?_) (fun d=>?_)
  ·have d':Vbcnao.fares S p x ≠ 0:=fun z=>by
    rw [z] at d
    simp [nV] at d
   refine ⟨_,rfl,_,_,_,_,_,rfl,hw,T.aB,T.di,aa j3 rfl rfl,_,rfl,_,_,rfl,(by have:=jn.k (k:=Sum.inl (Vbcnao.fares S p x:Int)) W1.cnt; rw [YS G.cnt (by omega) (by omega)] at this; exact this),_,_,rfl,rfl,_,FP.k (k:=Sum.inl (Vbcnao.fares S p x:Int)) W1.cnt (by show 4 < sizeLine; decide),?_⟩
   rw [agh G.cnt (by omega) (by omega)]
   have st:=W1.reason T.gS G.cnt (i:=Vbcnao.fares S p x) (by omega) (by omega)
   exact ⟨_,rfl,k1 d' _ st.wd fun b o e n=>st.keep b o (s1 b o e) n⟩
  ·have d':Vbcnao.fares S p x = 0:=Classical.byContradiction fun z=>d (by
    have:¬ (nV (Vbcnao.fares S p x) = V.int 0):=fun y=>z (by unfold nV at y; injection y with y; omega)
    simp [this])
   have SJ:=s1 _ _ hk
   have Um:=s1 _ _ pk.rt
   refine ⟨_,rfl,_,_,_,_,_,rfl,SJ,T.dP,T.fh,aa kI rfl rfl,_,_,rfl,rfl,_,_,SJ,(mZ rfl (by decide)),?_⟩
   have e:bz "passed" (V.int ((p.done:Int) + 1)) (XI q.2 p) = XI q.2 { p with done:=p.done + 1 }:=gH kI rfl (by decide)
   rw [e]
   have hrq:q.2 ≠ q.1:=dN Um SJ (by intro z; cases z)
   have W2:Wd A ρ S (upd H1 q.1 (.ins A.bX Qa (XI q.2 { p with done:=p.done + 1 }))):=by
    refine W1.Kr (fun b hb=>ak fun z=>no1 (z ▸ hb)) fun a o im ea=>?_
    have:a ≠ q.1:=fun z=>by
     subst z
     rw [SJ] at ea
     cases ea
     exact T.V2 im
    rw [ak this]
    exact ea
   have pk2:CH A (upd H1 q.1 (.ins A.bX Qa (XI q.2 { p with done:=p.done + 1 }))) q { p with done:=p.done + 1 }:=⟨⟨Qa,ae⟩,by rw [ak hrq]; exact Um⟩
   have kp:∀ b o,H b = some o → ¬ Own ρ S b → b ≠ q.1 → upd H1 q.1 (.ins A.bX Qa (XI q.2 { p with done:=p.done + 1 })) b = some o:=fun b o e _ n=>by
    rw [ak n]
    exact s1 b o e
   obtain ⟨aqG,hk2⟩:=pk2.ins
   have k2:=k2 d'
   refine ⟨_,rfl,_,_,_,_,_,rfl,hk2,T.dP,T.fh,aa kI rfl rfl,_,rfl,_,_,_,_,_,rfl,hk2,T.dP,T.fW,aa qm rfl rfl,_,_,rfl,.inl (aM.of pk2.rt),rfl,_,rfl,?_⟩
   have fk:p.done < p.route.length:=(List.getElem?_eq_some_iff.mp hx).1
   have e2:decide (nV (p.done + 1) = V.int (((p.route.map nV).length:Nat):Int)) = decide (p.route.length ≤ p.done + 1):=by
    rw [List.length_map,show decide (nV (p.done + 1) = V.int ((p.route.length:Nat):Int)) = decide (p.done + 1 = p.route.length) from kR _ _]
    by_cases z:p.done + 1 = p.route.length
    ·rw [decide_eq_true z]
     exact (decide_eq_true (by omega)).symm
    ·rw [decide_eq_false z]
     exact (decide_eq_false (by omega)).symm
   show if decide (nV (p.done + 1) = V.int (((p.route.map nV).length:Nat):Int)) = true then _ else _
   rw [e2]
   obtain ⟨dx2,hw2⟩:=W2.aF
   refine aZ (fun c=>?_) (fun c=>?_)
   ·have c':=of_decide_eq_true c
    rw [if_pos c',if_pos c'] at k2
    refine ⟨_,rfl,_,_,_,_,_,rfl,hw2,T.aB,T.gg,aa qV rfl rfl,_,_,rfl,rfl,_,_,hw2,(mZ rfl (by decide)),?_⟩
    have e3:=aaI (ρ:=ρ) G.cnt
    unfold nV at e3 ⊢
    rw [e3]
    have st:=W2.akB T.gS G.cnt (i:=1) (Nat.le_refl _) dx2
    refine k2 _ st.wd ⟨⟨Qa,?_⟩,st.keep _ _ pk2.rt no2⟩ fun b o e n n2=>st.keep b o (kp b o e n n2) n
    exact st.keep _ _ ae no1
   ·have c':¬ p.route.length ≤ p.done + 1:=fun z=>c (decide_eq_true z)
    rw [if_neg c',if_neg c'] at k2
    exact k2 _ W2 pk2 kp
end
end Pt
namespace Pt
open PySem PySem.Spec PyProof.Rows L2
section
variable {A:bg} {ρ:Role → Addr} {S S':SS} {H H':Hp} {ps:PL}
theorem A0 {l:List Vbcnao.Packet} {r:Role}:live { S with packets:=l } r ↔ live S r:=by cases r <;> exact Iff.rfl
theorem iH {l:List Vbcnao.Packet} {b:Addr}:Own ρ { S with packets:=l } b ↔ Own ρ S b:=⟨.of fun _=>A0.mp,.of fun _=>A0.mpr⟩
theorem Wd.ajI (W:Wd A ρ S H) (l:List Vbcnao.Packet):Wd A ρ { S with packets:=l } H :=
 ⟨fun r r' h h'=>W.inj r r' (A0.mp h) (A0.mp h'),fun r h=>let ⟨o,e,x⟩:=W.ob r (A0.mp h); ⟨o,e,by cases r <;> exact x⟩⟩
theorem Rn.keep (k:Rn A ρ S H ps) (h:∀ b o,H b = some o → ¬ Own ρ S b → H' b = some o) (hl:∀ b,Own ρ S' b → Own ρ S b) (e:S'.packets = S.packets):Rn A ρ S' H' ps where
 lst:=h _ _ k.lst k.no
 at_:=by
  rw [e]
  exact uI k.at_ fun q p hq r=>⟨let ⟨dx,z⟩:=r.ins; ⟨dx,h _ _ z (k.n8 q hq).1⟩,h _ _ r.rt (k.n8 q hq).2⟩
 nd:=k.nd
 nr:=k.nr
 no:=fun z=>k.no (hl _ z)
 n8:=fun q hq=>⟨fun z=>(k.n8 q hq).1 (hl _ z),fun z=>(k.n8 q hq).2 (hl _ z)⟩
theorem Wd.afF (ne:A.bX ≠ A.aU) (W:Wd A ρ S H) (no:¬ Own ρ S (ρ .eX)) {xs:List V} (hx:H (ρ .eX) = some (.lst xs)) (ys:List V):Wd A ρ S (upd H (ρ .eX) (.lst ys)):=by
 refine W.Kr (fun b hb=>ak fun z=>no (z ▸ hb)) fun a o im ea=>?_
 have:a ≠ ρ .eX:=fun z=>by
  subst z
  rw [hx] at ea
  cases ea
  exact im
 rw [ak this]
 exact ea
theorem ae3 {α:Type} {l:List α} (h:l.Nodup) (i:Nat):(l.eraseIdx i).Nodup:=List.Pairwise.sublist (List.eraseIdx_sublist _ _) h
theorem qR {α β:Type} (f:α → β):∀ (l:List α) (i:Nat),(l.eraseIdx i).map f = (l.map f).eraseIdx i
 | [],_=>rfl
 | _ :: _,0=>rfl
 | x :: l,i + 1=>congrArg (List.cons (f x)) (qR f l i)
end
noncomputable def fX (A:bg) (f:SS → List Int → SS × List Int) (pre:List Int → Prop):Sp:=fun vs H Q _=>∃ (ρ:Role → Addr) (S:SS) (ps:PL) (g:Addr) (given:List Int) (c:Nat),vs = [.ref (ρ .aF),.ref g] ∧ Wh A ρ S H ps ∧ Good c S ∧ c ≤ 400 ∧
 H g = some (.lst (given.map .int)) ∧ ¬ iU ρ S ps g ∧ (∀ z ∈ given,-(2 ^ 63) ≤ z ∧ z < 2 ^ 63) ∧ pre given ∧
 ∀ ρ' j8 H' p,kX A ρ S H ps ρ' (f S given).1 H' j8 → (∀ b o,H b = some o → ¬ iU ρ S ps b → b ≠ p) → H' p = some (.lst ((f S given).2.map .int)) → Q (.ref p) H'
section
variable {P:Program} {w:World} {K:W.Frag} {mg:Str → Option Value} {base:Heap} {A:bg}
theorem aiR (S:SS) (key x:Nat) (l:List Nat):Vbcnao.enters S key (x :: l) =
  if (Vbcnao.switchAt S x).current = 0 then (Vbcnao.counted (Vbcnao.counted S 0) 5,4)
  else if Vbcnao.fares (Vbcnao.counted S 0) ⟨key,x :: l,0,(Vbcnao.switchAt S x).current,S.now⟩ x ≠ 0 then
   (Vbcnao.counted (Vbcnao.counted S 0) (Vbcnao.fares (Vbcnao.counted S 0) ⟨key,x :: l,0,(Vbcnao.switchAt S x).current,S.now⟩ x + 1),Vbcnao.fares (Vbcnao.counted S 0) ⟨key,x :: l,0,(Vbcnao.switchAt S x).current,S.now⟩ x)
  else if l = [] then (Vbcnao.counted (Vbcnao.counted S 0) 1,5)
  else ({ Vbcnao.counted S 0 with packets:=S.packets ++ [⟨key,x :: l,1,(Vbcnao.switchAt S x).current,(Vbcnao.counted S 0).now⟩] },0):=rfl
noncomputable def N2 (A:bg):Sp:=fun vs H Q _=>∃ (ρ:Role → Addr) (S:SS) (ps:PL) (key:Nat) (rt:Addr) (x:Nat) (l:List Nat) (c:Nat),vs = [.ref (ρ .aF),nV key,.ref rt] ∧ Wh A ρ S H ps ∧ Good c S ∧ H rt = some (.lst ((x :: l).map nV)) ∧ ¬ iU ρ S ps rt ∧
 (∀ y ∈ x :: l,y < S.switches.length) ∧ S.packets.length < S.room ∧
 ∀ H' j8,Wh A ρ (Vbcnao.enters S key (x :: l)).1 H' j8 → (∀ b o,H b = some o → ¬ iU ρ S ps b → H' b = some o) → (∀ b,iU ρ (Vbcnao.enters S key (x :: l)).1 j8 b → iU ρ S ps b ∨ H b = none ∨ b = rt) → Q (nV (Vbcnao.enters S key (x :: l)).2) H'
theorem ais (T:Txt K mg A):aD P w K mg base aC 5 A.kQ A.L3 ["world","key","route"] (N2 A):=by
 refine T.UZ.ok Zt (fun vs H Q E h=>?_) (fun au R outer s H vs Q E hr h=>?_)
 ·obtain ⟨ρ,S,ps,key,rt,x,l,c,rfl,_⟩:=h
  rfl
 ·obtain ⟨ρ,S,ps,key,rt,x,l,c,rfl,cP,G,hrt,nrt,hsw,akN,k⟩:=h
  have W:=cP.wd
  obtain ⟨dx,hw⟩:=W.aF
  have hx:x < S.switches.length:=hsw x (List.mem_cons_self ..)
  refine ⟨_,(ahZ T hr (XU T) (acN T)).2,?_⟩
  refine ⟨_,rfl,_,_,_,_,_,rfl,hw,T.aB,T.hU,aa uQ rfl rfl,_,_,rfl,rfl,_,_,hw,(mZ rfl (by decide)),?_⟩
  have e0:=aeW (ρ:=ρ) G.cnt
  unfold nV at e0 ⊢
  rw [e0]
  have st:=W.akB T.gS G.cnt (i:=0) (Nat.zero_le _) dx
  have G0:=G.counted 0
  have N1:=cP.CQ st rfl
  have Um:=N1.keep _ _ hrt nrt
  have W1:=st.wd
  have k1:=N1.wh.pk
  obtain ⟨dx1,Gk⟩:=W1.aF
  have hi:(Vbcnao.counted S 0).switches[x]? = some (Vbcnao.switchAt S x):=gQ hx
  obtain ⟨vP,hs⟩:=W1.sw hi
  rw [aiR] at k
  refine ⟨_,rfl,_,_,_,_,_,rfl,Gk,T.aB,T.cN,aa fP rfl rfl,_,rfl,_,_,_,_,rfl,rfl,aM.of Um,at_of (j:=0) rfl rfl,_,_,_,_,rfl,rfl,aM.of W1.iC,gP (jG hx),_,_,_,_,_,rfl,hs,T.cB,T.eI,aa mQ rfl rfl,?_⟩
  refine ⟨_,rfl,rfl,_,rfl,?_⟩
  have ec:decide (nV (Vbcnao.switchAt S x).current = V.int 0) = decide ((Vbcnao.switchAt S x).current = 0):=kR _ 0
  show if decide (nV (Vbcnao.switchAt S x).current = V.int 0) = true then _ else _
  rw [ec]
  refine aZ (fun d=>?_) (fun d=>?_)
  ·have d':=of_decide_eq_true d
   rw [if_pos d'] at k
   refine ⟨_,rfl,_,_,_,_,_,rfl,Gk,T.aB,T.di,aa j3 rfl rfl,_,_,rfl,(by have:=jn.k (k:=Sum.inl ((4:Nat):Int)) W1.cnt; rw [YS G0.cnt (by omega) (by omega)] at this; exact this),_,_,rfl,rfl,_,FP.k (k:=Sum.inl ((4:Nat):Int)) W1.cnt (by show 4 < sizeLine; decide),?_⟩
   rw [agh G0.cnt (by omega) (by omega)]
   have c7:=N1.trans (N1.wh.CQ (W1.reason T.gS G0.cnt (i:=4) (by omega) (by omega)) rfl)
   exact k _ _ c7.wh c7.keep fun b hb=>(c7.grow b hb).elim .inl fun z=>.inr (.inl z)
  ·have d':¬ (Vbcnao.switchAt S x).current = 0:=fun z=>d (decide_eq_true z)
   rw [if_neg d'] at k
   refine ⟨_,rfl,_,rfl,_,rfl,_,rfl,_,_,_,_,_,rfl,Gk,T.aB,T.fz,aa ju rfl rfl,fun xk Qa nxk apD nek=>⟨xk,Qa,_,_,_,_,rfl,ae,rfl,?_⟩⟩
   rw [dO]
   have s2:aH _ (nB _ xk Qa A.bX (qO.zip [.int (key:Int),.ref rt,.int 0,.int ((Vbcnao.switchAt S x).current:Int),.int (S.now:Int)])):=aH.nB (H:=upd H (ρ .aF) (.ins A.aN dx (dD ρ (Vbcnao.counted S 0)))) nxk apD
   have W2:=(W1.same s2).wd
   have cD:=W1.afJ nxk
   have amZ:¬ Own ρ (Vbcnao.counted S 0) rt:=fun z=>nrt (.inl (eY.mp z))
   have pk0:CH A _ (xk,rt) ⟨key,x :: l,0,(Vbcnao.switchAt S x).current,S.now⟩:=⟨⟨Qa,aiE⟩,s2 _ _ Um⟩
   refine ⟨_,rfl,_,rfl,ρ,Vbcnao.counted S 0,(xk,rt),_,x,c,rfl,W2,G0,pk0,cD,amZ,rfl,hx,fun f0 H4 W4 JI=>?_,fun f0 H4 W4 pk4 JI=>?_⟩
   ·
    rw [if_pos f0] at k
    refine ⟨_,rfl,rfl,_,rfl,?_⟩
    refine aZ (fun z=>absurd (of_decide_eq_true z) fun y=>f0 (by unfold nV at y; injection y with y; omega)) (fun _=>⟨_,rfl,?_⟩)
    have k4:Rn A ρ (Vbcnao.counted (Vbcnao.counted S 0) (Vbcnao.fares (Vbcnao.counted S 0) ⟨key,x :: l,0,(Vbcnao.switchAt S x).current,S.now⟩ x + 1)) H4 ps :=
     k1.keep (fun b o e n=>JI b o (s2 b o e) n) (fun b=>eY.mp) rfl
    refine k H4 ps ⟨W4,k4⟩ (fun b o e n=>?_) fun b hb=>?_
    ·exact JI b o (s2 _ _ (N1.keep b o e n)) fun z=>n (.inl (eY.mp z))
    ·rcases hb with hb | hb | hb
     ·exact .inl (.inl (eY.mp (eY.mp hb)))
     ·exact .inl (.inr (.inl hb))
     ·exact .inl (.inr (.inr hb))
   ·rw [if_neg (fun z=>z f0)] at k
    have adC:∀ q ∈ ps,q.1 ≠ xk ∧ q.2 ≠ xk:=fun q hq=>by
     obtain ⟨p,_,r⟩:=DE k1.at_ hq
     obtain ⟨dz,z⟩:=r.ins
     exact ⟨ay z nxk,ay r.rt nxk⟩
    have hpk:ρ .eX ≠ xk:=ay k1.lst nxk
    have kp5:∀ b o,H b = some o → ¬ iU ρ S ps b → H4 b = some o:=fun b o e n=>by
     have e1:=N1.keep b o e n
     exact JI b o (s2 _ _ e1) (fun z=>n (.inl (eY.mp z))) (ay e1 nxk)
    have hH:∀ b,(upd H (ρ .aF) (.ins A.aN dx (dD ρ (Vbcnao.counted S 0)))) b = none → H b = none:=fun b z=>by
     by_cases e:b = ρ .aF
     ·subst e
      rw [ae] at z
      cases z
     ·rw [ak e] at z
      exact z
    by_cases el:l = []
    ·subst el
     rw [if_pos rfl] at k
     refine ⟨_,rfl,rfl,_,rfl,uS ⟨_,rfl,?_⟩⟩
     have k4:Rn A ρ (Vbcnao.counted (Vbcnao.counted S 0) 1) H4 ps:=by
      refine ⟨JI _ _ (s2 _ _ k1.lst) k1.no hpk,uI k1.at_ fun q p hq r=>⟨let ⟨dz,z⟩:=r.ins; ⟨dz,JI _ _ (s2 _ _ z) (k1.n8 q hq).1 (adC q hq).1⟩,JI _ _ (s2 _ _ r.rt) (k1.n8 q hq).2 (adC q hq).2⟩,k1.nd,k1.nr,fun z=>k1.no (eY.mp z),fun q hq=>⟨fun z=>(k1.n8 q hq).1 (eY.mp z),fun z=>(k1.n8 q hq).2 (eY.mp z)⟩⟩
     refine k H4 ps ⟨W4,k4⟩ kp5 fun b hb=>?_
     rcases hb with hb | hb | hb
     ·exact .inl (.inl (eY.mp (eY.mp hb)))
     ·exact .inl (.inr (.inl hb))
     ·exact .inl (.inr (.inr hb))
    ·rw [if_neg el] at k
     have hlen:¬ (x :: l).length ≤ 0 + 1:=by
      cases l with
      | nil=>exact absurd rfl el
      | cons y l=>simp
     have W4':Wd A ρ (Vbcnao.counted S 0) H4:=by
      have:=W4
      rw [if_neg hlen] at this
      exact this
     obtain ⟨dx4,hw4⟩:=W4'.aF
     have akc:=JI _ _ (s2 _ _ k1.lst) k1.no hpk
     have evV:nV (if (x :: l).length ≤ 0 + 1 then 5 else 0) = V.int 0:=by rw [if_neg hlen]; rfl
     refine ⟨_,rfl,rfl,_,rfl,?_⟩
     show if decide (nV (if (x :: l).length ≤ 0 + 1 then 5 else 0) = V.int 0) = true then _ else _
     rw [evV]
     refine l7 ⟨_,rfl,_,_,_,_,_,rfl,hw4,T.aB,T.cT,aa gq rfl rfl,.inl ⟨rfl,_,aM.of akc⟩,_,rfl,_,_,_,rfl,rfl,akc,?_,?_⟩
     ·rw [List.length_map,cQ k1.at_]
      have:=G.room
      exact Nat.lt_of_lt_of_le akN (Nat.le_trans this (by decide))
     ·have e5:(ps.map fun q=>V.ref q.1) ++ [V.ref xk] = (ps ++ [(xk,rt)]).map fun q=>V.ref q.1:=by rw [List.map_append]; rfl
      rw [e5]
      refine ⟨_,rfl,?_⟩
      have np:∀ b,b ≠ ρ .eX → (upd H4 (ρ .eX) (.lst ((ps ++ [(xk,rt)]).map fun q=>V.ref q.1))) b = H4 b:=fun b hb=>ak hb
      have amY:rt ≠ ρ .eX:=fun z=>nrt (.inr (.inl z))
      obtain ⟨dz,hz⟩:=pk4.ins
      have apy:xk ≠ ρ .eX:=Ne.symm hpk
      have hW:=(W4'.afF T.V2 k1.no akc ((ps ++ [(xk,rt)]).map fun q=>V.ref q.1)).ajI (S.packets ++ [⟨key,x :: l,1,(Vbcnao.switchAt S x).current,(Vbcnao.counted S 0).now⟩])
      have hK:Rn A ρ { Vbcnao.counted S 0 with packets:=S.packets ++ [⟨key,x :: l,1,(Vbcnao.switchAt S x).current,(Vbcnao.counted S 0).now⟩] } (upd H4 (ρ .eX) (.lst ((ps ++ [(xk,rt)]).map fun q=>V.ref q.1))) (ps ++ [(xk,rt)]):=by
       refine ⟨ae,vD (uI k1.at_ fun q p hq r=>⟨?_,?_⟩) (vC ⟨⟨dz,?_⟩,?_⟩),?_,fun q hq=>?_,fun z=>k1.no (iH.mp z),fun q hq=>?_⟩
       ·obtain ⟨dy,z⟩:=r.ins
        exact ⟨dy,by rw [np _ (dN z k1.lst (by intro y; cases y))]; exact JI _ _ (s2 _ _ z) (k1.n8 q hq).1 (adC q hq).1⟩
       ·rw [np _ (k1.nr q hq)]
        exact JI _ _ (s2 _ _ r.rt) (k1.n8 q hq).2 (adC q hq).2
       ·rw [np _ apy]
        exact hz
       ·rw [np _ amY]
        exact pk4.rt
       ·rw [List.map_append,List.nodup_append]
        refine ⟨k1.nd,by simp,fun a ha b hb=>?_⟩
        obtain ⟨q,hq,rfl⟩:=List.mem_map.mp ha
        simp at hb
        subst hb
        exact (adC q hq).1
       ·rcases List.mem_append.mp hq with hq | hq
        ·exact k1.nr q hq
        ·rw [List.mem_singleton.mp hq]
         exact amY
       ·rcases List.mem_append.mp hq with hq | hq
        ·exact ⟨fun z=>(k1.n8 q hq).1 (iH.mp z),fun z=>(k1.n8 q hq).2 (iH.mp z)⟩
        ·rw [List.mem_singleton.mp hq]
         exact ⟨fun z=>cD (iH.mp z),fun z=>amZ (iH.mp z)⟩
      refine k _ (ps ++ [(xk,rt)]) ⟨hW,hK⟩ (fun b o e n=>?_) fun b hb=>?_
      ·rw [np b fun z=>n (.inr (.inl z))]
       exact kp5 b o e n
      ·rcases hb with hb | hb | ⟨q,hq,hb⟩
       ·exact .inl (.inl (eY.mp (iH.mp hb)))
       ·exact .inl (.inr (.inl hb))
       ·rcases List.mem_append.mp hq with hq | hq
        ·exact .inl (.inr (.inr ⟨q,hq,hb⟩))
        ·rw [List.mem_singleton.mp hq] at hb
         rcases hb with rfl | rfl
         ·exact .inr (.inl (hH _ nxk))
         ·exact .inr (.inr rfl)
end
end Pt
namespace Pt
open PySem PySem.Spec PyProof.Rows L2
theorem aoT (xs:List V):Ci xs (some 1) none = xs.drop 1:=by
 unfold Ci
 rw [show (some (1:Int)) = some ((1:Nat):Int) from rfl,HT.XD,HT.ajy]
 cases xs with
 | nil=>rfl
 | cons x xs =>
  have:min 1 (x :: xs).length = 1:=Nat.min_eq_left (by simp)
  rw [this]
  exact List.take_of_length_le (by simp)
theorem aec (xs:List V) {i j:Nat} (h:i ≤ j):Ci xs (some (i:Int)) (some (j:Int)) = (xs.drop i).take (j - i):=by
 unfold Ci
 rw [HT.XD,HT.XD]
 by_cases h1:i ≤ xs.length
 ·rw [Nat.min_eq_left h1]
  by_cases h2:j ≤ xs.length
  ·rw [Nat.min_eq_left h2]
  ·rw [Nat.min_eq_right (by omega),List.take_of_length_le (by rw [List.length_drop]; omega),List.take_of_length_le (by rw [List.length_drop]; omega)]
 ·rw [List.drop_eq_nil_of_le (show xs.length ≤ i by omega),List.drop_eq_nil_of_le (by omega),List.take_nil,List.take_nil]
theorem Vn {k:Int} {n j:Nat} (e:k = (j:Int)) (h:j < n):seqIndex? k n = some j:=by
 subst e
 have e1:¬ ((j:Int) < 0):=by omega
 have e2:(decide (0 ≤ (j:Int)) && decide ((j:Int) < (n:Int))) = true:=by
  rw [decide_eq_true (by omega),decide_eq_true (by omega)]
  rfl
 unfold seqIndex?
 simp only [if_neg e1]
 rw [if_pos e2]
 simp
section
variable {A:bg} {ρ ρ':Role → Addr} {S S' S1:SS} {H H' H1:Hp} {ps j8:PL}
theorem kX.ans (a:kX A ρ S H ps ρ' S' H1 j8) {p:Addr} (hp:H1 p = none) (o:HO):kX A ρ S H ps ρ' S' (upd H1 p o) j8 ∧ ∀ b o,H b = some o → ¬ iU ρ S ps b → b ≠ p :=
 ⟨a.trans (a.wh.same (aH.upd hp)),fun b o e n=>ay (a.keep b o e n) hp⟩
theorem O6 {α:Type} {y:α}:∀ {l:List α} {j:Nat},y ∈ l.eraseIdx j → ∃ i,i ≠ j ∧ l[i]? = some y
 | [],_,h=>by simp at h
 | x :: l,0,h=>by
  obtain ⟨i,hi,e⟩:=List.getElem_of_mem (show y ∈ l from h)
  exact ⟨i + 1,by omega,by simpa using List.getElem?_eq_some_iff.mpr ⟨hi,e⟩⟩
 | x :: l,j + 1,h=>by
  rcases List.mem_cons.mp (show y ∈ x :: l.eraseIdx j from h) with e | h
  ·exact ⟨0,by omega,by rw [e]; rfl⟩
  ·obtain ⟨i,hi,e⟩:=O6 h
   exact ⟨i + 1,by omega,by simpa using e⟩
theorem afT (ne:A.bX ≠ A.aU) (W:Wd A ρ S H) (k:Rn A ρ S H ps) {j:Nat} {q:Addr × Addr} (hq:ps[j]? = some q) (W1:Wd A ρ S1 H1) (hl:∀ b,Own ρ S1 b → Own ρ S b)
  (kp:∀ b o,H b = some o → ¬ Own ρ S b → b ≠ q.1 → H1 b = some o) :
  kX A ρ S H ps ρ { S1 with packets:=S.packets.eraseIdx j } (upd H1 (ρ .eX) (.lst ((ps.eraseIdx j).map fun q=>V.ref q.1))) (ps.eraseIdx j):=by
 have ED:=List.mem_of_getElem? hq
 obtain ⟨p,_,r⟩:=DE k.at_ ED
 obtain ⟨dq,SH⟩:=r.ins
 have hpq:ρ .eX ≠ q.1:=dN k.lst SH (by intro z; cases z)
 have Uo:=kp _ _ k.lst k.no hpq
 have other:∀ q' ∈ ps.eraseIdx j,q'.1 ≠ q.1:=fun q' qp e=>by
  obtain ⟨i,hi,e'⟩:=O6 qp
  exact hi (ahf k.nd (x:=q.1) (by rw [List.getElem?_map,e']; exact congrArg some e) (by rw [List.getElem?_map,hq]; rfl))
 have sub:∀ q' ∈ ps.eraseIdx j,q' ∈ ps:=fun q' h=>List.mem_of_mem_eraseIdx h
 refine ⟨⟨(W1.afF ne (fun z=>k.no (hl _ z)) Uo _).ajI _,?_⟩,fun b o e n=>?_,fun b hb=>?_,rfl⟩
 ·refine ⟨ae,uI (F1 k.at_ j) fun q' p' qp r'=>⟨?_,?_⟩,?_,fun q' qp=>k.nr q' (sub q' qp),fun z=>k.no (hl _ (iH.mp z)),fun q' qp=>⟨fun z=>(k.n8 q' (sub q' qp)).1 (hl _ (iH.mp z)),fun z=>(k.n8 q' (sub q' qp)).2 (hl _ (iH.mp z))⟩⟩
  ·obtain ⟨d',z⟩:=r'.ins
   exact ⟨d',by rw [ak (dN z k.lst (by intro y; cases y))]; exact kp _ _ z (k.n8 q' (sub q' qp)).1 (other q' qp)⟩
  ·rw [ak (k.nr q' (sub q' qp))]
   exact kp _ _ r'.rt (k.n8 q' (sub q' qp)).2 (dN r'.rt SH (by intro z; cases z))
  ·rw [qR]
   exact ae3 k.nd j
 ·rw [ak fun z=>n (.inr (.inl z))]
  exact kp b o e (fun z=>n (.inl z)) fun z=>n (.inr (.inr ⟨q,ED,.inl z⟩))
 ·rcases hb with hb | hb | ⟨q',qp,hb⟩
  ·exact .inl (.inl (hl _ (iH.mp hb)))
  ·exact .inl (.inr (.inl hb))
  ·exact .inl (.inr (.inr ⟨q',sub q' qp,hb⟩))
theorem akd (k:Rn A ρ S H ps) {j:Nat} {q:Addr × Addr} {p:Vbcnao.Packet} {f:Vbcnao.Packet → Vbcnao.Packet} (hq:ps[j]? = some q) (hp:S.packets[j]? = some p) (W1:Wd A ρ S H1)
  (pk:CH A H1 q (f p)) (kp:∀ b o,H b = some o → ¬ Own ρ S b → b ≠ q.1 → H1 b = some o) :
  kX A ρ S H ps ρ { S with packets:=Vbcnao.changeAt S.packets j f } H1 ps:=by
 have ED:=List.mem_of_getElem? hq
 obtain ⟨p',MV,r⟩:=lY k.at_ hq
 rw [hp] at MV
 cases MV
 obtain ⟨dq,SH⟩:=r.ins
 have hpq:ρ .eX ≠ q.1:=dN k.lst SH (by intro z; cases z)
 refine ⟨⟨W1.ajI _,?_⟩,fun b o e n=>kp b o e (fun z=>n (.inl z)) fun z=>n (.inr (.inr ⟨q,ED,.inl z⟩)),fun b hb=>?_,rfl⟩
 ·refine ⟨kp _ _ k.lst k.no hpq,?_,k.nd,k.nr,fun z=>k.no (iH.mp z),fun q' qp=>⟨fun z=>(k.n8 q' qp).1 (iH.mp z),fun z=>(k.n8 q' qp).2 (iH.mp z)⟩⟩
  show Paired (CH A H1) ps (Vbcnao.changeAt S.packets j f)
  have key:∀ (j8:PL) (l:List Vbcnao.Packet) (j:Nat),Paired (CH A H) j8 l → (∀ q' ∈ j8,q' ∈ ps) → (j8.map (·.1)).Nodup → j8[j]? = some q → l[j]? = some p → Paired (CH A H1) j8 (Vbcnao.changeAt l j f):=by
   intro j8 l j h
   induction h generalizing j with
   | nil=>intro _ _ e; simp at e
   | @cons x y l₁ l₂ r rr ih =>
    intro hs nd e1 e2
    rw [List.map_cons,List.nodup_cons] at nd
    have akL:∀ x' y',x' ∈ ps → x'.1 ≠ q.1 → CH A H x' y' → CH A H1 x' y':=fun x' y' hx' nx r' =>
     ⟨let ⟨d,z⟩:=r'.ins; ⟨d,kp _ _ z (k.n8 x' hx').1 nx⟩,kp _ _ r'.rt (k.n8 x' hx').2 (dN r'.rt SH (by intro z; cases z))⟩
    cases j with
    | zero =>
     cases e1
     cases e2
     refine .cons pk (uI rr fun a b ha r'=>akL a b (hs a (List.mem_cons_of_mem _ ha)) (fun z=>nd.1 (List.mem_map.mpr ⟨a,ha,z⟩)) r')
    | succ j =>
     have hq2:q ∈ l₁:=List.mem_of_getElem? (show l₁[j]? = some q by simpa using e1)
     refine .cons (akL x y (hs x (List.mem_cons_self ..)) (fun z=>nd.1 (List.mem_map.mpr ⟨q,hq2,z.symm⟩)) r) (ih j (fun q' h=>hs q' (List.mem_cons_of_mem _ h)) nd.2 (by simpa using e1) (by simpa using e2))
  exact key ps S.packets j k.at_ (fun _ h=>h) k.nd hq hp
 ·rcases hb with hb | hb | hb
  ·exact .inl (.inl (iH.mp hb))
  ·exact .inl (.inr (.inl hb))
  ·exact .inl (.inr (.inr hb))
end
section
variable {P:Program} {w:World} {K:W.Frag} {mg:Str → Option Value} {base:Heap} {A:bg}
noncomputable def jl (S:SS) (g:List Int):SS × List Int:=Vbcnao.doing S (.enter (g.getD 0 0) (g.drop 1))
theorem ahY {S:SS}:∀ {zs:List Int},(∀ z ∈ zs,Vbcnao.isSwitch S z = true) → (zs.map Int.toNat).map nV = zs.map V.int ∧ ∀ y ∈ zs.map Int.toNat,y < S.switches.length
 | [],_=>⟨rfl,by simp⟩
 | z :: zs,h=>by
  have h1:=B7 (x:=z) (S:=S) (by rw [h z (List.mem_cons_self ..)]; simp)
  obtain ⟨h2,h3⟩:=ahY (zs:=zs) fun y hy=>h y (List.mem_cons_of_mem _ hy)
  refine ⟨?_,fun y hy=>?_⟩
  ·show nV z.toNat :: _ = V.int z :: _
   rw [h2]
   unfold nV
   rw [h1.2]
  ·rcases List.mem_cons.mp (show y ∈ z.toNat :: zs.map Int.toNat from hy) with e | hy
   ·rw [e]
    exact h1.1
   ·exact h3 y hy
theorem ajO (T:Txt K mg A):aD P w K mg base aC 6 A.jl A.RI ["world","given"] (fX A jl fun g=>g ≠ []):=by
 refine T.Zn.ok aco (fun vs H Q E h=>?_) (fun au R outer s H vs Q E hr h=>?_)
 ·obtain ⟨ρ,S,ps,g,given,c,rfl,_⟩:=h
  rfl
 ·obtain ⟨ρ,S,ps,g,given,c,rfl,cP,G,hc,hg,ng,hz,pre,k⟩:=h
  obtain ⟨z,zs,rfl⟩:∃ z zs,given = z :: zs:=by
   cases given with
   | nil=>exact absurd rfl pre
   | cons z zs=>exact ⟨z,zs,rfl⟩
  refine ⟨_,(ajg T hr (OQ T) (R0 T) (Js T) (ais T)).2,?_⟩
  refine ⟨_,rfl,_,_,_,_,rfl,rfl,aM.of hg,at_of (j:=0) rfl rfl,?_⟩
  refine ⟨_,rfl,_,rfl,_,_,rfl,aM.of hg,fun rt hrt=>?_⟩
  have adV:Ci ((z :: zs).map V.int) (some 1) none = zs.map V.int:=aoT _
  rw [adV]
  have s1:aH H (upd H rt (.lst (zs.map V.int))):=aH.upd hrt
  have sd:=cP.same s1
  have Wh1:=sd.wh
  obtain ⟨dx,hw⟩:=Wh1.wd.aF
  have refuse:∀ v:Int,jl S (z :: zs) = (S,[v]) → ∀ p,(upd H rt (.lst (zs.map V.int))) p = none → Q (.ref p) (upd (upd H rt (.lst (zs.map V.int))) p (.lst [.int v])):=fun v e p hp=>by
   obtain ⟨a1,a2⟩:=sd.ans hp (.lst [.int v])
   refine k ρ ps _ p ?_ a2 ?_
   ·rw [e]
    exact a1
   ·rw [e]
    exact ae
  have ef:jl S (z :: zs) = if (Vbcnao.within z 0 65535 && (decide (1 ≤ zs.length) && (decide (zs.length ≤ 8) && zs.all fun x=>Vbcnao.isSwitch S x))) = false then (S,[-1])
   else if S.room ≤ S.packets.length then (S,[-2])
   else ((Vbcnao.enters S z.toNat (zs.map Int.toNat)).1,[((Vbcnao.enters S z.toNat (zs.map Int.toNat)).2:Int)]):=rfl
  refine ⟨_,rfl,z,rfl,_,rfl,?_⟩
  refine aZ (fun d=>l7 ?_) (fun d=>?_)
  ·have d':Vbcnao.within z 0 65535 = false:=by
    rw [Bool.not_eq_true'] at d
    exact d
   rw [d',Bool.false_and,if_pos rfl] at ef
   exact ⟨_,rfl,lz,fun p hp=>refuse (-1) ef p hp⟩
  ·have d':Vbcnao.within z 0 65535 = true:=by
    rw [Bool.not_eq_true',Bool.not_eq_false] at d
    exact d
   rw [d',Bool.true_and] at ef
   refine ⟨_,rfl,_,rfl,ρ,S,rt,zs,rfl,Wh1.wd,ae,_,rfl,?_⟩
   cases e:(decide (1 ≤ zs.length) && (decide (zs.length ≤ 8) && zs.all fun x=>Vbcnao.isSwitch S x)) with
   | false =>
    rw [e,if_pos rfl] at ef
    exact l7 ⟨_,rfl,lz,fun p hp=>refuse (-1) ef p hp⟩
   | true =>
    rw [e,if_neg (by simp)] at ef
    refine uS ⟨_,rfl,_,_,_,rfl,hw,aL Jz,ρ,S,ps,rfl,Wh1,_,rfl,?_⟩
    refine aZ (fun d=>?_) (fun d=>?_)
    ·rw [if_pos (of_decide_eq_true d)] at ef
     exact ⟨_,rfl,lz,fun p hp=>refuse (-2) ef p hp⟩
    ·have d2:¬ S.room ≤ S.packets.length:=fun y=>d (decide_eq_true y)
     rw [if_neg d2] at ef
     simp only [Bool.and_eq_true,decide_eq_true_eq,List.all_eq_true] at e
     obtain ⟨h1,h8,j4⟩:=e
     obtain ⟨t1,t2⟩:=ahY j4
     have hz0:z = ((z.toNat:Nat):Int):=by
      unfold Vbcnao.within at d'
      rw [Bool.and_eq_true,decide_eq_true_eq] at d'
      omega
     obtain ⟨x,l,exl⟩:∃ x l,zs.map Int.toNat = x :: l:=by
      cases zs with
      | nil=>simp at h1
      | cons a b=>exact ⟨_,_,rfl⟩
     rw [exl] at t1 t2 ef
     have nrt:¬ iU ρ S ps rt:=cP.fresh hrt
     refine ⟨_,rfl,_,rfl,_,rfl,ρ,S,ps,z.toNat,rt,x,l,c,?_,Wh1,G,?_,nrt,t2,by omega,fun H2 ps2 W2 kp2 gr2=>⟨lz,fun p hp=>?_⟩⟩
     ·show [V.ref (ρ .aF),V.int z,V.ref rt] = [V.ref (ρ .aF),V.int (z.toNat:Int),V.ref rt]
      rw [← hz0]
     ·rw [t1]
      exact ae
     ·have c7:kX A ρ S H ps ρ (Vbcnao.enters S z.toNat (x :: l)).1 H2 ps2:=by
       refine ⟨W2,fun b o e n=>kp2 b o (s1 b o e) n,fun b hb=>?_,rfl⟩
       rcases gr2 b hb with y | y | y
       ·exact .inl y
       ·refine .inr ?_
        exact s1.free y
       ·exact .inr (by rw [y]; exact hrt)
      obtain ⟨a1,a2⟩:=c7.ans hp (.lst [nV (Vbcnao.enters S z.toNat (x :: l)).2])
      refine k ρ ps2 _ p ?_ a2 ?_
      ·rw [ef]
       exact a1
      ·rw [ef]
       exact ae
noncomputable def qt (S:SS) (g:List Int):SS × List Int:=Vbcnao.doing S (.hop (g.getD 0 0))
theorem amV (T:Txt K mg A):aD P w K mg base aC 5 A.qt A.abq ["world","given"] (fX A qt fun g=>g.length = 1):=by
 refine T.ahR.ok aie (fun vs H Q E h=>?_) (fun au R outer s H vs Q E hr h=>?_)
 ·obtain ⟨ρ,S,ps,g,given,c,rfl,_⟩:=h
  rfl
 ·obtain ⟨ρ,S,ps,g,given,c,rfl,cP,G,hc,hg,ng,hz,pre,k⟩:=h
  obtain ⟨z,rfl⟩:∃ z,given = [z]:=by
   match given,pre with
   | [z],_=>exact ⟨z,rfl⟩
  have W:=cP.wd
  obtain ⟨dx,hw⟩:=W.aF
  have pk:=cP.pk
  have ef:qt S [z] = match (if 0 ≤ z then S.packets[z.toNat]? else none) with
   | none=>(S,[-1])
   | some p=>((Vbcnao.hops S z.toNat p).1,[((Vbcnao.hops S z.toNat p).2:Int)]):=rfl
  have refuse:(if 0 ≤ z then S.packets[z.toNat]? else none) = none → ∀ p,H p = none → Q (.ref p) (upd H p (.lst [.int (-1)])):=fun e p hp=>by
   obtain ⟨a1,a2⟩:=(kX.refl cP).ans hp (.lst [.int (-1)])
   rw [e] at ef
   refine k ρ ps _ p ?_ a2 ?_
   ·rw [ef]
    exact a1
   ·rw [ef]
    exact ae
  refine ⟨_,(amq T hr (acN T)).2,?_⟩
  refine ⟨_,rfl,_,_,_,_,rfl,rfl,aM.of hg,at_of (j:=0) rfl rfl,?_⟩
  refine ⟨_,rfl,_,_,rfl,rfl,_,rfl,?_⟩
  refine aZ (fun d=>?_) (fun d=>⟨_,rfl,l7 ?_⟩)
  ·have d0:0 ≤ z:=of_decide_eq_true d
   refine ⟨_,rfl,_,_,_,_,_,rfl,hw,T.aB,T.cT,aa gq rfl rfl,_,_,rfl,.inl (aM.of pk.lst),_,_,rfl,rfl,_,rfl,?_⟩
   rw [List.length_map,cQ pk.at_]
   refine aZ (fun d2=>?_) (fun d2=>?_)
   ·have d3:¬ z < (S.packets.length:Int):=by simpa using d2
    exact ⟨_,rfl,lz,fun p hp=>refuse (by rw [if_pos d0]; exact List.getElem?_eq_none (by omega)) p hp⟩
   ·have d3:z < (S.packets.length:Int):=by simpa using d2
    have hzn:z = ((z.toNat:Nat):Int):=by omega
    have hj:z.toNat < S.packets.length:=by omega
    obtain ⟨p,hp⟩:∃ p,S.packets[z.toNat]? = some p:=⟨_,List.getElem?_eq_getElem hj⟩
    obtain ⟨q,hq,hpk⟩:=Jg pk.at_ hp
    have ED:=List.mem_of_getElem? hq
    rw [if_pos d0,hp] at ef
    dsimp only at ef
    have gp:=G.pk p (List.mem_of_getElem? hp)
    obtain ⟨x,hx⟩:∃ x,p.route[p.done]? = some x:=⟨_,List.getElem?_eq_getElem gp.done⟩
    have hgx:p.route.getD p.done 0 = x:=YD hx
    have hxn:x < S.switches.length:=gp.sw x (List.mem_of_getElem? hx)
    have no:=pk.n8 q ED
    unfold Vbcnao.hops at ef
    dsimp only at ef
    rw [hgx] at ef
    obtain ⟨dq,SH⟩:=hpk.ins
    have hpq:ρ .eX ≠ q.1:=dN pk.lst SH (by intro z; cases z)
    have hnd:=List.getElem?_map (f:=fun q:Addr × Addr=>V.ref q.1) (l:=ps) (i:=z.toNat)
    rw [hq] at hnd
    refine ⟨_,rfl,_,rfl,_,_,_,_,_,rfl,hw,T.aB,T.cT,aa gq rfl rfl,_,rfl,_,_,_,_,rfl,rfl,aM.of pk.lst,at_of (j:=z.toNat) hzn hnd,ρ,S,q,p,x,c,rfl,W,G,hpk,no.1,no.2,hx,hxn,fun f0 H1 W1 kp1=>?_,fun f0 H1 W1 pk1 kp1=>?_⟩
    ·rw [if_pos f0] at ef
     obtain ⟨dx1,Gk⟩:=W1.aF
     have Uo:=kp1 _ _ pk.lst pk.no
     refine ⟨_,rfl,rfl,_,rfl,?_⟩
     have en:(!decide (nV (Vbcnao.fares S p x) = V.int 0)) = true:=by
      have:¬ nV (Vbcnao.fares S p x) = V.int 0:=fun y=>f0 (by unfold nV at y; injection y with y; omega)
      simp [this]
     show if (!decide (nV (Vbcnao.fares S p x) = V.int 0)) = true then _ else _
     rw [en]
     refine l7 ⟨_,rfl,_,_,_,_,_,rfl,Gk,T.aB,T.cT,aa gq rfl rfl,.inl ⟨rfl,_,aM.of Uo⟩,_,rfl,_,_,_,_,_,rfl,rfl,Uo,(hz z (List.mem_cons_self ..)).1,(hz z (List.mem_cons_self ..)).2,Vn hzn (by rw [List.length_map,cQ pk.at_]; exact hj),hnd,?_⟩
     rw [← qR]
     refine ⟨_,rfl,lz,fun p2 lR=>?_⟩
     have st:=afT T.V2 W pk hq W1 (fun b=>eY.mp) fun b o e n _=>kp1 b o e n
     obtain ⟨a1,a2⟩:=st.ans lR (.lst [nV (Vbcnao.fares S p x)])
     refine k ρ (ps.eraseIdx z.toNat) _ p2 ?_ a2 ?_
     ·rw [ef]
      exact a1
     ·rw [ef]
      exact ae
    ·rw [if_neg (fun y=>y f0)] at ef
     by_cases hl:p.route.length ≤ p.done + 1
     ·rw [if_pos hl] at ef W1
      obtain ⟨dx1,Gk⟩:=W1.aF
      have Uo:=kp1 _ _ pk.lst pk.no hpq
      have ev:nV (if p.route.length ≤ p.done + 1 then 5 else 0) = V.int 5:=by rw [if_pos hl]; rfl
      refine ⟨_,rfl,rfl,_,rfl,?_⟩
      show if (!decide (nV (if p.route.length ≤ p.done + 1 then 5 else 0) = V.int 0)) = true then _ else _
      rw [ev]
      refine l7 ⟨_,rfl,_,_,_,_,_,rfl,Gk,T.aB,T.cT,aa gq rfl rfl,.inl ⟨rfl,_,aM.of Uo⟩,_,rfl,_,_,_,_,_,rfl,rfl,Uo,(hz z (List.mem_cons_self ..)).1,(hz z (List.mem_cons_self ..)).2,Vn hzn (by rw [List.length_map,cQ pk.at_]; exact hj),hnd,?_⟩
      rw [← qR]
      refine ⟨_,rfl,lz,fun p2 lR=>?_⟩
      have st:=afT T.V2 W pk hq W1 (fun b=>eY.mp) kp1
      obtain ⟨a1,a2⟩:=st.ans lR (.lst [V.int 5])
      refine k ρ (ps.eraseIdx z.toNat) _ p2 ?_ a2 ?_
      ·rw [ef]
       exact a1
      ·rw [ef]
       exact ae
     ·rw [if_neg hl] at ef W1
      have ev:nV (if p.route.length ≤ p.done + 1 then 5 else 0) = V.int 0:=by rw [if_neg hl]; rfl
      refine ⟨_,rfl,rfl,_,rfl,?_⟩
      show if (!decide (nV (if p.route.length ≤ p.done + 1 then 5 else 0) = V.int 0)) = true then _ else _
      rw [ev]
      refine uS ⟨_,rfl,lz,fun p2 lR=>?_⟩
      have st:=akd pk hq hp W1 (f:=fun q=>{ q with done:=q.done + 1 }) pk1 kp1
      obtain ⟨a1,a2⟩:=st.ans lR (.lst [V.int 0])
      refine k ρ ps _ p2 ?_ a2 ?_
      ·rw [ef]
       exact a1
      ·rw [ef]
       exact ae
  ·have d0:¬ 0 ≤ z:=fun y=>d (decide_eq_true y)
   exact ⟨_,rfl,lz,fun p hp=>refuse (by rw [if_neg d0]) p hp⟩
end
end Pt
namespace Pt
open PySem PySem.Spec PyProof.Rows L2
noncomputable def pU (x:Nat):Role → Prop
 | .sw i=>i = x
 | .pd i=>i = x
 | .pt i _=>i = x
 | .cm i _=>i = x
 | _=>False
noncomputable def OT (x:Nat):Role → Prop
 | .mm i=>i = x
 | .hv i=>i = x
 | .gn i=>i = x
 | _=>False
theorem g4 {ρ ρ':Role → Addr} {f:Nat → Role} {n:Nat} (h:∀ i,ρ' (f i) = ρ (f i)):refs ρ' f n = refs ρ f n:=by
 unfold refs
 exact List.map_congr_left fun i _=>by rw [h i]
theorem QV {α β:Type} {g:α → β} {f:α → α} (h:∀ x,g (f x) = g x):∀ (l:List α) (i:Nat),(Vbcnao.changeAt l i f).map g = l.map g
 | [],_=>rfl
 | x :: l,0=>by
  show g (f x) :: _ = g x :: _
  rw [h x]
 | x :: l,i + 1=>congrArg (List.cons (g x)) (QV h l i)
theorem aiX {α:Type} {f:α → α}:∀ {l:List α} {i:Nat} {x:α},l[i]? = some x → f x = x → Vbcnao.changeAt l i f = l
 | [],_,_,h,_=>by simp at h
 | y :: l,0,x,h,e=>by
  cases h
  show f y :: l = y :: l
  rw [e]
 | y :: l,i + 1,x,h,e=>by
  show y :: Vbcnao.changeAt l i f = y :: l
  rw [aiX (l:=l) (by simpa using h) e]
section
variable {A:bg} {ρ ρ':Role → Addr} {S:SS} {H H':Hp} {x:Nat} {r:Role} {o:HO}
theorem pR {f:Vbcnao.Switch → Vbcnao.Switch} (hr:¬ pU x r):live (Vbcnao.onSwitch S x f) r ↔ live S r:=by
 cases r with
 | sw i =>
  show i < (Vbcnao.changeAt S.switches x f).length ↔ i < S.switches.length
  rw [iR]
 | pd i =>
  show i < (Vbcnao.changeAt S.switches x f).length ↔ i < S.switches.length
  rw [iR]
 | pt i v =>
  show (∃ w h,(Vbcnao.changeAt S.switches x f)[i]? = some w ∧ Vbcnao.heldOf w v = some h) ↔ _
  rw [x9 hr]
  exact Iff.rfl
 | cm i v =>
  show (∃ w h,(Vbcnao.changeAt S.switches x f)[i]? = some w ∧ Vbcnao.heldOf w v = some h) ↔ _
  rw [x9 hr]
  exact Iff.rfl
 | _=>exact Iff.rfl
theorem V0 {f:Vbcnao.Switch → Vbcnao.Switch} (hr:¬ pU x r) (hs:r = .iC → ∀ i,ρ' (.sw i) = ρ (.sw i)) (hρ:∀ r,¬ pU x r → ρ' r = ρ r) (i:uw A H H') (h:Ob A ρ S H r o):Ob A ρ' (Vbcnao.onSwitch S x f) H' r o:=by
 have h:=h.mono i
 cases r with
 | aF =>
  obtain ⟨dx,e⟩:=h
  refine ⟨dx,e.trans ?_⟩
  unfold dD
  rw [hρ .iC id,hρ .cf id,hρ .bag id,hρ .eX id,hρ .cnt id]
  rfl
 | cf =>
  obtain ⟨dx,e⟩:=h
  refine ⟨dx,e.trans ?_⟩
  unfold oT
  rw [hρ .dg id,hρ .ret id,hρ .j7 id,hρ .eS id]
  rfl
 | iC =>
  show o = .lst (refs ρ' .sw (Vbcnao.changeAt S.switches x f).length)
  rw [iR,g4 (hs rfl)]
  exact h
 | eS =>
  show o = .lst (refs ρ' .mm S.known.length)
  rw [g4 fun i=>hρ (.mm i) id]
  exact h
 | dg =>
  show o = .lst (refs ρ' .pu S.policies.length)
  rw [g4 fun i=>hρ (.pu i) id]
  exact h
 | sw j =>
  obtain ⟨w,dx,e1,e⟩:=h
  refine ⟨w,dx,(x9 hr).trans e1,e.trans ?_⟩
  unfold i9
  rw [hρ (.pd j) hr]
 | pd j =>
  obtain ⟨w,kvs,e1,e,d⟩:=h
  exact ⟨w,kvs,(x9 hr).trans e1,e,d.imp fun u v b _ q=>q.trans (by rw [hρ (.pt j v) hr])⟩
 | pt j v =>
  obtain ⟨w,hh,dx,e1,e2,e⟩:=h
  refine ⟨w,hh,dx,(x9 hr).trans e1,e2,e.trans ?_⟩
  unfold Al
  rw [hρ (.cm j v) hr]
 | cm j v =>
  obtain ⟨w,hh,kvs,e1,e2,e,d⟩:=h
  exact ⟨w,hh,kvs,(x9 hr).trans e1,e2,e,d⟩
 | mm j =>
  obtain ⟨k,dx,e1,e⟩:=h
  refine ⟨k,dx,e1,e.trans ?_⟩
  unfold BH
  rw [hρ (.hv j) id,hρ (.gn j) id]
 | _=>exact h
theorem RB {f:Vbcnao.Known → Vbcnao.Known}:live (Vbcnao.onKnown S x f) r ↔ live S r:=by
 cases r with
 | mm i =>
  show i < (Vbcnao.changeAt S.known x f).length ↔ i < S.known.length
  rw [iR]
 | hv i =>
  show i < (Vbcnao.changeAt S.known x f).length ↔ i < S.known.length
  rw [iR]
 | gn i =>
  show i < (Vbcnao.changeAt S.known x f).length ↔ i < S.known.length
  rw [iR]
 | _=>exact Iff.rfl
theorem akK {f:Vbcnao.Known → Vbcnao.Known} (hr:¬ OT x r) (hb:r = .j7 → ∀ k,(f k).boot = k.boot) (hs:r = .eS → ∀ i,ρ' (.mm i) = ρ (.mm i)) (hρ:∀ r,¬ OT x r → ρ' r = ρ r) (i:uw A H H') (h:Ob A ρ S H r o) :
  Ob A ρ' (Vbcnao.onKnown S x f) H' r o:=by
 have h:=h.mono i
 cases r with
 | aF =>
  obtain ⟨dx,e⟩:=h
  refine ⟨dx,e.trans ?_⟩
  unfold dD
  rw [hρ .iC id,hρ .cf id,hρ .bag id,hρ .eX id,hρ .cnt id]
  rfl
 | cf =>
  obtain ⟨dx,e⟩:=h
  refine ⟨dx,e.trans ?_⟩
  unfold oT
  rw [hρ .dg id,hρ .ret id,hρ .j7 id,hρ .eS id]
  rfl
 | iC =>
  show o = .lst (refs ρ' .sw S.switches.length)
  rw [g4 fun i=>hρ (.sw i) id]
  exact h
 | eS =>
  show o = .lst (refs ρ' .mm (Vbcnao.changeAt S.known x f).length)
  rw [iR,g4 (hs rfl)]
  exact h
 | dg =>
  show o = .lst (refs ρ' .pu S.policies.length)
  rw [g4 fun i=>hρ (.pu i) id]
  exact h
 | j7 =>
  show o = .lst ((Vbcnao.changeAt S.known x f).map fun k=>nV k.boot)
  rw [QV fun k=>by rw [hb rfl k]]
  exact h
 | sw j =>
  obtain ⟨w,dx,e1,e⟩:=h
  refine ⟨w,dx,e1,e.trans ?_⟩
  unfold i9
  rw [hρ (.pd j) id]
 | pd j =>
  obtain ⟨w,kvs,e1,e,d⟩:=h
  exact ⟨w,kvs,e1,e,d.imp fun u v b _ q=>q.trans (by rw [hρ (.pt j v) id])⟩
 | pt j v =>
  obtain ⟨w,hh,dx,e1,e2,e⟩:=h
  refine ⟨w,hh,dx,e1,e2,e.trans ?_⟩
  unfold Al
  rw [hρ (.cm j v) id]
 | mm j =>
  obtain ⟨k,dx,e1,e⟩:=h
  refine ⟨k,dx,(x9 hr).trans e1,e.trans ?_⟩
  unfold BH
  rw [hρ (.hv j) hr,hρ (.gn j) hr]
 | hv j =>
  obtain ⟨k,kvs,e1,e,d⟩:=h
  exact ⟨k,kvs,(x9 hr).trans e1,e,d⟩
 | gn j =>
  obtain ⟨k,kvs,e1,e,d⟩:=h
  exact ⟨k,kvs,(x9 hr).trans e1,e,d⟩
 | _=>exact h
theorem Wd.akF (ne:oq A) (W:Wd A ρ S H) {w:Vbcnao.Switch} (hx:S.switches[x]? = some w) {f:Vbcnao.Switch → Vbcnao.Switch} (hf:(f w).held = w.held) (dx:Addr) :
  dM A ρ S H ρ (Vbcnao.onSwitch S x f) (upd H (ρ (.sw x)) (.ins A.bK dx (i9 ρ x (f w)))):=by
 have fk:=(List.getElem?_eq_some_iff.mp hx).1
 have hh:∀ v,Vbcnao.heldOf (f w) v = Vbcnao.heldOf w v:=fun v=>by unfold Vbcnao.heldOf; rw [hf]
 have hl:∀ r,live (Vbcnao.onSwitch S x f) r → live S r:=fun r l=>by
  by_cases hr:pU x r
  ·cases r with
   | sw i =>
    subst hr
    exact fk
   | pd i =>
    subst hr
    exact fk
   | pt i v =>
    subst hr
    obtain ⟨w',h,e1,e2⟩:=l
    have e3:(Vbcnao.changeAt S.switches i f)[i]? = some w':=e1
    rw [bh hx] at e3
    cases e3
    exact ⟨w,h,hx,(hh v).symm.trans e2⟩
   | cm i v =>
    subst hr
    obtain ⟨w',h,e1,e2⟩:=l
    have e3:(Vbcnao.changeAt S.switches i f)[i]? = some w':=e1
    rw [bh hx] at e3
    cases e3
    exact ⟨w,h,hx,(hh v).symm.trans e2⟩
   | _=>exact hr.elim
  ·exact (pR hr).mp l
 refine W.put ne (.sw x) fk hl (fun r o' Gn l h=>?_) ⟨f w,dx,bh hx,rfl⟩
 by_cases hr:pU x r
 ·cases r with
  | sw i =>
   have:i = x:=hr
   subst this
   exact absurd rfl Gn
  | pd i =>
   have:i = x:=hr
   subst this
   obtain ⟨w',kvs,e1,e,d⟩:=h
   rw [hx] at e1
   cases e1
   exact ⟨f w,kvs,bh hx,e,by rw [hf]; exact d⟩
  | pt i v =>
   have:i = x:=hr
   subst this
   obtain ⟨w',hd,g9,e1,e2,e⟩:=h
   rw [hx] at e1
   cases e1
   exact ⟨f w,hd,g9,bh hx,(hh v).trans e2,e⟩
  | cm i v =>
   have:i = x:=hr
   subst this
   obtain ⟨w',hd,kvs,e1,e2,e,d⟩:=h
   rw [hx] at e1
   cases e1
   exact ⟨f w,hd,kvs,bh hx,(hh v).trans e2,e,d⟩
  | _=>exact hr.elim
 ·exact V0 hr (fun _ _=>rfl) (fun _ _=>rfl) (.refl) h
theorem Dt {w:Vbcnao.Switch} {h:Vbcnao.Held} (hu:Up (w.held.map (·.v))) (v:Nat):Vbcnao.heldOf { w with held:=Vbcnao.putHeld h w.held } v = if v = h.v then some h else Vbcnao.heldOf w v:=Ol hu
theorem Wd.aon (ne:oq A) (W:Wd A ρ S H) {w:Vbcnao.Switch} (hx:S.switches[x]? = some w) (hu:Up (w.held.map (·.v))) {v:Nat} {h0 h1:Vbcnao.Held} (e0:Vbcnao.heldOf w v = some h0) (ev:h1.v = v) (et:h1.total = h0.total) {kvs:List (Key × V)}
  (d:Dk (WY H) kvs h1.rows) :
  dM A ρ S H ρ (Vbcnao.onSwitch S x fun w=>{ w with held:=Vbcnao.putHeld h1 w.held }) (upd H (ρ (.cm x v)) (.dK kvs)):=by
 have fk:=(List.getElem?_eq_some_iff.mp hx).1
 have l0:live S (.cm x v):=⟨w,h0,hx,e0⟩
 have hh:=Dt (h:=h1) hu
 rw [ev] at hh
 have hl:∀ r,live (Vbcnao.onSwitch S x fun w=>{ w with held:=Vbcnao.putHeld h1 w.held }) r → live S r:=fun r l=>by
  by_cases hr:pU x r
  ·cases r with
   | sw i =>
    subst hr
    exact fk
   | pd i =>
    subst hr
    exact fk
   | pt i v' =>
    subst hr
    obtain ⟨w',h,e1,e2⟩:=l
    have e3:(Vbcnao.changeAt S.switches i fun w=>{ w with held:=Vbcnao.putHeld h1 w.held })[i]? = some w':=e1
    rw [bh hx] at e3
    cases e3
    rw [hh] at e2
    by_cases c:v' = v
    ·subst c
     exact ⟨w,h0,hx,e0⟩
    ·rw [if_neg c] at e2
     exact ⟨w,h,hx,e2⟩
   | cm i v' =>
    subst hr
    obtain ⟨w',h,e1,e2⟩:=l
    have e3:(Vbcnao.changeAt S.switches i fun w=>{ w with held:=Vbcnao.putHeld h1 w.held })[i]? = some w':=e1
    rw [bh hx] at e3
    cases e3
    rw [hh] at e2
    by_cases c:v' = v
    ·subst c
     exact ⟨w,h0,hx,e0⟩
    ·rw [if_neg c] at e2
     exact ⟨w,h,hx,e2⟩
   | _=>exact hr.elim
  ·exact (pR hr).mp l
 have aoF:(Vbcnao.putHeld h1 w.held).map (·.v) = w.held.map (·.v):=by
  rw [qH,ev]
  obtain ⟨e1,e2⟩:=mq e0
  exact Oi hu (List.mem_map.mpr ⟨h0,e2,e1⟩)
 refine W.put ne (.cm x v) l0 hl (fun r o' Gn l h=>?_) ⟨_,h1,kvs,bh hx,by rw [hh,if_pos rfl],rfl,d.imp fun u v b _ ⟨a,q1,q2⟩=>⟨a,q1,q2.mono (IM W ne l0 _)⟩⟩
 by_cases hr:pU x r
 ·cases r with
  | sw i =>
   have:i = x:=hr
   subst this
   obtain ⟨w',g9,e1,e⟩:=h
   rw [hx] at e1
   cases e1
   exact ⟨_,g9,bh hx,e⟩
  | pd i =>
   have:i = x:=hr
   subst this
   obtain ⟨w',zq,e1,e,d⟩:=h
   rw [hx] at e1
   cases e1
   refine ⟨_,zq,bh hx,e,?_⟩
   show Dk _ zq (fj ((Vbcnao.putHeld h1 w.held).map (·.v)))
   rw [aoF]
   exact d
  | pt i v' =>
   have:i = x:=hr
   subst this
   obtain ⟨w',hd,g9,e1,e2,e⟩:=h
   rw [hx] at e1
   cases e1
   by_cases c:v' = v
   ·subst c
    rw [e0] at e2
    cases e2
    exact ⟨_,h1,g9,bh hx,by rw [hh,if_pos rfl],by rw [et]; exact e⟩
   ·exact ⟨_,hd,g9,bh hx,by rw [hh,if_neg c]; exact e2,e⟩
  | cm i v' =>
   have:i = x:=hr
   subst this
   obtain ⟨w',hd,zq,e1,e2,e,d'⟩:=h
   rw [hx] at e1
   cases e1
   by_cases c:v' = v
   ·subst c
    exact absurd rfl Gn
   ·exact ⟨_,hd,zq,bh hx,by rw [hh,if_neg c]; exact e2,e,d'⟩
  | _=>exact hr.elim
 ·exact V0 hr (fun _ _=>rfl) (fun _ _=>rfl) (.refl) h
theorem Wd.alR (ne:oq A) (W:Wd A ρ S H) {w:Vbcnao.Switch} (hx:S.switches[x]? = some w) (hu:Up (w.held.map (·.v))) {v t:Nat} (e0:Vbcnao.heldOf w v = none) {px dx cm:Addr} {H1:Hp} (s1:aH H H1) (n1:H px = none) (n2:H cm = none)
  (h1:H1 px = some (.ins A.c5 dx (qN.zip [nV t,.ref cm]))) (h2:H1 cm = some (.dK [])) {kvs:List (Key × V)} (hk:H (ρ (.pd x)) = some (.dK kvs)) :
  ∃ ρ',ρ' (.pt x v) = px ∧ ρ' (.cm x v) = cm ∧ (∀ r,r ≠ .pt x v → r ≠ .cm x v → ρ' r = ρ r) ∧
   dM A ρ S H ρ' (Vbcnao.onSwitch S x fun w=>{ w with held:=Vbcnao.putHeld ⟨v,t,[]⟩ w.held }) (upd H1 (ρ (.pd x)) (.dK (putK kvs (Sum.inl (v:Int)) (.ref px)))):=by
 have fk:=(List.getElem?_eq_some_iff.mp hx).1
 have hh:=Dt (h:=⟨v,t,[]⟩) hu
 have hnv:¬ v ∈ w.held.map (·.v):=pS.mp e0
 have hpc:px ≠ cm:=dN h1 h2 (by intro z; cases z)
 obtain ⟨zq,hk',dk⟩:=W.pd hx
 rw [hk] at hk'
 cases hk'
 let ρ':Role → Addr:=fun r=>if r = .pt x v then px else if r = .cm x v then cm else ρ r
 have r1:ρ' (.pt x v) = px:=if_pos rfl
 have r2:ρ' (.cm x v) = cm:=by
  show (if _ then _ else _) = _
  rw [if_neg (by intro z; cases z),if_pos rfl]
 have r3:∀ r,r ≠ .pt x v → r ≠ .cm x v → ρ' r = ρ r:=fun r a b=>by
  show (if _ then _ else _) = _
  rw [if_neg a,if_neg b]
 have rn:∀ r,¬ pU x r → ρ' r = ρ r:=fun r hr=>r3 r (fun z=>hr (by rw [z]; exact rfl)) fun z=>hr (by rw [z]; exact rfl)
 have rp:ρ (.pd x) ≠ px:=ay hk n1
 have rc:ρ (.pd x) ≠ cm:=ay hk n2
 have im:uw A H (upd H1 (ρ (.pd x)) (.dK (putK kvs (Sum.inl (v:Int)) (.ref px)))):=fun a o i e=>by
  have:a ≠ ρ (.pd x):=fun z=>W.vN ne i e ⟨.pd x,fk,z.symm⟩
  rw [ak this]
  exact s1 a o e
 have rm:∀ r,live S r → r ≠ .pd x → ∀ o,H (ρ r) = some o → upd H1 (ρ (.pd x)) (.dK (putK kvs (Sum.inl (v:Int)) (.ref px))) (ρ r) = some o:=fun r l hn o e=>by
  rw [ak fun z=>hn (W.inj r (.pd x) l fk z)]
  exact s1 _ _ e
 have HB:∀ i v',live S (.pt i v') → ¬ (.pt i v':Role) = .pt x v:=fun i v' l z=>by
  cases z
  obtain ⟨w',h,a,b⟩:=l
  rw [hx] at a
  cases a
  rw [e0] at b
  cases b
 have HC:∀ i v',live S (.cm i v') → ¬ (.cm i v':Role) = .cm x v:=fun i v' l z=>by
  cases z
  obtain ⟨w',h,a,b⟩:=l
  rw [hx] at a
  cases a
  rw [e0] at b
  cases b
 refine ⟨ρ',r1,r2,r3,W.Ul (fun r l=>?_) (fun r r' l l' z e=>?_) (fun b o e n=>?_) (rn _ id) (rn _ id) (rn _ id)⟩
 ·by_cases hr:pU x r
  ·cases r with
   | sw i =>
    have:i = x:=hr
    subst this
    obtain ⟨o,e,w',g9,e1,e2⟩:=W.ob (.sw i) fk
    rw [hx] at e1
    cases e1
    refine ⟨.inl ⟨fk,r3 _ (by intro z; cases z) (by intro z; cases z)⟩,o,?_,?_⟩
    ·rw [r3 _ (by intro z; cases z) (by intro z; cases z)]
     exact rm (.sw i) fk (by intro z; cases z) o e
    ·refine ⟨_,g9,bh hx,e2.trans ?_⟩
     unfold i9
     rw [r3 _ (by intro z; cases z) (by intro z; cases z)]
   | pd i =>
    have:i = x:=hr
    subst this
    refine ⟨.inl ⟨fk,r3 _ (by intro z; cases z) (by intro z; cases z)⟩,.dK (putK kvs (Sum.inl (v:Int)) (.ref px)),?_,?_⟩
    ·rw [r3 _ (by intro z; cases z) (by intro z; cases z)]
     exact ae
    ·refine ⟨_,_,bh hx,rfl,?_⟩
     have dk':Dk (IsPart ρ' i) kvs (fj (w.held.map (·.v))):=dk.imp fun u v' b hm q=>q.trans (by
      rw [r3 (.pt i v') (fun z=>hnv (by
       cases z
       have:v ∈ (fj (w.held.map (·.v))).map (·.1):=List.mem_map.mpr ⟨_,hm,rfl⟩
       rw [cX] at this
       exact this)) (by intro z; cases z)])
     have h1:=dk'.XF (v:=v) (u:=.ref px) (b:=()) (by rw [cX]; exact hnv) (by show V.ref px = .ref (ρ' (.pt i v)); rw [r1])
     refine h1.perm ?_
     show ((v,()) :: fj (w.held.map (·.v))).Perm (fj ((Vbcnao.putHeld ⟨v,t,[]⟩ w.held).map (·.v)))
     rw [qH]
     exact ((Lf hnv).map fun n=>(n,())).symm
   | pt i v' =>
    have:i = x:=hr
    subst this
    by_cases c:v' = v
    ·subst c
     refine ⟨.inr (by rw [r1]; exact n1),.ins A.c5 dx (Al ρ' i v' t),?_,_,⟨v',t,[]⟩,dx,bh hx,by rw [hh,if_pos rfl],rfl⟩
     rw [r1,ak (Ne.symm rp)]
     show H1 px = some (.ins A.c5 dx (Al ρ' i v' t))
     unfold Al
     rw [r2]
     exact h1
    ·obtain ⟨w',hd,a,b⟩:=l
     have a':(Vbcnao.changeAt S.switches i fun w=>{ w with held:=Vbcnao.putHeld ⟨v,t,[]⟩ w.held })[i]? = some w':=a
     rw [bh hx] at a'
     cases a'
     rw [hh,if_neg c] at b
     have lv:live S (.pt i v'):=⟨w,hd,hx,b⟩
     obtain ⟨o,e,w2,h2',g9,e1,e2,e3⟩:=W.ob (.pt i v') lv
     have c1:(.pt i v':Role) ≠ .pt i v:=fun z=>c (by cases z; rfl)
     have c2:(.cm i v':Role) ≠ .cm i v:=fun z=>c (by cases z; rfl)
     rw [hx] at e1
     cases e1
     refine ⟨.inl ⟨lv,r3 _ c1 (by intro z; cases z)⟩,o,?_,_,h2',g9,bh hx,by rw [hh,if_neg c]; exact e2,e3.trans ?_⟩
     ·rw [r3 _ c1 (by intro z; cases z)]
      exact rm _ lv (by intro z; cases z) o e
     ·unfold Al
      rw [r3 _ (by intro z; cases z) c2]
   | cm i v' =>
    have:i = x:=hr
    subst this
    by_cases c:v' = v
    ·subst c
     refine ⟨.inr (by rw [r2]; exact n2),.dK [],?_,_,⟨v',t,[]⟩,[],bh hx,by rw [hh,if_pos rfl],rfl,.nil⟩
     rw [r2,ak (Ne.symm rc)]
     exact h2
    ·obtain ⟨w',hd,a,b⟩:=l
     have a':(Vbcnao.changeAt S.switches i fun w=>{ w with held:=Vbcnao.putHeld ⟨v,t,[]⟩ w.held })[i]? = some w':=a
     rw [bh hx] at a'
     cases a'
     rw [hh,if_neg c] at b
     have lv:live S (.cm i v'):=⟨w,hd,hx,b⟩
     obtain ⟨o,e,h3⟩:=W.ob (.cm i v') lv
     obtain ⟨w2,h2',zq,e1,e2,e3,d⟩:=h3.mono im
     have c2:(.cm i v':Role) ≠ .cm i v:=fun z=>c (by cases z; rfl)
     rw [hx] at e1
     cases e1
     refine ⟨.inl ⟨lv,r3 _ (by intro z; cases z) c2⟩,o,?_,_,h2',zq,bh hx,by rw [hh,if_neg c]; exact e2,e3,d⟩
     rw [r3 _ (by intro z; cases z) c2]
     exact rm _ lv (by intro z; cases z) o e
   | _=>exact hr.elim
  ·have lr:=(pR hr).mp l
   obtain ⟨o,e,h⟩:=W.ob r lr
   refine ⟨.inl ⟨lr,rn r hr⟩,o,?_,V0 hr (fun _ i=>r3 _ (by intro z; cases z) (by intro z; cases z)) rn im h⟩
   rw [rn r hr]
   exact rm r lr (fun z=>hr (by rw [z]; exact rfl)) o e
 ·have old:∀ r,live S r → H (ρ r) ≠ none:=fun r l z=>by
   obtain ⟨o,e,_⟩:=W.ob r l
   rw [z] at e
   cases e
  have ags:∀ r,live (Vbcnao.onSwitch S x fun w=>{ w with held:=Vbcnao.putHeld ⟨v,t,[]⟩ w.held }) r → r = .pt x v ∨ r = .cm x v ∨ (live S r ∧ ρ' r = ρ r):=fun r l=>by
   by_cases a:r = .pt x v
   ·exact .inl a
   by_cases b:r = .cm x v
   ·exact .inr (.inl b)
   refine .inr (.inr ⟨?_,r3 r a b⟩)
   by_cases hr:pU x r
   ·cases r with
    | sw i =>
     have:i = x:=hr
     subst this
     exact fk
    | pd i =>
     have:i = x:=hr
     subst this
     exact fk
    | pt i v' =>
     have:i = x:=hr
     subst this
     obtain ⟨w',hd,e1,e2⟩:=l
     have a':(Vbcnao.changeAt S.switches i fun w=>{ w with held:=Vbcnao.putHeld ⟨v,t,[]⟩ w.held })[i]? = some w':=e1
     rw [bh hx] at a'
     cases a'
     rw [hh,if_neg (fun z=>a (by rw [show v' = v from z]))] at e2
     exact ⟨w,hd,hx,e2⟩
    | cm i v' =>
     have:i = x:=hr
     subst this
     obtain ⟨w',hd,e1,e2⟩:=l
     have a':(Vbcnao.changeAt S.switches i fun w=>{ w with held:=Vbcnao.putHeld ⟨v,t,[]⟩ w.held })[i]? = some w':=e1
     rw [bh hx] at a'
     cases a'
     rw [hh,if_neg (fun z=>b (by rw [show v' = v from z]))] at e2
     exact ⟨w,hd,hx,e2⟩
    | _=>exact hr.elim
   ·exact (pR hr).mp l
  rcases ags r l with rfl | rfl | ⟨lr,er⟩
  ·rw [r1] at z e
   rcases ags r' l' with rfl | rfl | ⟨tQ,er'⟩
   ·rfl
   ·rw [r2] at e
    exact absurd e hpc
   ·rw [er'] at e
    exact absurd (by rw [← e]; exact z) (old r' tQ)
  ·rw [r2] at z e
   rcases ags r' l' with rfl | rfl | ⟨tQ,er'⟩
   ·rw [r1] at e
    exact absurd e.symm hpc
   ·rfl
   ·rw [er'] at e
    exact absurd (by rw [← e]; exact z) (old r' tQ)
  ·rw [er] at z
   exact absurd z (old r lr)
 ·have:b ≠ ρ (.pd x):=fun z=>n ⟨.pd x,fk,z.symm⟩
  rw [ak this]
  exact s1 b o e
theorem Wd.anF (ne:oq A) (W:Wd A ρ S H) {w:Vbcnao.Switch} (hx:S.switches[x]? = some w) {f:Vbcnao.Switch → Vbcnao.Switch} (hb:(f w).boot = w.boot ∧ (f w).current = w.current ∧ (f w).floor = w.floor) (hs:∀ v h,Vbcnao.heldOf (f w) v = some h → Vbcnao.heldOf w v = some h)
  {kvs:List (Key × V)} (d:Dk (IsPart ρ x) kvs (fj ((f w).held.map (·.v)))) :
  dM A ρ S H ρ (Vbcnao.onSwitch S x f) (upd H (ρ (.pd x)) (.dK kvs)):=by
 have fk:=(List.getElem?_eq_some_iff.mp hx).1
 have hl:∀ r,live (Vbcnao.onSwitch S x f) r → live S r:=fun r l=>by
  by_cases hr:pU x r
  ·cases r with
   | sw i =>
    subst hr
    exact fk
   | pd i =>
    subst hr
    exact fk
   | pt i v =>
    subst hr
    obtain ⟨w',h,e1,e2⟩:=l
    have e3:(Vbcnao.changeAt S.switches i f)[i]? = some w':=e1
    rw [bh hx] at e3
    cases e3
    exact ⟨w,h,hx,hs v h e2⟩
   | cm i v =>
    subst hr
    obtain ⟨w',h,e1,e2⟩:=l
    have e3:(Vbcnao.changeAt S.switches i f)[i]? = some w':=e1
    rw [bh hx] at e3
    cases e3
    exact ⟨w,h,hx,hs v h e2⟩
   | _=>exact hr.elim
  ·exact (pR hr).mp l
 refine W.put ne (.pd x) fk hl (fun r o' Gn l h=>?_) ⟨f w,kvs,bh hx,rfl,d⟩
 by_cases hr:pU x r
 ·cases r with
  | sw i =>
   have:i = x:=hr
   subst this
   obtain ⟨w',g9,e1,e⟩:=h
   rw [hx] at e1
   cases e1
   refine ⟨f w,g9,bh hx,e.trans ?_⟩
   unfold i9
   rw [hb.1,hb.2.1,hb.2.2]
  | pd i =>
   have:i = x:=hr
   subst this
   exact absurd rfl Gn
  | pt i v =>
   have:i = x:=hr
   subst this
   obtain ⟨w',hd,g9,e1,e2,e⟩:=h
   rw [hx] at e1
   cases e1
   obtain ⟨w2,h2,e3,e4⟩:=l
   have e5:(Vbcnao.changeAt S.switches i f)[i]? = some w2:=e3
   rw [bh hx] at e5
   cases e5
   have:=hs v h2 e4
   rw [e2] at this
   cases this
   exact ⟨f w,hd,g9,bh hx,e4,e⟩
  | cm i v =>
   have:i = x:=hr
   subst this
   obtain ⟨w',hd,zq,e1,e2,e,d'⟩:=h
   rw [hx] at e1
   cases e1
   obtain ⟨w2,h2,e3,e4⟩:=l
   have e5:(Vbcnao.changeAt S.switches i f)[i]? = some w2:=e3
   rw [bh hx] at e5
   cases e5
   have:=hs v h2 e4
   rw [e2] at this
   cases this
   exact ⟨f w,hd,zq,bh hx,e4,e,d'⟩
  | _=>exact hr.elim
 ·exact V0 hr (fun _ _=>rfl) (fun _ _=>rfl) (.refl) h
end
end Pt
namespace Pt
open PySem PySem.Spec PyProof.Rows L2
theorem Z6 {α:Type} {f:α → α}:∀ {l:List α} {i:Nat} {x:α},l[i]? = some x → Vbcnao.changeAt l i f = Vbcnao.changeAt l i fun _=>f x
 | [],_,_,h=>by simp at h
 | y :: l,0,x,h=>by
  cases h
  rfl
 | y :: l,i + 1,x,h=>congrArg (List.cons y) (Z6 (l:=l) (i:=i) (by simpa using h))
theorem YU {α:Type} {f g:α → α}:∀ {l:List α} {i:Nat},Vbcnao.changeAt (Vbcnao.changeAt l i f) i g = Vbcnao.changeAt l i fun x=>g (f x)
 | [],_=>rfl
 | _ :: _,0=>rfl
 | y :: l,i + 1=>congrArg (List.cons y) (YU (l:=l) (i:=i))
theorem Lp {S:SS} {x:Nat} {w:Vbcnao.Switch} (hx:S.switches[x]? = some w) (f:Vbcnao.Switch → Vbcnao.Switch):Vbcnao.onSwitch S x f = Vbcnao.onSwitch S x fun _=>f w:=by
 unfold Vbcnao.onSwitch
 rw [Z6 hx]
theorem ZD {S:SS} {x:Nat} (f g:Vbcnao.Switch → Vbcnao.Switch):Vbcnao.onSwitch (Vbcnao.onSwitch S x f) x g = Vbcnao.onSwitch S x fun w=>g (f w):=by
 unfold Vbcnao.onSwitch
 rw [YU]
theorem alw {S:SS} {x:Nat} {w:Vbcnao.Switch} (hx:S.switches[x]? = some w) {f:Vbcnao.Switch → Vbcnao.Switch} (e:f w = w):Vbcnao.onSwitch S x f = S:=by
 unfold Vbcnao.onSwitch
 rw [aiX hx e]
theorem zg {S:SS} {x:Nat} {w:Vbcnao.Switch} (hx:S.switches[x]? = some w) (f:Vbcnao.Switch → Vbcnao.Switch):(Vbcnao.onSwitch S x f).switches[x]? = some (f w):=bh hx
theorem Oj {h:Vbcnao.Held}:∀ {l:List Vbcnao.Held},Up (l.map (·.v)) → h ∈ l → Vbcnao.putHeld h l = l
 | [],_,m=>by simp at m
 | y :: l,hu,m=>by
  have h0:=List.pairwise_cons.mp hu
  unfold Vbcnao.putHeld
  rcases List.mem_cons.mp m with e | m
  ·subst e
   rw [if_pos rfl]
  ·have:y.v < h.v:=h0.1 h.v (List.mem_map.mpr ⟨h,m,rfl⟩)
   rw [if_neg (by omega),if_neg (by omega),Oj h0.2 m]
theorem Su {h h':Vbcnao.Held} (e:h.v = h'.v):∀ {l:List Vbcnao.Held},Up (l.map (·.v)) → Vbcnao.putHeld h' (Vbcnao.putHeld h l) = Vbcnao.putHeld h' l
 | [],_=>by
  show Vbcnao.putHeld h' [h] = [h']
  unfold Vbcnao.putHeld
  rw [if_pos e.symm]
 | y :: l,hu=>by
  have h0:=List.pairwise_cons.mp hu
  by_cases c:h.v = y.v
  ·rw [show Vbcnao.putHeld h (y :: l) = h :: l by unfold Vbcnao.putHeld; rw [if_pos c]]
   unfold Vbcnao.putHeld
   rw [if_pos e.symm,if_pos (by omega)]
  ·by_cases d:h.v < y.v
   ·rw [show Vbcnao.putHeld h (y :: l) = h :: y :: l by unfold Vbcnao.putHeld; rw [if_neg c,if_pos d]]
    rw [show Vbcnao.putHeld h' (h :: y :: l) = h' :: y :: l by unfold Vbcnao.putHeld; rw [if_pos e.symm]]
    unfold Vbcnao.putHeld
    rw [if_neg (by omega),if_pos (by omega)]
   ·rw [show Vbcnao.putHeld h (y :: l) = y :: Vbcnao.putHeld h l by conv=>lhs; unfold Vbcnao.putHeld; rw [if_neg c,if_neg d]]
    rw [show Vbcnao.putHeld h' (y :: Vbcnao.putHeld h l) = y :: Vbcnao.putHeld h' (Vbcnao.putHeld h l) by conv=>lhs; unfold Vbcnao.putHeld; rw [if_neg (by omega),if_neg (by omega)]]
    rw [Su e h0.2]
    conv=>rhs; unfold Vbcnao.putHeld
    rw [if_neg (by omega),if_neg (by omega)]
section
variable {P:Program} {w:World} {K:W.Frag} {mg:Str → Option Value} {base:Heap} {A:bg}
noncomputable def uG (A:bg):Sp:=fun vs H Q _=>∃ (ρ:Role → Addr) (S:SS) (a:Addr) (m m2:Vbcnao.Msg),vs = [.ref (ρ .aF),nV (e7 m2),.ref a] ∧ Wd A ρ S H ∧ f9 A H a m ∧ S.cap ≤ 4096 ∧
 (mX m2 = mX m ∧ mB m2 = mB m ∧ mV m2 = mV m ∧ mI m2 = 0 ∧ mT m2 = 0 ∧ mR m2 = none) ∧ ∀ H',dM A ρ S H ρ (Vbcnao.send S m2) H' → Q .bL H'
theorem TV (T:Txt K mg A):aD P w K mg base aC 3 A.kC A.DK ["world","kind","message"] (uG A):=by
 refine T.DM.ok ajv (fun vs H Q E h=>?_) (fun au R outer s H vs Q E hr h=>?_)
 ·obtain ⟨ρ,S,a,m,m2,rfl,_⟩:=h
  rfl
 ·obtain ⟨ρ,S,a,m,m2,rfl,W,hm,hc,⟨e1,e2,e3,e4,e5,e6⟩,k⟩:=h
  obtain ⟨dx,hw⟩:=W.aF
  obtain ⟨EN,rv,hg,_⟩:=hm
  refine ⟨_,(ajd T hr (lG T) (lK T)).2,?_⟩
  refine ⟨_,rfl,_,_,_,rfl,hw,aL jR,_,rfl,_,rfl,_,_,_,_,_,rfl,hg,T.aG,T.eO,aa jv rfl rfl,_,rfl,_,_,_,_,_,rfl,hg,T.aG,T.dG,aa ji rfl rfl,_,rfl,_,_,_,_,_,rfl,hg,T.aG,T.br,aa ck rfl rfl,fun x dx nx ndx ne=>⟨x,dx,_,_,_,_,_,_,_,rfl,ae,rfl,?_⟩⟩
  rw [dO]
  have s1:aH H (nB H x dx A.aU (j9.zip [nV (e7 m2),nV (mX m),nV (mB m),nV (mV m),.int 0,.int 0,.bL])):=aH.nB nx ndx
  have st:=W.same s1
  refine ⟨ρ,S,x,m2,rfl,st.wd,⟨dx,.bL,?_,?_⟩,hc,fun H' c7 _=>k H' (st.trans c7)⟩
  ·rw [ae]
   unfold T8
   rw [e1,e2,e3,e4,e5]
   rfl
  ·rw [e6]
   exact rfl
noncomputable def DP (A:bg):Sp:=fun vs H Q _=>∃ (ρ:Role → Addr) (S:SS) (a:Addr) (x b v c:Nat),vs = [.ref (ρ .aF),.ref (ρ (.sw x)),.ref a] ∧ Wd A ρ S H ∧ Good c S ∧ f9 A H a (.flip x b v) ∧ x < S.switches.length ∧ (Vbcnao.switchAt S x).boot = b ∧
 ∀ H',dM A ρ S H ρ (Vbcnao.onFlip S x b v) H' → Q .bL H'
theorem acI (T:Txt K mg A):aD P w K mg base aC 4 A.gV A.Am ["world","switch","flip"] (DP A):=by
 refine T.II.ok aci (fun vs H Q E h=>?_) (fun au R outer s H vs Q E hr h=>?_)
 ·obtain ⟨ρ,S,a,x,b,v,c,rfl,_⟩:=h
  rfl
 ·obtain ⟨ρ,S,a,x,b,v,c,rfl,W,G,hm,hx,hb,k⟩:=h
  have hi:=gQ hx
  obtain ⟨vP,hs⟩:=W.sw hi
  obtain ⟨EN,rv,hg,A6⟩:=hm
  have hm:f9 A H a (.flip x b v):=⟨EN,rv,hg,A6⟩
  refine ⟨_,(abt T hr (TV T) (yu T)).2,?_⟩
  unfold Vbcnao.onFlip at k
  dsimp only at k
  rw [if_neg (fun z=>z hb)] at k
  refine ⟨_,rfl,_,_,_,_,_,rfl,hg,T.aG,T.br,aa ck rfl rfl,_,rfl,_,_,_,_,_,rfl,hs,T.cB,T.eI,aa mQ rfl rfl,_,_,rfl,rfl,_,rfl,?_⟩
  refine aZ (fun d=>?_) (fun d=>?_)
  ·have d':(v:Int) ≤ ((Vbcnao.switchAt S x).current:Int):=of_decide_eq_true d
   rw [if_pos (by omega)] at k
   exact ⟨_,rfl,_,rfl,ρ,S,a,_,.flipped x b v,rfl,W,hm,G.cap,⟨rfl,rfl,rfl,rfl,rfl,rfl⟩,k⟩
  ·have d':¬ ((v:Int) ≤ ((Vbcnao.switchAt S x).current:Int)):=fun z=>d (decide_eq_true z)
   rw [if_neg (by omega)] at k
   refine ⟨_,rfl,_,_,_,rfl,hs,aL yw,_,rfl,_,_,_,_,_,rfl,hg,T.aG,T.br,aa ck rfl rfl,ρ,S,x,v,_,rfl,W,hi,_,rfl,?_⟩
   refine aZ (fun f=>?_) (fun f=>?_)
   ·rw [if_pos f] at k
    refine ⟨_,rfl,_,_,_,_,_,rfl,hg,T.aG,T.br,aa ck rfl rfl,_,rfl,_,_,_,_,rfl,hs,T.cB,T.eI,(mZ rfl (by decide)),?_⟩
    have e:bz "current" (nV v) (i9 ρ x (Vbcnao.switchAt S x)) = i9 ρ x { Vbcnao.switchAt S x with current:=v }:=gH mQ rfl (by decide)
    have st:=W.akF T.gS hi (f:=fun w=>{ w with current:=v }) rfl vP
    rw [← e] at st
    exact ⟨_,rfl,_,rfl,ρ,_,a,_,.flipped x b v,rfl,st.wd,hm.mono (st.SE T.gS W),G.cap,⟨rfl,rfl,rfl,rfl,rfl,rfl⟩,fun H' c7=>k H' (st.trans c7)⟩
   ·rw [if_neg f] at k
    exact k H (.refl W)
noncomputable def jq (w:Vbcnao.Switch) (v t:Nat):Vbcnao.Held:=(Vbcnao.heldOf w v).getD ⟨v,t,[]⟩
theorem RD (w:Vbcnao.Switch) (v t:Nat):(jq w v t).v = v:=by
 unfold jq
 cases e:Vbcnao.heldOf w v with
 | none=>rfl
 | some h=>exact (mq e).1
theorem Og (w:Vbcnao.Switch) (v i t:Nat) (r:Option Vbcnao.Rule):(fJ w v i t r).v = v:=by
 cases r with
 | none=>exact RD w v t
 | some r=>exact RD w v t
theorem aij (w:Vbcnao.Switch) (v i t:Nat) (r:Option Vbcnao.Rule):(fJ w v i t r).total = (jq w v t).total:=by
 cases r <;> rfl
noncomputable def G8 (A:bg):Sp:=fun vs H Q _=>∃ (ρ:Role → Addr) (S:SS) (a:Addr) (x b v i t:Nat) (r:Option Vbcnao.Rule) (c:Nat),vs = [.ref (ρ .aF),.ref (ρ (.sw x)),.ref a] ∧ Wd A ρ S H ∧ Good c S ∧ c ≤ 400 ∧ f9 A H a (.row x b v i t r) ∧ i < 64 ∧ x < S.switches.length ∧ (Vbcnao.switchAt S x).boot = b ∧
 ∀ ρ' H',dM A ρ S H ρ' (Vbcnao.onRow S x b v i t r) H' → Q .bL H'
theorem aeY (T:Txt K mg A):aD P w K mg base aC 4 A.iL A.Du ["world","switch","row"] (G8 A):=by
 refine T.Mt.ok Sq (fun vs H Q E h=>?_) (fun au R outer s H vs Q E hr h=>?_)
 ·obtain ⟨ρ,S,a,x,b,v,i,t,r,c,rfl,_⟩:=h
  rfl
 ·obtain ⟨ρ,S,a,x,b,v,i,t,r,c,rfl,W,G,hc,EE,aqB,hx,hb,k⟩:=h
  have hi:=gQ hx
  have gw:=G.sw _ (iD hx)
  obtain ⟨vP,hs⟩:=W.sw hi
  obtain ⟨EN,rv,hg,A6⟩:=EE
  have hm:f9 A H a (.row x b v i t r):=⟨EN,rv,hg,A6⟩
  refine ⟨_,(aeQ T hr (acO T) (D6 T) (TV T)).2,?_⟩
  rw [Lq] at k
  refine ⟨_,rfl,_,_,_,_,_,rfl,hg,T.aG,T.br,aa ck rfl rfl,_,rfl,_,_,_,_,_,rfl,hs,T.cB,T.fV,aa qk rfl rfl,_,_,rfl,rfl,_,rfl,?_⟩
  refine aZ (fun d=>?_) (fun d=>?_)
  ·have d':(v:Int) ≤ ((Vbcnao.switchAt S x).floor:Int):=of_decide_eq_true d
   rw [if_pos (.inr (by omega))] at k
   exact k ρ H (.refl W)
  have d':¬ (v:Int) ≤ ((Vbcnao.switchAt S x).floor:Int):=fun z=>d (decide_eq_true z)
  rw [if_neg (fun z=>z.elim (fun y=>y hb) fun y=>d' (by omega))] at k
  dsimp only [agL]
  refine rS (t1:=K5 _ _ _) (fun σ' H'=>∃ ρ1,σ' = [some (.ref (ρ .aF)),some (.ref (ρ (.sw x))),some (.ref a),none] ∧ ρ1 (.sw x) = ρ (.sw x) ∧ dM A ρ S H ρ1 (Vbcnao.onSwitch S x fun w=>{ w with held:=Vbcnao.putHeld (jq (Vbcnao.switchAt S x) v t) w.held }) H') ?_ ?_
  ·rintro σ' H1 ⟨ρ1,rfl,rs,st⟩
   have W1:=st.wd
   have We:=hm.mono (st.SE T.gS W)
   obtain ⟨aqf,rv1,MW,aj9⟩:=We
   have We:f9 A H1 a (.row x b v i t r):=⟨aqf,rv1,MW,aj9⟩
   have SK:=zg hi fun w=>{ w with held:=Vbcnao.putHeld (jq (Vbcnao.switchAt S x) v t) w.held }
   have hh1:=Dt (h:=jq (Vbcnao.switchAt S x) v t) gw.up v
   rw [RD,if_pos rfl] at hh1
   have up1:Up ((Vbcnao.putHeld (jq (Vbcnao.switchAt S x) v t) (Vbcnao.switchAt S x).held).map (·.v)):=by
    rw [qH]
    exact vB _ gw.up
   obtain ⟨aqC,hs1⟩:=W1.sw SK
   rw [rs] at hs1
   obtain ⟨anc,hd1,hv1⟩:=W1.part SK hh1 up1
   obtain ⟨aqF,JT⟩:=W1.pt SK hh1
   obtain ⟨Pd,anu,dk1⟩:=W1.cm SK hh1
   have ap4:∀ y ∈ (jq (Vbcnao.switchAt S x) v t).rows,y.1 < 64:=by
    unfold jq
    cases e:Vbcnao.heldOf (Vbcnao.switchAt S x) v with
    | none=>simp
    | some h=>exact (gw.rows h (mq e).2).2
   have anv:Up ((jq (Vbcnao.switchAt S x) v t).rows.map (·.1)):=by
    unfold jq
    cases e:Vbcnao.heldOf (Vbcnao.switchAt S x) v with
    | none=>simp [Up]
    | some h=>exact (gw.rows h (mq e).2).1
   have aoI:(jq (Vbcnao.switchAt S x) v t).rows.length ≤ 64:=by
    have:=IP (n:=64) (b:=0) anv fun y hy=>by
     obtain ⟨z,hz,rfl⟩:=List.mem_map.mp hy
     have:=ap4 z hz
     omega
    rwa [List.length_map] at this
   refine ⟨_,rfl,_,_,_,_,_,rfl,hs1,T.cB,T.cE,aa d9 rfl rfl,_,rfl,_,_,_,_,_,rfl,MW,T.aG,T.br,aa ck rfl rfl,_,_,rfl,(by have:=jn.k (k:=Sum.inl (v:Int)) hd1; rw [hv1] at this; exact this),?_⟩
   dsimp only [LW]
   refine rS (t1:=K5 _ _ _) (fun σ' H'=>σ' = [some (.ref (ρ .aF)),some (.ref (ρ (.sw x))),some (.ref a),some (.ref (ρ1 (.pt x v)))] ∧ dM A ρ S H ρ1 (Vbcnao.onSwitch S x fun w=>{ w with held:=Vbcnao.putHeld (fJ (Vbcnao.switchAt S x) v i t r) w.held }) H') ?_ ?_
   ·rintro σ' H2 ⟨rfl,c7⟩
    have W2:=c7.wd
    have hm2:=hm.mono (c7.SE T.gS W)
    have hi2:=zg hi fun w=>{ w with held:=Vbcnao.putHeld (fJ (Vbcnao.switchAt S x) v i t r) w.held }
    have hh2:=Dt (h:=fJ (Vbcnao.switchAt S x) v i t r) gw.up v
    rw [Og,if_pos rfl] at hh2
    obtain ⟨aqe,lR⟩:=W2.pt hi2 hh2
    obtain ⟨apI,ap1,EO⟩:=W2.cm hi2 hh2
    refine ⟨_,rfl,_,_,_,rfl,lR,aL Eb,_,aqe,_,_,apI,rfl,lR,ap1,_,rfl,?_⟩
    rw [EO.len]
    have ew:Vbcnao.whole (fJ (Vbcnao.switchAt S x) v i t r) = decide ((fJ (Vbcnao.switchAt S x) v i t r).rows.length = (fJ (Vbcnao.switchAt S x) v i t r).total):=by
     unfold Vbcnao.whole
     by_cases z:(fJ (Vbcnao.switchAt S x) v i t r).rows.length = (fJ (Vbcnao.switchAt S x) v i t r).total
     ·rw [decide_eq_true z,z]
      exact beq_self_eq_true _
     ·rw [decide_eq_false z]
      exact beq_eq_false_iff_ne.mpr z
    rw [← ew]
    refine aZ (fun f=>?_) (fun f=>?_)
    ·rw [if_pos f] at k
     have w0:ρ1 .aF = ρ .aF:=st.w0
     exact ⟨_,rfl,_,rfl,ρ1,_,a,_,.have_ x b v,(by rw [w0]; rfl),W2,hm2,G.cap,⟨rfl,rfl,rfl,rfl,rfl,rfl⟩,fun H' m5=>k ρ1 H' (c7.trans m5)⟩
    ·rw [if_neg f] at k
     exact k ρ1 H2 c7
   ·intro rest
    cases r with
    | none =>
     cases aj9
     refine ⟨_,rfl,_,_,_,_,_,rfl,MW,T.aG,T.eZ,aa lQ rfl rfl,rfl,_,rfl,?_⟩
     exact rest _ _ ⟨rfl,st⟩
    | some r =>
     obtain ⟨ar,rfl,hra⟩:=aj9
     refine ⟨_,rfl,_,_,_,_,_,rfl,MW,T.aG,T.eZ,aa lQ rfl rfl,rfl,_,rfl,?_⟩
     refine ⟨_,rfl,_,_,_,_,_,rfl,MW,T.aG,T.gi,aa uR rfl rfl,_,rfl,_,_,_,_,_,rfl,JT,T.kD,T.gh,aa nM rfl rfl,_,_,rfl,jn.k (k:=Sum.inl (i:Int)) anu,_,rfl,?_⟩
     rw [dk1.isSome]
     by_cases JU:i ∈ (jq (Vbcnao.switchAt S x) v t).rows.map (·.1)
     ·rw [decide_eq_true JU]
      have e:fJ (Vbcnao.switchAt S x) v i t (some r) = jq (Vbcnao.switchAt S x) v t:=by
       show { jq (Vbcnao.switchAt S x) v t with rows:=Vbcnao.putRow i r (jq (Vbcnao.switchAt S x) v t).rows } = _
       rw [Zw anv JU]
      rw [e] at rest
      exact rest _ _ ⟨rfl,st⟩
     ·rw [decide_eq_false JU]
      refine ⟨_,rfl,_,_,_,_,_,rfl,MW,T.aG,T.eZ,aa lQ rfl rfl,_,rfl,_,_,_,_,_,rfl,JT,T.kD,T.gh,aa nM rfl rfl,_,rfl,_,_,_,_,_,rfl,MW,T.aG,T.gi,aa uR rfl rfl,_,_,rfl,FP.k (k:=Sum.inl (i:Int)) anu ?_,?_⟩
      ·rw [dk1.len]
       exact Nat.lt_of_le_of_lt aoI (by decide)
      ·have EO:Dk (WY H1) (putK Pd (Sum.inl (i:Int)) (.ref ar)) (fJ (Vbcnao.switchAt S x) v i t (some r)).rows:=(dk1.XF JU ⟨ar,rfl,hra⟩).perm (Vx JU).symm
       have c7:=W1.aon T.gS SK up1 hh1 (Og (Vbcnao.switchAt S x) v i t (some r)) (aij _ _ _ _ _) EO
       have es:Vbcnao.onSwitch (Vbcnao.onSwitch S x fun w=>{ w with held:=Vbcnao.putHeld (jq (Vbcnao.switchAt S x) v t) w.held }) x (fun w=>{ w with held:=Vbcnao.putHeld (fJ (Vbcnao.switchAt S x) v i t (some r)) w.held }) = Vbcnao.onSwitch S x fun w=>{ w with held:=Vbcnao.putHeld (fJ (Vbcnao.switchAt S x) v i t (some r)) w.held }:=by
        rw [ZD]
        refine (Lp hi _).trans (Eq.trans ?_ (Lp hi _).symm)
        show Vbcnao.onSwitch S x (fun _=>{ Vbcnao.switchAt S x with held:=Vbcnao.putHeld _ (Vbcnao.putHeld _ (Vbcnao.switchAt S x).held) }) = _
        rw [Su (by rw [RD,Og]) gw.up]
       rw [es] at c7
       exact rest _ _ ⟨rfl,st.trans c7⟩
  ·intro rest
   obtain ⟨kvs,hd,dk⟩:=W.pd hi
   refine ⟨_,rfl,_,_,_,_,_,rfl,hg,T.aG,T.br,aa ck rfl rfl,_,rfl,_,_,_,_,_,rfl,hs,T.cB,T.cE,aa d9 rfl rfl,_,_,rfl,jn.k (k:=Sum.inl (v:Int)) hd,_,rfl,?_⟩
   rw [dk.isSome,cX]
   cases e:Vbcnao.heldOf (Vbcnao.switchAt S x) v with
   | some h0 =>
    have JU:v ∈ (Vbcnao.switchAt S x).held.map (·.v):=Classical.byContradiction fun z=>by
     rw [pS.mpr z] at e
     cases e
    rw [decide_eq_true JU]
    have eb:jq (Vbcnao.switchAt S x) v t = h0:=by
     unfold jq
     rw [e]
     rfl
    rw [eb] at rest
    rw [alw hi (by rw [Oj gw.up (mq e).2])] at rest
    exact rest _ _ ⟨ρ,rfl,rfl,.refl W⟩
   | none =>
    have JU:¬ v ∈ (Vbcnao.switchAt S x).held.map (·.v):=pS.mp e
    rw [decide_eq_false JU]
    have eb:jq (Vbcnao.switchAt S x) v t = ⟨v,t,[]⟩:=by
     unfold jq
     rw [e]
     rfl
    rw [eb] at rest
    refine ⟨_,rfl,_,_,_,_,_,rfl,hg,T.aG,T.ie,aa EA rfl rfl,fun px sj qh wN nep=>⟨px,sj,_,rfl,ae,fun cm H1 ncm h1 h2 h3=>⟨rfl,?_⟩⟩⟩
    have am8:H cm = none:=by
     by_cases z1:cm = px
     ·rw [z1]
      exact qh
     ·by_cases z2:cm = sj
      ·rw [z2]
       exact wN
      ·rw [ak z1,ak z2] at ncm
       exact ncm
    have s1:aH H H1:=fun b o eo=>by
     rw [h3 b (ay eo qh) (ay eo am8),ak (ay eo qh),ak (ay eo wN)]
     exact eo
    refine ⟨_,rfl,_,_,_,_,_,rfl,s1 _ _ hs,T.cB,T.cE,aa d9 rfl rfl,_,rfl,_,_,_,_,_,rfl,s1 _ _ hg,T.aG,T.br,aa ck rfl rfl,_,_,rfl,FP.k (k:=Sum.inl (v:Int)) (s1 _ _ hd) ?_,?_⟩
    ·have:=G.Ur (iD hx)
     rw [dk.len]
     unfold fj
     rw [List.length_map,List.length_map]
     exact Nat.lt_of_le_of_lt this (Nat.lt_of_le_of_lt (Nat.succ_le_succ hc) (by decide))
    ·obtain ⟨ρ1,r1,r2,r3,st⟩:=W.alR T.gS hi gw.up e (t:=t) s1 qh am8 h1 h2 hd
     exact rest _ _ ⟨ρ1,rfl,r3 _ (by intro z; cases z) (by intro z; cases z),st⟩
end
end Pt
namespace Pt
open PySem PySem.Spec PyProof.Rows L2
noncomputable def dropped (w:Vbcnao.Switch) (v:Nat) (ks:List Nat):Vbcnao.Switch:={ w with floor:=max w.floor v,held:=w.held.filter fun h=>!(decide (h.v ≤ v) && decide (h.v ∈ ks)) }
theorem nS {w:Vbcnao.Switch} {v:Nat} {ks:List Nat} (u:Nat):Vbcnao.heldOf (dropped w v ks) u = if u ≤ v ∧ u ∈ ks then none else Vbcnao.heldOf w u:=by
 unfold Vbcnao.heldOf dropped
 show List.find? _ (w.held.filter _) = _
 induction w.held with
 | nil=>simp
 | cons y l ih =>
  rw [List.filter_cons]
  by_cases c:(!(decide (y.v ≤ v) && decide (y.v ∈ ks))) = true
  ·rw [if_pos c,List.find?_cons,List.find?_cons]
   by_cases e:y.v = u
   ·have:(y.v == u) = true:=by rw [e]; exact beq_self_eq_true _
    rw [this]
    have c':¬ (u ≤ v ∧ u ∈ ks):=fun z=>by
     rw [← e] at z
     simp [z.1,z.2] at c
    rw [if_neg c']
   ·have:(y.v == u) = false:=beq_eq_false_iff_ne.mpr e
    rw [this]
    exact ih
  ·rw [if_neg c,ih]
   have c':y.v ≤ v ∧ y.v ∈ ks:=by simpa using c
   by_cases d:u ≤ v ∧ u ∈ ks
   ·rw [if_pos d,if_pos d]
   ·rw [if_neg d,if_neg d,List.find?_cons]
    have:(y.v == u) = false:=beq_eq_false_iff_ne.mpr fun z=>d (by rw [← z]; exact c')
    rw [this]
theorem xF (w:Vbcnao.Switch) (v:Nat) (ks:List Nat):(dropped w v ks).held.map (·.v) = (w.held.map (·.v)).filter fun u=>!(decide (u ≤ v) && decide (u ∈ ks)):=by
 unfold dropped
 show (w.held.filter _).map _ = _
 rw [List.filter_map]
 rfl
theorem adn (l:List Nat) (p:Nat → Bool):fj (l.filter p) = (fj l).filter fun q=>p q.1:=by
 unfold fj
 rw [List.filter_map]
 rfl
section
variable {P:Program} {w:World} {K:W.Frag} {mg:Str → Option Value} {base:Heap} {A:bg}
noncomputable def DQ (A:bg):Sp:=fun vs H Q _=>∃ (ρ:Role → Addr) (S:SS) (a:Addr) (x b v c:Nat),vs = [.ref (ρ .aF),.ref (ρ (.sw x)),.ref a] ∧ Wd A ρ S H ∧ Good c S ∧ f9 A H a (.drop x b v) ∧ x < S.switches.length ∧ (Vbcnao.switchAt S x).boot = b ∧
 ∀ H',dM A ρ S H ρ (Vbcnao.onDrop S x b v) H' → Q .bL H'
theorem acJ (T:Txt K mg A):aD P w K mg base aC 4 A.gW A.An ["world","switch","drop"] (DQ A):=by
 refine T.IJ.ok N7 (fun vs H Q E h=>?_) (fun au R outer s H vs Q E hr h=>?_)
 ·obtain ⟨ρ,S,a,x,b,v,c,rfl,_⟩:=h
  rfl
 ·obtain ⟨ρ,S,a,x,b,v,c,rfl,W,G,EE,hx,hb,k⟩:=h
  have hi:=gQ hx
  have gw:=G.sw _ (iD hx)
  obtain ⟨vP,hs⟩:=W.sw hi
  obtain ⟨EN,rv,hg,A6⟩:=EE
  have hm:f9 A H a (.drop x b v):=⟨EN,rv,hg,A6⟩
  refine ⟨_,(abu T hr (TV T)).2,?_⟩
  unfold Vbcnao.onDrop at k
  dsimp only at k
  rw [if_neg (fun z=>z hb)] at k
  refine ⟨_,rfl,_,_,_,_,_,rfl,hs,T.cB,T.fV,aa qk rfl rfl,_,rfl,_,_,_,_,_,rfl,hg,T.aG,T.br,aa ck rfl rfl,_,_,rfl,_,rfl,_,_,_,_,rfl,hs,T.cB,T.fV,(mZ rfl (by decide)),?_⟩
  have emax:(if ((v:Nat):Int) > (((Vbcnao.switchAt S x).floor:Nat):Int) then ((v:Nat):Int) else (((Vbcnao.switchAt S x).floor:Nat):Int)) = ((max (Vbcnao.switchAt S x).floor v:Nat):Int):=by
   split <;> omega
  have e0:dropped (Vbcnao.switchAt S x) v [] = { Vbcnao.switchAt S x with floor:=max (Vbcnao.switchAt S x).floor v }:=by
   unfold dropped
   simp
  have ef:bz "floor" (V.int (if ((v:Nat):Int) > (((Vbcnao.switchAt S x).floor:Nat):Int) then ((v:Nat):Int) else (((Vbcnao.switchAt S x).floor:Nat):Int))) (i9 ρ x (Vbcnao.switchAt S x)) = i9 ρ x (dropped (Vbcnao.switchAt S x) v []):=by
   rw [emax,e0]
   exact gH qk rfl (by decide)
  have N1:=W.akF T.gS hi (f:=fun _=>dropped (Vbcnao.switchAt S x) v []) (by rw [e0]) vP
  rw [← ef] at N1
  have W0:=N1.wd
  have hi0:=zg hi fun _=>dropped (Vbcnao.switchAt S x) v []
  obtain ⟨aqv,hd0,dk0⟩:=W0.pd hi0
  obtain ⟨aqD,hs0⟩:=W0.sw hi0
  obtain ⟨ks,ahu,hks⟩:=dk0.keys
  rw [cX,xF] at ahu
  have anq:∀ u,u ∈ ks ↔ u ∈ (Vbcnao.switchAt S x).held.map (·.v):=fun u=>by
   rw [ahu.mem_iff,List.mem_filter]
   simp
  have We:=hm.mono (N1.SE T.gS W)
  refine ⟨_,rfl,_,_,_,_,_,rfl,hs0,T.cB,T.cE,aa d9 rfl rfl,_,_,rfl,hd0,fun l hl=>?_⟩
  rw [hks]
  have s1:=aH.upd (o:=.lst (ks.map fun (n:Nat)=>V.int (n:Int))) hl
  refine ⟨_,rfl,⟨_,aM.of ae⟩,iK (K:=K) (a:=l) (xs:=ks.map fun (n:Nat)=>V.int (n:Int)) (fun i σ H'=>∃ u:Option V,σ = [some (.ref (ρ .aF)),some (.ref (ρ (.sw x))),some (.ref a),u] ∧
    H' l = some (.lst (ks.map fun (n:Nat)=>V.int (n:Int))) ∧ f9 A H' a (.drop x b v) ∧ dM A ρ S H ρ (Vbcnao.onSwitch S x fun _=>dropped (Vbcnao.switchAt S x) v (ks.take i)) H')
   ⟨none,rfl,ae,We.mono (.of_same s1),N1.trans (W0.same s1)⟩ (fun i σ H' _ ⟨_,_,e,_⟩=>aM.of e) ?_ ?_⟩
  ·rintro i y σ H' sf ⟨u0,rfl,hl',hm',lq⟩
   obtain ⟨u,hu,rfl⟩:=nE (f:=fun (n:Nat)=>V.int (n:Int)) sf
   obtain ⟨aqg,rv',hg',apM⟩:=hm'
   have hm':f9 A H' a (.drop x b v):=⟨aqg,rv',hg',apM⟩
   have W':=lq.wd
   have hsx:=zg hi fun _=>dropped (Vbcnao.switchAt S x) v (ks.take i)
   obtain ⟨aqE,hs'⟩:=W'.sw hsx
   obtain ⟨zq,Wk,dk'⟩:=W'.pd hsx
   have aoz:=(anq u).mp (List.mem_of_getElem? hu)
   have knd:ks.Nodup:=by
    refine ahu.nodup_iff.mpr (List.Pairwise.sublist List.filter_sublist (KZ gw.up))
   have apR:¬ u ∈ ks.take i:=fun z=>by
    obtain ⟨j,hj,e⟩:=List.getElem_of_mem z
    rw [List.length_take] at hj
    rw [List.getElem_take] at e
    have:=ahf knd (List.getElem?_eq_some_iff.mpr ⟨_,e⟩) hu
    omega
   refine ⟨_,rfl,_,rfl,_,_,_,_,_,rfl,hg',T.aG,T.br,aa ck rfl rfl,_,_,rfl,rfl,_,rfl,?_⟩
   refine aZ (fun d=>?_) (fun d=>?_)
   ·have d':(u:Int) ≤ (v:Int):=of_decide_eq_true d
    have JU:u ∈ (fj ((dropped (Vbcnao.switchAt S x) v (ks.take i)).held.map (·.v))).map (·.1):=by
     rw [cX,xF]
     exact List.mem_filter.mpr ⟨aoz,by simp [apR]⟩
    cases ev:iz zq (Sum.inl (u:Int)) with
    | none=>exact absurd JU ((dk'.Ly u).mp ev)
    | some pv =>
     refine ⟨_,rfl,_,_,_,_,_,rfl,hs',T.cB,T.cE,aa d9 rfl rfl,_,rfl,(.inl ⟨_,.inl Wk⟩),_,rfl,_,_,_,Wk,(show V.int (u:Int) = kV (Sum.inl (u:Int)) from rfl),ev,?_⟩
     have EO:=dk'.drop u
     have ek:(fj ((dropped (Vbcnao.switchAt S x) v (ks.take i)).held.map (·.v))).filter (fun p=>decide (p.1 ≠ u)) = fj ((dropped (Vbcnao.switchAt S x) v (ks.take (i + 1))).held.map (·.v)):=by
      rw [xF,xF,← adn _ (fun n=>decide (n ≠ u)),List.filter_filter]
      congr 1
      refine List.filter_congr fun n _=>?_
      rw [take_snoc hu]
      by_cases en:n = u
      ·subst en
       have:n ≤ v:=by omega
       simp [this]
      ·simp [en]
     rw [ek] at EO
     have c7:=W'.anF T.gS hsx (f:=fun _=>dropped (Vbcnao.switchAt S x) v (ks.take (i + 1))) ⟨rfl,rfl,rfl⟩ (fun n h e=>by
      rw [nS] at e ⊢
      by_cases z:n ≤ v ∧ n ∈ ks.take (i + 1)
      ·rw [if_pos z] at e
       cases e
      ·rw [if_neg z] at e
       rw [if_neg fun y=>z ⟨y.1,by rw [take_snoc hu]; exact List.mem_append_left _ y.2⟩]
       exact e) EO
     have hlo:¬ Own ρ (Vbcnao.onSwitch S x fun _=>dropped (Vbcnao.switchAt S x) v (ks.take i)) l:=fun z=>W0.afJ hl (by
      obtain ⟨r,lr,e⟩:=z
      refine ⟨r,?_,e⟩
      by_cases hr:pU x r
      ·cases r with
       | sw j =>
        show j < (Vbcnao.changeAt S.switches x _).length
        rw [iR]
        have:j < (Vbcnao.changeAt S.switches x _).length:=lr
        rw [iR] at this
        exact this
       | pd j =>
        show j < (Vbcnao.changeAt S.switches x _).length
        rw [iR]
        have:j < (Vbcnao.changeAt S.switches x _).length:=lr
        rw [iR] at this
        exact this
       | pt j n =>
        have:j = x:=hr
        subst this
        obtain ⟨w',hh,a1,a2⟩:=lr
        rw [hsx] at a1
        cases a1
        rw [nS] at a2
        by_cases z:n ≤ v ∧ n ∈ ks.take i
        ·rw [if_pos z] at a2
         cases a2
        ·rw [if_neg z] at a2
         exact ⟨_,hh,hi0,by rw [nS,if_neg (by simp)]; exact a2⟩
       | cm j n =>
        have:j = x:=hr
        subst this
        obtain ⟨w',hh,a1,a2⟩:=lr
        rw [hsx] at a1
        cases a1
        rw [nS] at a2
        by_cases z:n ≤ v ∧ n ∈ ks.take i
        ·rw [if_pos z] at a2
         cases a2
        ·rw [if_neg z] at a2
         exact ⟨_,hh,hi0,by rw [nS,if_neg (by simp)]; exact a2⟩
       | _=>exact hr.elim
      ·exact (pR hr).mpr ((pR hr).mp lr))
     have m5:=lq.trans c7
     rw [ZD] at m5
     exact ⟨_,rfl,c7.keep _ _ hl' hlo,hm'.mono (c7.SE T.gS W'),m5⟩
   ·have d':¬ (u:Int) ≤ (v:Int):=fun z=>d (decide_eq_true z)
    have e:dropped (Vbcnao.switchAt S x) v (ks.take (i + 1)) = dropped (Vbcnao.switchAt S x) v (ks.take i):=by
     unfold dropped
     congr 1
     refine List.filter_congr fun h _=>?_
     rw [take_snoc hu]
     by_cases en:h.v = u
     ·have:¬ u ≤ v:=by omega
      simp [en,this]
     ·simp [en]
    refine ⟨_,rfl,hl',hm',?_⟩
    rw [e]
    exact lq
  ·rintro σ H' ⟨u0,rfl,hl',hm',lq⟩
   rw [List.length_map,List.take_length] at lq
   have e:((Vbcnao.switchAt S x).held.filter fun h=>decide (v < h.v)) = (Vbcnao.switchAt S x).held.filter fun h=>!(decide (h.v ≤ v) && decide (h.v ∈ ks)):=by
    refine List.filter_congr fun h hh=>?_
    have JU:h.v ∈ ks:=(anq h.v).mpr (List.mem_map.mpr ⟨h,hh,rfl⟩)
    by_cases z:v < h.v
    ·have:¬ h.v ≤ v:=by omega
     simp [z,this]
    ·have:h.v ≤ v:=by omega
     simp [z,this,JU]
   rw [Lp hi,e] at k
   exact ⟨_,rfl,_,rfl,ρ,_,a,_,.gone x b v,rfl,lq.wd,hm',G.cap,⟨rfl,rfl,rfl,rfl,rfl,rfl⟩,fun H2 c7=>k H2 (lq.trans c7)⟩
end
end Pt
namespace Pt
open PySem PySem.Spec PyProof.Rows L2
theorem acu {ρ ρ':Role → Addr} {f:Nat → Role} {n x:Nat} {p:Addr} (hx:ρ' (f x) = p) (h:∀ i,i ≠ x → ρ' (f i) = ρ (f i)):(refs ρ f n).set x (.ref p) = refs ρ' f n:=by
 apply List.ext_getElem?
 intro i
 by_cases hi:i < n
 ·rw [jG hi]
  by_cases e:i = x
  ·subst e
   rw [List.getElem?_set_self (by rw [gf]; exact hi),hx]
  ·rw [List.getElem?_set_ne (fun z=>e z.symm),jG hi,h i e]
 ·rw [List.getElem?_eq_none (by rw [List.length_set,gf]; omega),List.getElem?_eq_none (by rw [gf]; omega)]
theorem Yx {n j:Nat} (h:j < n):Wa n (j:Int) = some j:=by
 unfold Wa
 rw [if_pos (by omega),if_pos (by omega)]
 simp
section
variable {A:bg} {ρ:Role → Addr} {S:SS} {H:Hp} {x:Nat}
theorem Wd.abh (ne:oq A) (W:Wd A ρ S H) {k:Vbcnao.Known} (hx:S.known[x]? = some k) {f:Vbcnao.Known → Vbcnao.Known} (r0:Role) (l0:live S r0) {o:HO} (hs:r0 ≠ .j7 → ∀ k,(f k).boot = k.boot)
  (hm:r0 ≠ .mm x → (f k).flipped = k.flipped) (hh:r0 ≠ .hv x → (f k).haves = k.haves) (hg:r0 ≠ .gn x → (f k).gones = k.gones) (h0:Ob A ρ (Vbcnao.onKnown S x f) (upd H (ρ r0) o) r0 o):dM A ρ S H ρ (Vbcnao.onKnown S x f) (upd H (ρ r0) o):=by
 refine W.put ne r0 l0 (fun r l=>RB.mp l) (fun r o' hr l h=>?_) h0
 by_cases hk:OT x r
 ·cases r with
  | mm i =>
   have:i = x:=hk
   subst this
   obtain ⟨k',dx,e1,e⟩:=h
   rw [hx] at e1
   cases e1
   refine ⟨f k,dx,bh hx,e.trans ?_⟩
   unfold BH
   rw [hm (Ne.symm hr)]
  | hv i =>
   have:i = x:=hk
   subst this
   obtain ⟨k',kvs,e1,e,d⟩:=h
   rw [hx] at e1
   cases e1
   exact ⟨f k,kvs,bh hx,e,by rw [hh (Ne.symm hr)]; exact d⟩
  | gn i =>
   have:i = x:=hk
   subst this
   obtain ⟨k',kvs,e1,e,d⟩:=h
   rw [hx] at e1
   cases e1
   exact ⟨f k,kvs,bh hx,e,by rw [hg (Ne.symm hr)]; exact d⟩
  | _=>exact hk.elim
 ·exact akK hk (fun e=>hs (fun z=>hr (e.trans z.symm))) (fun _ _=>rfl) (fun _ _=>rfl) .refl h
theorem Wd.old (W:Wd A ρ S H) {r:Role} (l:live S r):H (ρ r) ≠ none:=fun z=>by
 obtain ⟨o,e,_⟩:=W.ob r l
 rw [z] at e
 cases e
theorem Wd.am5 (ne:oq A) (W:Wd A ρ S H) {k:Vbcnao.Known} (hx:S.known[x]? = some k) {px dx hv gn:Addr} {H1:Hp} (s1:aH H H1) (n1:H px = none) (n2:H hv = none) (n3:H gn = none) (n4:hv ≠ gn)
  (h1:H1 px = some (.ins A.bZ dx (qP.zip [.ref hv,.int 0,.ref gn]))) (h2:H1 hv = some (.dK [])) (h3:H1 gn = some (.dK [])) :
  ∃ ρ',(∀ r,¬ OT x r → ρ' r = ρ r) ∧ dM A ρ S H ρ' (Vbcnao.onKnown S x fun k=>⟨k.boot,[],0,[]⟩) (upd H1 (ρ .eS) (.lst ((refs ρ .mm S.known.length).set x (.ref px)))):=by
 have fk:=(List.getElem?_eq_some_iff.mp hx).1
 let ρ':Role → Addr:=fun r=>if r = .mm x then px else if r = .hv x then hv else if r = .gn x then gn else ρ r
 have r1:ρ' (.mm x) = px:=if_pos rfl
 have r2:ρ' (.hv x) = hv:=by
  show (if _ then _ else _) = _
  rw [if_neg (by intro z; cases z),if_pos rfl]
 have r3:ρ' (.gn x) = gn:=by
  show (if _ then _ else _) = _
  rw [if_neg (by intro z; cases z),if_neg (by intro z; cases z),if_pos rfl]
 have rn:∀ r,¬ OT x r → ρ' r = ρ r:=fun r hr=>by
  show (if _ then _ else _) = _
  rw [if_neg (fun z=>hr (by rw [z]; exact rfl)),if_neg (fun z=>hr (by rw [z]; exact rfl)),if_neg (fun z=>hr (by rw [z]; exact rfl))]
 have nph:px ≠ hv:=dN h1 h2 (by intro z; cases z)
 have npg:px ≠ gn:=dN h1 h3 (by intro z; cases z)
 have em:=acu (ρ:=ρ) (ρ':=ρ') (f:=.mm) (n:=S.known.length) r1 fun i hi=>rn (.mm i) hi
 have rm:∀ b,b ≠ ρ .eS → upd H1 (ρ .eS) (.lst ((refs ρ .mm S.known.length).set x (.ref px))) b = H1 b:=fun b hb=>ak hb
 have im:uw A H (upd H1 (ρ .eS) (.lst ((refs ρ .mm S.known.length).set x (.ref px)))):=fun a o i e=>by
  rw [rm a fun z=>W.vN ne i e ⟨.eS,trivial,z.symm⟩]
  exact s1 a o e
 have nm:∀ b,H b = none → b ≠ ρ .eS:=fun b hb z=>W.old (r:=.eS) trivial (by rw [← z]; exact hb)
 refine ⟨ρ',rn,W.Ul (fun r l=>?_) (fun r r' l l' z e=>?_) (fun b o e n=>?_) (rn _ id) (rn _ id) (rn _ id)⟩
 ·by_cases hr:OT x r
  ·cases r with
   | mm i =>
    have:i = x:=hr
    subst this
    refine ⟨.inr (by rw [r1]; exact n1),.ins A.bZ dx (BH ρ' i ⟨k.boot,[],0,[]⟩),?_,_,dx,bh hx,rfl⟩
    rw [r1,rm px (nm px n1)]
    unfold BH
    rw [r2,r3]
    exact h1
   | hv i =>
    have:i = x:=hr
    subst this
    refine ⟨.inr (by rw [r2]; exact n2),.dK [],?_,_,[],bh hx,rfl,.nil⟩
    rw [r2,rm hv (nm hv n2)]
    exact h2
   | gn i =>
    have:i = x:=hr
    subst this
    refine ⟨.inr (by rw [r3]; exact n3),.dK [],?_,_,[],bh hx,rfl,.nil⟩
    rw [r3,rm gn (nm gn n3)]
    exact h3
   | _=>exact hr.elim
  ·have lr:=RB.mp l
   obtain ⟨o,e,h⟩:=W.ob r lr
   by_cases em':r = .eS
   ·subst em'
    refine ⟨.inl ⟨trivial,rn _ id⟩,.lst ((refs ρ .mm S.known.length).set x (.ref px)),?_,?_⟩
    ·rw [rn _ id]
     exact ae
    ·show _ = HO.lst (refs ρ' .mm (Vbcnao.changeAt S.known x _).length)
     rw [iR,em]
   ·refine ⟨.inl ⟨lr,rn r hr⟩,o,?_,akK hr (fun _ _=>rfl) (fun z=>absurd z em') rn im h⟩
    rw [rn r hr,rm _ fun z=>em' (W.inj r .eS lr trivial z)]
    exact s1 _ _ e
 ·by_cases hr:OT x r
  ·have gU:OT x r':=Classical.byContradiction fun q=>W.old (RB.mp l') (by rw [← rn r' q,← e]; exact z)
   cases r with
   | mm i =>
    have:i = x:=hr
    subst this
    rw [r1] at e
    cases r' with
    | mm j=>rw [show j = i from gU]
    | hv j =>
     have:j = i:=gU
     subst this
     rw [r2] at e
     exact absurd e nph
    | gn j =>
     have:j = i:=gU
     subst this
     rw [r3] at e
     exact absurd e npg
    | _=>exact gU.elim
   | hv i =>
    have:i = x:=hr
    subst this
    rw [r2] at e
    cases r' with
    | mm j =>
     have:j = i:=gU
     subst this
     rw [r1] at e
     exact absurd e.symm nph
    | hv j=>rw [show j = i from gU]
    | gn j =>
     have:j = i:=gU
     subst this
     rw [r3] at e
     exact absurd e n4
    | _=>exact gU.elim
   | gn i =>
    have:i = x:=hr
    subst this
    rw [r3] at e
    cases r' with
    | mm j =>
     have:j = i:=gU
     subst this
     rw [r1] at e
     exact absurd e.symm npg
    | hv j =>
     have:j = i:=gU
     subst this
     rw [r2] at e
     exact absurd e.symm n4
    | gn j=>rw [show j = i from gU]
    | _=>exact gU.elim
   | _=>exact hr.elim
  ·exact absurd (by rw [← rn r hr]; exact z) (W.old (RB.mp l))
 ·rw [rm b fun z=>n ⟨.eS,trivial,z.symm⟩]
  exact s1 b o e
theorem Wd.aou (ne:oq A) (W:Wd A ρ S H) {w:Vbcnao.Switch} (hx:S.switches[x]? = some w) {px dx pd:Addr} {b:Nat} {H1:Hp} (s1:aH H H1) (n1:H px = none) (n2:H pd = none)
  (h1:H1 px = some (.ins A.bK dx (jh.zip [nV b,.int 0,.int 0,.ref pd]))) (h2:H1 pd = some (.dK [])) :
  ∃ ρ',(∀ r,¬ pU x r → ρ' r = ρ r) ∧ dM A ρ S H ρ' (Vbcnao.onSwitch S x fun _=>⟨b,0,0,[]⟩) (upd H1 (ρ .iC) (.lst ((refs ρ .sw S.switches.length).set x (.ref px)))):=by
 have fk:=(List.getElem?_eq_some_iff.mp hx).1
 let ρ':Role → Addr:=fun r=>if r = .sw x then px else if r = .pd x then pd else ρ r
 have r1:ρ' (.sw x) = px:=if_pos rfl
 have r2:ρ' (.pd x) = pd:=by
  show (if _ then _ else _) = _
  rw [if_neg (by intro z; cases z),if_pos rfl]
 have rn:∀ r,¬ pU x r → ρ' r = ρ r:=fun r hr=>by
  show (if _ then _ else _) = _
  rw [if_neg (fun z=>hr (by rw [z]; exact rfl)),if_neg (fun z=>hr (by rw [z]; exact rfl))]
 have nph:px ≠ pd:=dN h1 h2 (by intro z; cases z)
 have em:=acu (ρ:=ρ) (ρ':=ρ') (f:=.sw) (n:=S.switches.length) r1 fun i hi=>rn (.sw i) hi
 have rm:∀ b,b ≠ ρ .iC → upd H1 (ρ .iC) (.lst ((refs ρ .sw S.switches.length).set x (.ref px))) b = H1 b:=fun b hb=>ak hb
 have im:uw A H (upd H1 (ρ .iC) (.lst ((refs ρ .sw S.switches.length).set x (.ref px)))):=fun a o i e=>by
  rw [rm a fun z=>W.vN ne i e ⟨.iC,trivial,z.symm⟩]
  exact s1 a o e
 have nm:∀ b,H b = none → b ≠ ρ .iC:=fun b hb z=>W.old (r:=.iC) trivial (by rw [← z]; exact hb)
 have HB:∀ v,¬ live (Vbcnao.onSwitch S x fun _=>⟨b,0,0,[]⟩) (.pt x v):=fun v ⟨w',h,a1,a2⟩=>by
  rw [zg hx] at a1
  cases a1
  cases a2
 have HC:∀ v,¬ live (Vbcnao.onSwitch S x fun _=>⟨b,0,0,[]⟩) (.cm x v):=fun v ⟨w',h,a1,a2⟩=>by
  rw [zg hx] at a1
  cases a1
  cases a2
 refine ⟨ρ',rn,W.Ul (fun r l=>?_) (fun r r' l l' z e=>?_) (fun b o e n=>?_) (rn _ id) (rn _ id) (rn _ id)⟩
 ·by_cases hr:pU x r
  ·cases r with
   | sw i =>
    have:i = x:=hr
    subst this
    refine ⟨.inr (by rw [r1]; exact n1),.ins A.bK dx (i9 ρ' i ⟨b,0,0,[]⟩),?_,_,dx,bh hx,rfl⟩
    rw [r1,rm px (nm px n1)]
    unfold i9
    rw [r2]
    exact h1
   | pd i =>
    have:i = x:=hr
    subst this
    refine ⟨.inr (by rw [r2]; exact n2),.dK [],?_,_,[],bh hx,rfl,.nil⟩
    rw [r2,rm pd (nm pd n2)]
    exact h2
   | pt i v =>
    have:i = x:=hr
    subst this
    exact absurd l (HB v)
   | cm i v =>
    have:i = x:=hr
    subst this
    exact absurd l (HC v)
   | _=>exact hr.elim
  ·have lr:=(pR hr).mp l
   obtain ⟨o,e,h⟩:=W.ob r lr
   by_cases em':r = .iC
   ·subst em'
    refine ⟨.inl ⟨trivial,rn _ id⟩,.lst ((refs ρ .sw S.switches.length).set x (.ref px)),?_,?_⟩
    ·rw [rn _ id]
     exact ae
    ·show _ = HO.lst (refs ρ' .sw (Vbcnao.changeAt S.switches x _).length)
     rw [iR,em]
   ·refine ⟨.inl ⟨lr,rn r hr⟩,o,?_,V0 hr (fun z=>absurd z em') rn im h⟩
    rw [rn r hr,rm _ fun z=>em' (W.inj r .iC lr trivial z)]
    exact s1 _ _ e
 ·by_cases hr:pU x r
  ·have gU:pU x r':=Classical.byContradiction fun q=>W.old ((pR q).mp l') (by rw [← rn r' q,← e]; exact z)
   cases r with
   | sw i =>
    have:i = x:=hr
    subst this
    rw [r1] at e
    cases r' with
    | sw j=>rw [show j = i from gU]
    | pd j =>
     have:j = i:=gU
     subst this
     rw [r2] at e
     exact absurd e nph
    | pt j v =>
     have:j = i:=gU
     subst this
     exact absurd l' (HB v)
    | cm j v =>
     have:j = i:=gU
     subst this
     exact absurd l' (HC v)
    | _=>exact gU.elim
   | pd i =>
    have:i = x:=hr
    subst this
    rw [r2] at e
    cases r' with
    | sw j =>
     have:j = i:=gU
     subst this
     rw [r1] at e
     exact absurd e.symm nph
    | pd j=>rw [show j = i from gU]
    | pt j v =>
     have:j = i:=gU
     subst this
     exact absurd l' (HB v)
    | cm j v =>
     have:j = i:=gU
     subst this
     exact absurd l' (HC v)
    | _=>exact gU.elim
   | pt i v =>
    have:i = x:=hr
    subst this
    exact absurd l (HB v)
   | cm i v =>
    have:i = x:=hr
    subst this
    exact absurd l (HC v)
   | _=>exact hr.elim
  ·exact absurd (by rw [← rn r hr]; exact z) (W.old ((pR hr).mp l))
 ·rw [rm b fun z=>n ⟨.iC,trivial,z.symm⟩]
  exact s1 b o e
end
end Pt
namespace Pt
open PySem PySem.Spec PyProof.Rows L2
theorem air {S:SS} {x:Nat} (f g:Vbcnao.Known → Vbcnao.Known):Vbcnao.onKnown (Vbcnao.onKnown S x f) x g = Vbcnao.onKnown S x fun w=>g (f w):=by
 unfold Vbcnao.onKnown
 rw [YU]
section
variable {P:Program} {w:World} {K:W.Frag} {mg:Str → Option Value} {base:Heap} {A:bg}
noncomputable def su (A:bg):Sp:=fun vs H Q _=>∃ (ρ:Role → Addr) (S:SS) (a:Addr) (m:Vbcnao.Msg) (c:Nat),vs = [.ref (ρ .aF),.ref a] ∧ Wd A ρ S H ∧ Good c S ∧ c ≤ 400 ∧ f9 A H a m ∧ lj S.switches.length S.policies.length m ∧ e7 m ≤ 2 ∧
 ∀ ρ' H',dM A ρ S H ρ' (Vbcnao.takes S m) H' → Q .bL H'
theorem aeS {S:SS} {m:Vbcnao.Msg} (h:e7 m ≤ 2) (hb:mB m ≠ (Vbcnao.switchAt S (mX m)).boot):Vbcnao.takes S m = S:=by
 cases m with
 | row x b v i t r =>
  show Vbcnao.onRow S x b v i t r = S
  rw [Lq,if_pos (.inl (Ne.symm hb))]
 | flip x b v =>
  show Vbcnao.onFlip S x b v = S
  unfold Vbcnao.onFlip
  dsimp only
  exact if_pos (Ne.symm hb)
 | drop x b v =>
  show Vbcnao.onDrop S x b v = S
  unfold Vbcnao.onDrop
  dsimp only
  exact if_pos (Ne.symm hb)
 | _=>simp [e7] at h
theorem RZ (T:Txt K mg A):aD P w K mg base aC 5 A.dH A.oO ["world","message"] (su A):=by
 refine T.vh.ok CT (fun vs H Q E h=>?_) (fun au R outer s H vs Q E hr h=>?_)
 ·obtain ⟨ρ,S,a,m,c,rfl,_⟩:=h
  rfl
 ·obtain ⟨ρ,S,a,m,c,rfl,W,G,hc,EE,gm,hk2,k⟩:=h
  obtain ⟨dx,hw⟩:=W.aF
  obtain ⟨EN,rv,hg,A6⟩:=EE
  have hm:f9 A H a m:=⟨EN,rv,hg,A6⟩
  have hx:mX m < S.switches.length:=by
   have:=gm.x
   cases m <;> exact this
  have hi:=gQ hx
  obtain ⟨vP,hs⟩:=W.sw hi
  refine ⟨_,(RO T hr (aeY T) (acI T) (acJ T)).2,?_⟩
  refine ⟨_,rfl,_,_,_,_,_,rfl,hw,T.aB,T.cN,aa fP rfl rfl,_,rfl,_,_,_,_,_,rfl,hg,T.aG,T.eO,aa jv rfl rfl,_,_,_,_,rfl,rfl,aM.of W.iC,gP (jG hx),?_⟩
  refine ⟨_,rfl,_,_,_,_,_,rfl,hg,T.aG,T.dG,aa ji rfl rfl,_,rfl,_,_,_,_,_,rfl,hs,T.cB,T.gI,aa xg rfl rfl,rfl,_,rfl,?_⟩
  have en:(!decide (nV (mB m) = nV (Vbcnao.switchAt S (mX m)).boot)) = !decide (mB m = (Vbcnao.switchAt S (mX m)).boot):=congrArg _ (kR _ _)
  rw [en]
  refine aZ (fun d=>?_) (fun d=>?_)
  ·have d':mB m ≠ (Vbcnao.switchAt S (mX m)).boot:=by simpa using d
   rw [aeS hk2 d'] at k
   exact k ρ H (.refl W)
  have d':mB m = (Vbcnao.switchAt S (mX m)).boot:=by simpa using d
  cases m with
  | row x b v i t r =>
   refine ⟨_,rfl,_,_,_,_,_,rfl,hg,T.aG,T.bG,aa cK rfl rfl,rfl,_,rfl,?_⟩
   refine aZ (fun _=>?_) (fun z=>absurd rfl z)
   exact ⟨_,rfl,_,rfl,_,rfl,ρ,S,a,x,b,v,i,t,r,c,rfl,W,G,hc,hm,gm.i,hx,d'.symm,k⟩
  | flip x b v =>
   refine ⟨_,rfl,_,_,_,_,_,rfl,hg,T.aG,T.bG,aa cK rfl rfl,rfl,_,rfl,?_⟩
   refine aZ (fun z=>absurd z Bool.false_ne_true) (fun _=>?_)
   refine ⟨_,rfl,_,_,_,_,_,rfl,hg,T.aG,T.bG,aa cK rfl rfl,rfl,_,rfl,?_⟩
   refine aZ (fun _=>?_) (fun z=>absurd rfl z)
   exact ⟨_,rfl,_,rfl,_,rfl,ρ,S,a,x,b,v,c,rfl,W,G,hm,hx,d'.symm,fun H' st=>k ρ H' st⟩
  | drop x b v =>
   refine ⟨_,rfl,_,_,_,_,_,rfl,hg,T.aG,T.bG,aa cK rfl rfl,rfl,_,rfl,?_⟩
   refine aZ (fun z=>absurd z Bool.false_ne_true) (fun _=>?_)
   refine ⟨_,rfl,_,_,_,_,_,rfl,hg,T.aG,T.bG,aa cK rfl rfl,rfl,_,rfl,?_⟩
   refine aZ (fun z=>absurd z Bool.false_ne_true) (fun _=>?_)
   exact ⟨_,rfl,_,rfl,_,rfl,ρ,S,a,x,b,v,c,rfl,W,G,hm,hx,d'.symm,fun H' st=>k ρ H' st⟩
  | _=>simp [e7] at hk2
noncomputable def Bx (A:bg):Sp:=fun vs H Q _=>∃ (ρ:Role → Addr) (S:SS) (a:Addr) (x b:Nat),vs = [.ref (ρ .cf),.ref a] ∧ Wd A ρ S H ∧ f9 A H a (.hello x b) ∧ x < S.known.length ∧
 ∀ ρ' H',dM A ρ S H ρ' (Vbcnao.onHello S x b) H' → Q .bL H'
theorem aaK (T:Txt K mg A):aD P w K mg base aC 3 A.gr A.xK ["controller","hello"] (Bx A):=by
 refine T.FJ.ok aaF (fun vs H Q E h=>?_) (fun au R outer s H vs Q E hr h=>?_)
 ·obtain ⟨ρ,S,a,x,b,rfl,_⟩:=h
  rfl
 ·obtain ⟨ρ,S,a,x,b,rfl,W,EE,hx,k⟩:=h
  obtain ⟨dx,hc⟩:=W.cf
  obtain ⟨EN,rv,hg,A6⟩:=EE
  have hm:f9 A H a (.hello x b):=⟨EN,rv,hg,A6⟩
  have hi:=l6 hx
  have pA:(S.known.map fun k=>nV k.boot)[x]? = some (nV (Vbcnao.knownAt S x).boot):=by rw [List.getElem?_map,hi]; rfl
  refine ⟨_,(aah T hr (Ju T)).2,?_⟩
  unfold Vbcnao.onHello at k
  refine ⟨_,rfl,_,_,_,_,_,rfl,hg,T.aG,T.dG,aa ji rfl rfl,_,rfl,_,_,_,_,_,rfl,hc,T.aA,T.bY,aa ee rfl rfl,_,rfl,_,_,_,_,_,rfl,hg,T.aG,T.eO,aa jv rfl rfl,_,_,_,_,rfl,rfl,aM.of W.j7,gP pA,_,_,rfl,rfl,_,rfl,?_⟩
  refine aZ (fun d=>?_) (fun d=>?_)
  ·have d':((Vbcnao.knownAt S x).boot:Int) < (b:Int):=of_decide_eq_true d
   rw [if_pos (by omega)] at k
   refine ⟨_,rfl,_,_,_,_,_,rfl,hg,T.aG,T.dG,aa ji rfl rfl,_,rfl,_,_,_,_,_,rfl,hc,T.aA,T.bY,aa ee rfl rfl,_,rfl,_,_,_,_,_,rfl,hg,T.aG,T.eO,aa jv rfl rfl,_,_,_,_,rfl,rfl,W.j7,Yx (by rw [List.length_map]; exact hx),?_⟩
   have e1:(S.known.map fun k=>nV k.boot).set x (nV b) = (Vbcnao.changeAt S.known x fun k=>{ k with boot:=b }).map fun k=>nV k.boot:=(agi (fun k:Vbcnao.Known=>nV k.boot) (fun k=>{ k with boot:=b }) S.known x _ hi).symm
   have sd:=W.abh T.gS hi (f:=fun k=>{ k with boot:=b }) .j7 trivial (o:=.lst ((S.known.map fun k=>nV k.boot).set x (nV b))) (fun z=>absurd rfl z) (fun _=>rfl) (fun _=>rfl) (fun _=>rfl) (by show _ = HO.lst _; rw [e1]; rfl)
   have W1:=sd.wd
   obtain ⟨dx1,ZP⟩:=W1.cf
   have MW:=(sd.SE T.gS W) _ (.ins A.aU EN (T8 (.hello x b) rv)) rfl hg
   have SK:(Vbcnao.onKnown S x fun k=>{ k with boot:=b }).known[x]? = some { Vbcnao.knownAt S x with boot:=b }:=bh hi
   intro px sj qh wN nep
   refine ⟨px,sj,rfl,ae,fun hv gn H2 n2 n3 n4 h1 h2 h3 h4=>⟨rfl,?_⟩⟩
   have nn:∀ z,upd (upd (upd H (ρ .j7) (.lst ((S.known.map fun k=>nV k.boot).set x (nV b)))) sj (.own px)) px (.ins A.bZ sj []) z = none → upd H (ρ .j7) (.lst ((S.known.map fun k=>nV k.boot).set x (nV b))) z = none:=fun z hz=>by
    by_cases z1:z = px
    ·rw [z1]
     exact qh
    ·by_cases z2:z = sj
     ·rw [z2]
      exact wN
     ·rw [ak z1,ak z2] at hz
      exact hz
   have s2:aH (upd H (ρ .j7) (.lst ((S.known.map fun k=>nV k.boot).set x (nV b)))) H2:=fun q o eo=>by
    rw [h4 q (ay eo qh) (ay eo (nn _ n2)) (ay eo (nn _ n3)),ak (ay eo qh),ak (ay eo wN)]
    exact eo
   obtain ⟨ρ',rn,c7⟩:=W1.am5 T.gS SK s2 qh (nn _ n2) (nn _ n3) n4 h1 h2 h3
   have Gp:=s2 _ _ W1.eS
   refine ⟨_,rfl,_,_,_,_,_,rfl,s2 _ _ ZP,T.aA,T.bD,aa cJ rfl rfl,_,rfl,_,_,_,_,_,rfl,s2 _ _ MW,T.aG,T.eO,aa jv rfl rfl,_,_,_,_,rfl,rfl,Gp,Yx (by rw [gf]; show x < (Vbcnao.changeAt S.known x _).length; rw [iR]; exact hx),?_⟩
   have st:=sd.trans c7
   rw [air] at st
   exact k ρ' _ st
  ·have d':¬ ((Vbcnao.knownAt S x).boot:Int) < (b:Int):=fun z=>d (decide_eq_true z)
   rw [if_neg (by omega)] at k
   exact k ρ H (.refl W)
noncomputable def A7 (S:SS):SS:=if (S.pending && S.known.all fun k=>decide (S.inForce + 1 ≤ k.flipped)) = true then
   { S with inForce:=S.inForce + 1,pending:=false,retired:=if S.inForce = 0 then S.retired else S.retired ++ [(S.inForce,S.now + S.life)] }
  else S
theorem agR (S:SS):Vbcnao.settles S = { A7 S with retired:=(A7 S).retired.filter fun r=>!(A7 S).known.all fun k=>k.gones.contains r.1 }:=rfl
theorem Wd.amD (ne:oq A) {ρ:Role → Addr} {S:SS} {H:Hp} (W:Wd A ρ S H) {as:List Addr} {l:List (Nat × Nat)} (h:Paired (yl H) as l):dM A ρ S H ρ { S with retired:=l } (upd H (ρ .ret) (.lst (as.map .ref))):=by
 refine W.put ne .ret trivial (fun r l=>by cases r <;> exact l) (fun r o' hr l x=>by cases r <;> first | exact absurd rfl hr | exact x) ?_
 have i:=IM W ne (r0:=.ret) trivial (.lst (as.map .ref))
 exact ⟨as,rfl,jH h fun a _ q=>i a _ trivial q⟩
theorem Wd.aib (ne:oq A) {ρ:Role → Addr} {S:SS} {H:Hp} (W:Wd A ρ S H) (dx:Addr) (n:Nat) (p:Bool):dM A ρ S H ρ { S with inForce:=n,pending:=p } (upd H (ρ .cf) (.ins A.aE dx (oT ρ { S with inForce:=n,pending:=p }))):=by
 refine W.put ne .cf trivial (fun r l=>by cases r <;> exact l) (fun r o' hr l x=>by cases r <;> first | exact absurd rfl hr | exact x) ?_
 exact ⟨dx,rfl⟩
noncomputable def wo (A:bg):Sp:=fun vs H Q _=>∃ (ρ:Role → Addr) (S:SS) (c:Nat),vs = [.ref (ρ .cf),nV (S.now + S.life)] ∧ Wd A ρ S H ∧ S.retired.length ≤ c ∧ c ≤ 400 ∧
 ∀ H',dM A ρ S H ρ (A7 S) H' → Q .bL H'
theorem VL (T:Txt K mg A):aD P w K mg base aC 2 A.eV A.rZ ["controller","going"] (wo A):=by
 refine T.Ag.ok Vp (fun vs H Q E h=>?_) (fun au R outer s H vs Q E hr h=>?_)
 ·obtain ⟨ρ,S,c,rfl,_⟩:=h
  rfl
 ·obtain ⟨ρ,S,c,rfl,W,G,akQ,k⟩:=h
  obtain ⟨dx,hc⟩:=W.cf
  refine ⟨_,(U9 T hr (D7 T)).2,?_⟩
  unfold A7 at k
  refine ⟨_,rfl,_,_,_,_,_,rfl,hc,T.aA,T.b5,aa eT rfl rfl,_,rfl,?_⟩
  refine aZ (fun d=>l7 ?_) (fun d=>?_)
  ·have d':S.pending = false:=by simpa using d
   rw [d',Bool.false_and,if_neg (by simp)] at k
   exact k H (.refl W)
  have d':S.pending = true:=by simpa using d
  rw [d',Bool.true_and] at k
  refine ⟨_,rfl,_,_,_,rfl,hc,aL Ec,_,rfl,_,_,_,_,_,rfl,hc,T.aA,T.aV,aa bu rfl rfl,_,_,rfl,rfl,ρ,S,S.inForce + 1,rfl,W,_,rfl,?_⟩
  refine aZ (fun f=>?_) (fun f=>?_)
  ·have f':(S.known.all fun k=>decide (S.inForce + 1 ≤ k.flipped)) = false:=by simpa using f
   rw [f',if_neg (by simp)] at k
   exact k H (.refl W)
  have f':(S.known.all fun k=>decide (S.inForce + 1 ≤ k.flipped)) = true:=by simpa using f
  rw [f',if_pos rfl] at k
  dsimp only [agL]
  refine rS (t1:=K5 _ _ _) (fun σ' H'=>σ' = [some (.ref (ρ .cf)),some (nV (S.now + S.life))] ∧ dM A ρ S H ρ { S with retired:=if S.inForce = 0 then S.retired else S.retired ++ [(S.inForce,S.now + S.life)] } H') ?_ ?_
  ·rintro σ' H1 ⟨rfl,st⟩
   have W1:=st.wd
   obtain ⟨dx1,ZP⟩:=W1.cf
   refine ⟨_,rfl,_,_,_,_,_,rfl,ZP,T.aA,T.aV,aa bu rfl rfl,_,_,rfl,rfl,_,_,ZP,(mZ rfl (by decide)),?_⟩
   refine ⟨_,rfl,_,_,_,_,rfl,ae,T.aA,T.b5,(cW (n:=7) (lp (n:=6) (Nat.le_of_eq (W9 (N:=bI) rfl)))),?_⟩
   rw [dO]
   have e1:bz "in_force" (V.int ((S.inForce:Int) + 1)) (oT ρ { S with retired:=if S.inForce = 0 then S.retired else S.retired ++ [(S.inForce,S.now + S.life)] }) = _:=gH bu rfl (by decide)
   rw [e1]
   rw [gH eT rfl (by decide)]
   exact k _ (st.trans (W1.aib T.gS dx1 (S.inForce + 1) false))
  ·intro rest
   refine ⟨_,rfl,_,_,_,_,_,rfl,hc,T.aA,T.aV,aa bu rfl rfl,rfl,_,rfl,?_⟩
   have en:(!decide (nV S.inForce = V.int 0)) = !decide (S.inForce = 0):=congrArg _ (kR S.inForce 0)
   show if (!decide (nV S.inForce = V.int 0)) = true then _ else _
   rw [en]
   obtain ⟨as,p7,hp⟩:=W.ret
   refine aZ (fun g=>?_) (fun g=>?_)
   ·have g':¬ S.inForce = 0:=by simpa using g
    rw [if_neg g'] at rest
    refine ⟨_,rfl,_,_,_,_,_,rfl,hc,T.aA,T.cF,aa f7 rfl rfl,.inl ⟨rfl,_,aM.of p7⟩,_,rfl,_,_,_,_,_,rfl,hc,T.aA,T.aV,aa bu rfl rfl,_,rfl,lz,fun t ht=>?_⟩
    have s1:=aH.upd (o:=.tup [nV S.inForce,nV (S.now + S.life)]) ht
    refine ⟨_,_,_,rfl,rfl,s1 _ _ p7,?_,?_⟩
    ·rw [List.length_map,cQ hp]
     exact Nat.lt_of_le_of_lt G (Nat.lt_of_le_of_lt akQ (by decide))
    ·have sd:=W.same s1
     have lR:Paired (yl (upd H t (.tup [nV S.inForce,nV (S.now + S.life)]))) (as ++ [t]) (S.retired ++ [(S.inForce,S.now + S.life)]):=vD (jH hp fun a _ q=>s1 a _ q) (vC ae)
     have c7:=sd.wd.amD T.gS lR
     rw [List.map_append] at c7
     exact rest _ _ ⟨rfl,sd.trans c7⟩
   ·have g':S.inForce = 0:=by simpa using g
    rw [if_pos g'] at rest
    exact rest _ _ ⟨rfl,.refl W⟩
noncomputable def yY (A:bg):Sp:=fun vs H Q _=>∃ (ρ:Role → Addr) (S:SS) (c:Nat),vs = [.ref (ρ .cf)] ∧ Wd A ρ S H ∧ S.retired.length ≤ 401 ∧
 ∀ ρ' H',dM A ρ S H ρ' { S with retired:=S.retired.filter fun r=>!S.known.all fun k=>k.gones.contains r.1 } H' → Q .bL H'
theorem Wd.am3 (ne:oq A) {ρ:Role → Addr} {S:SS} {H H1:Hp} (W:Wd A ρ S H) (s1:aH H H1) {D dx:Addr} (hc:H (ρ .cf) = some (.ins A.aE dx (oT ρ S))) (hD:H D = none) {as:List Addr} {l:List (Nat × Nat)} (fq:H1 D = some (.lst (as.map .ref))) (h:Paired (yl H1) as l) :
  ∃ ρ',dM A ρ S H ρ' { S with retired:=l } (upd H1 (ρ .cf) (.ins A.aE dx (bz "retired" (.ref D) (oT ρ S)))):=by
 let ρ':Role → Addr:=fun r=>if r = .ret then D else ρ r
 have r1:ρ' .ret = D:=if_pos rfl
 have rn:∀ r,r ≠ .ret → ρ' r = ρ r:=fun r hr=>if_neg hr
 have hDc:D ≠ ρ .cf:=fun z=>by rw [z] at hD; rw [hD] at hc; cases hc
 have im:uw A H (upd H1 (ρ .cf) (.ins A.aE dx (bz "retired" (.ref D) (oT ρ S)))):=fun a o i e=>by
  rw [ak fun z=>W.vN ne i e ⟨.cf,trivial,z.symm⟩]
  exact s1 a o e
 have im1:uw A H1 (upd H1 (ρ .cf) (.ins A.aE dx (bz "retired" (.ref D) (oT ρ S)))):=fun a o i e=>by
  have:a ≠ ρ .cf:=fun z=>by
   rw [z,s1 _ _ hc] at e
   cases e
   exact ne.2.1 i
  rw [ak this]
  exact e
 have lv:∀ r,live { S with retired:=l } r → live S r:=fun r h=>by cases r <;> exact h
 refine ⟨ρ',W.Ul (fun r lr=>?_) (fun r r' l1 l2 z e=>?_) (fun b o e n=>?_) (rn _ (by intro z; cases z)) (rn _ (by intro z; cases z)) (rn _ (by intro z; cases z))⟩
 ·by_cases hr:r = .ret
  ·subst hr
   refine ⟨.inr (by rw [r1]; exact hD),.lst (as.map .ref),?_,as,rfl,jH h fun a _ q=>im1 a _ trivial q⟩
   rw [r1,ak hDc]
   exact fq
  ·obtain ⟨o,e,nP⟩:=W.ob r (lv r lr)
   have nP:=nP.mono im
   refine ⟨.inl ⟨lv r lr,rn r hr⟩,?_⟩
   rw [rn r hr]
   by_cases EF:r = .cf
   ·subst EF
    refine ⟨_,ae,dx,?_⟩
    rw [show bz "retired" (.ref D) (oT ρ S) = _ from gH f7 rfl (by decide)]
    unfold oT
    rw [r1,rn .dg (by intro z; cases z),rn .j7 (by intro z; cases z),rn .eS (by intro z; cases z)]
    rfl
   ·refine ⟨o,?_,?_⟩
    ·rw [ak fun z=>EF (W.inj r .cf (lv r lr) trivial z)]
     exact s1 _ _ e
    ·cases r with
     | aF =>
      obtain ⟨g9,e'⟩:=nP
      refine ⟨g9,e'.trans ?_⟩
      unfold dD
      rw [rn .iC (by intro z; cases z),rn .cf (by intro z; cases z),rn .bag (by intro z; cases z),rn .eX (by intro z; cases z),rn .cnt (by intro z; cases z)]
     | cf=>exact absurd rfl EF
     | iC =>
      show o = .lst (refs ρ' .sw S.switches.length)
      rw [g4 fun i=>rn (.sw i) (by intro z; cases z)]
      exact nP
     | eS =>
      show o = .lst (refs ρ' .mm S.known.length)
      rw [g4 fun i=>rn (.mm i) (by intro z; cases z)]
      exact nP
     | dg =>
      show o = .lst (refs ρ' .pu S.policies.length)
      rw [g4 fun i=>rn (.pu i) (by intro z; cases z)]
      exact nP
     | ret=>exact absurd rfl hr
     | sw j =>
      obtain ⟨w,g9,e1,e'⟩:=nP
      refine ⟨w,g9,e1,e'.trans ?_⟩
      unfold i9
      rw [rn (.pd j) (by intro z; cases z)]
     | pd j =>
      obtain ⟨w,kvs,e1,e',d⟩:=nP
      exact ⟨w,kvs,e1,e',d.imp fun u v b _ q=>q.trans (by rw [rn (.pt j v) (by intro z; cases z)])⟩
     | pt j v =>
      obtain ⟨w,hh,g9,e1,e2,e'⟩:=nP
      refine ⟨w,hh,g9,e1,e2,e'.trans ?_⟩
      unfold Al
      rw [rn (.cm j v) (by intro z; cases z)]
     | mm j =>
      obtain ⟨k,g9,e1,e'⟩:=nP
      refine ⟨k,g9,e1,e'.trans ?_⟩
      unfold BH
      rw [rn (.hv j) (by intro z; cases z),rn (.gn j) (by intro z; cases z)]
     | _=>exact nP
 ·by_cases hr:r = .ret
  ·subst hr
   by_cases gU:r' = .ret
   ·exact gU.symm
   ·rw [r1,rn r' gU] at e
    rw [r1,e] at z
    exact absurd z (W.old (lv r' l2))
  ·rw [rn r hr] at z
   exact absurd z (W.old (lv r l1))
 ·rw [ak fun z=>n ⟨.cf,trivial,z.symm⟩]
  exact s1 b o e
theorem XS (T:Txt K mg A):aD P w K mg base aC 2 A.fD A.uA ["controller"] (yY A):=by
 refine T.CO.ok IY (fun vs H Q E h=>?_) (fun au R outer s H vs Q E hr h=>?_)
 ·obtain ⟨ρ,S,c,rfl,_⟩:=h
  rfl
 ·obtain ⟨ρ,S,c,rfl,W,aoD,k⟩:=h
  obtain ⟨dx,hc⟩:=W.cf
  obtain ⟨as,p7,hp⟩:=W.ret
  refine ⟨_,(Xd T hr (Hs T)).2,?_⟩
  refine ⟨_,rfl,_,_,_,_,_,rfl,hc,T.aA,T.cF,aa f7 rfl rfl,_,rfl,⟨_,aM.of p7⟩,fun D hD=>?_⟩
  have sD:=aH.upd (o:=.lst []) hD
  refine Yk (K:=K) (a:=ρ .ret) (xs:=as.map V.ref) (fun i H'=>aH H H' ∧ ∃ bs:List Addr,H' D = some (.lst (bs.map .ref)) ∧ Paired (yl H') bs ((S.retired.take i).filter fun r=>!S.known.all fun k=>k.gones.contains r.1)) ?_ (fun i H' _ h=>aM.of (h.1 _ _ p7)) ?_ ?_
  ·exact ⟨sD,[],ae,.nil⟩
  ·rintro i x H' hi ⟨s2,bs,yG,lR⟩
   obtain ⟨a,ha,rfl⟩:=nE hi
   obtain ⟨r,PK,SG⟩:=lY hp ha
   have W':=(W.same s2).wd
   have hpa:=s2 _ _ SG
   refine ⟨rfl,_,rfl,_,_,_,rfl,s2 _ _ hc,aL HF,_,rfl,_,_,_,_,rfl,rfl,j0.of hpa,at_of (j:=0) rfl rfl,ρ,S,r.1,rfl,W',_,rfl,?_⟩
   rw [take_snoc PK,List.filter_append]
   refine aZ (fun d=>?_) (fun d=>?_)
   ·refine ⟨_,rfl,bs.map .ref,yG,?_,?_⟩
    ·rw [List.length_map,cQ lR]
     refine Nat.lt_of_le_of_lt (List.length_filter_le ..) ?_
     rw [List.length_take]
     exact Nat.lt_of_le_of_lt (Nat.min_le_right _ _) (Nat.lt_of_le_of_lt aoD (by decide))
    ·refine ⟨fun b o e=>?_,bs ++ [a],?_,?_⟩
     ·rw [ak (ay e hD)]
      exact s2 b o e
     ·rw [List.map_append]
      exact ae
     ·have e1:([r].filter fun r=>!S.known.all fun k=>k.gones.contains r.1) = [r]:=by
       rw [List.filter_cons,if_pos d]
       rfl
      rw [e1]
      have kk:∀ b r,yl H' b r → yl (upd H' D (.lst (bs.map V.ref ++ [V.ref a]))) b r:=fun b r e=>by
       show upd H' D _ b = _
       rw [ak (dN e yG (by intro z; cases z))]
       exact e
      exact vD (jH lR kk) (vC (kk a r hpa))
   ·have e1:([r].filter fun r=>!S.known.all fun k=>k.gones.contains r.1) = []:=by
     rw [List.filter_cons,if_neg d]
     rfl
    rw [e1,List.append_nil]
    exact ⟨s2,bs,yG,lR⟩
  ·rintro H' ⟨s2,bs,yG,lR⟩
   rw [List.length_map,cQ hp,List.take_length] at lR
   refine ⟨_,rfl,_,_,_,_,rfl,s2 _ _ hc,T.aA,T.cF,(mZ rfl (by decide)),?_⟩
   obtain ⟨ρ',st⟩:=W.am3 T.gS s2 hc hD yG lR
   exact k ρ' _ st
end
end Pt
namespace Pt
open PySem PySem.Spec PyProof.Rows L2
theorem Dk.afx {kvs:List (Key × V)} {l:List Nat} (d:Dk KL kvs (fj l)) (hu:Up l) (v:Nat):Dk KL (putK kvs (Sum.inl (v:Int)) (.bl true)) (fj (Vbcnao.putNat v l)):=by
 by_cases h:v ∈ l
 ·rw [Oi hu h]
  exact d.aln (by rw [cX]; exact h) fun _ _=>rfl
 ·refine (d.XF (b:=()) (by rw [cX]; exact h) rfl).perm ?_
  exact ((Lf h).map fun n=>(n,())).symm
theorem ahG (S:SS):(A7 S).retired.length ≤ S.retired.length + 1:=by
 unfold A7
 split
 ·dsimp only
  split
  ·omega
  ·rw [List.length_append]
   exact Nat.le_refl _
 ·omega
section
variable {P:Program} {w:World} {K:W.Frag} {mg:Str → Option Value} {base:Heap} {A:bg}
noncomputable def m6 (A:bg):Sp:=fun vs H Q _=>∃ (ρ:Role → Addr) (S:SS) (a:Addr) (m:Vbcnao.Msg) (c:Nat),vs = [.ref (ρ .aF),.ref a] ∧ Wd A ρ S H ∧ Good c S ∧ c ≤ 400 ∧ f9 A H a m ∧ mX m < S.known.length ∧ 4 ≤ e7 m ∧
 ∀ ρ' H',dM A ρ S H ρ' (Vbcnao.takes S m) H' → Q .bL H'
theorem ah4 {S:SS} {m:Vbcnao.Msg} (h:4 ≤ e7 m) (hb:mB m ≠ (Vbcnao.knownAt S (mX m)).boot):Vbcnao.takes S m = S:=by
 cases m with
 | have_ x b v=>exact if_neg (Ne.symm hb)
 | flipped x b v=>exact if_neg (Ne.symm hb)
 | gone x b v=>exact if_neg (Ne.symm hb)
 | _=>simp [e7] at h
theorem Jr (T:Txt K mg A):aD P w K mg base aC 3 A.cM A.j5 ["world","message"] (m6 A):=by
 refine T.o8.ok vp (fun vs H Q E h=>?_) (fun au R outer s H vs Q E hr h=>?_)
 ·obtain ⟨ρ,S,a,m,c,rfl,_⟩:=h
  rfl
 ·obtain ⟨ρ,S,a,m,c,rfl,W,G,hc4,EE,hx,hk4,k⟩:=h
  obtain ⟨dx,hw⟩:=W.aF
  obtain ⟨qu,hc⟩:=W.cf
  obtain ⟨EN,rv,hg,A6⟩:=EE
  have hi:=l6 hx
  have gk:=G.kn _ (tR hx)
  have gl:=G.PV (tR hx)
  have pA:(S.known.map fun k=>nV k.boot)[mX m]? = some (nV (Vbcnao.knownAt S (mX m)).boot):=by rw [List.getElem?_map,hi]; rfl
  refine ⟨_,(IQ T hr (VL T) (XS T)).2,?_⟩
  refine ⟨_,rfl,_,_,_,_,_,rfl,hw,T.aB,T.aR,aa bq rfl rfl,?_⟩
  refine ⟨_,rfl,_,_,_,_,_,rfl,hg,T.aG,T.dG,aa ji rfl rfl,_,rfl,_,_,_,_,_,rfl,hc,T.aA,T.bY,aa ee rfl rfl,_,rfl,_,_,_,_,_,rfl,hg,T.aG,T.eO,aa jv rfl rfl,_,_,_,_,rfl,rfl,aM.of W.j7,gP pA,rfl,_,rfl,?_⟩
  have en:(!decide (nV (mB m) = nV (Vbcnao.knownAt S (mX m)).boot)) = !decide (mB m = (Vbcnao.knownAt S (mX m)).boot):=congrArg _ (kR _ _)
  rw [en]
  refine aZ (fun d=>?_) (fun d=>?_)
  ·have d':mB m ≠ (Vbcnao.knownAt S (mX m)).boot:=by simpa using d
   rw [ah4 hk4 d'] at k
   exact k ρ H (.refl W)
  have d':mB m = (Vbcnao.knownAt S (mX m)).boot:=by simpa using d
  obtain ⟨dxm,hm⟩:=W.mm hi
  refine ⟨_,rfl,_,_,_,_,_,rfl,hc,T.aA,T.bD,aa cJ rfl rfl,_,rfl,_,_,_,_,_,rfl,hg,T.aG,T.eO,aa jv rfl rfl,_,_,_,_,rfl,rfl,aM.of W.eS,gP (jG hx),?_⟩
  dsimp only [LW]
  refine rS (t1:=K5 _ _ _) (fun σ' H'=>∃ S1:SS,σ' = [some (.ref (ρ .aF)),some (.ref a),some (.ref (ρ .cf)),some (.ref (ρ (.mm (mX m))))] ∧ dM A ρ S H ρ S1 H' ∧ Vbcnao.settles S1 = Vbcnao.takes S m ∧ S1.retired = S.retired) ?_ ?_
  ·rintro σ' H1 ⟨S1,rfl,st,es,er⟩
   obtain ⟨dx1,Gk⟩:=st.wd.aF
   have hrl:=G.XE
   refine ⟨_,rfl,_,rfl,_,_,_,_,_,rfl,Gk,T.aB,T.fz,aa ju rfl rfl,_,rfl,_,_,_,_,_,rfl,Gk,T.aB,T.jT,aa MR rfl rfl,_,_,rfl,rfl,ρ,S1,400,rfl,st.wd,(by rw [er]; omega),Nat.le_refl _,fun H2 c7=>?_⟩
   refine ⟨_,rfl,ρ,A7 S1,0,rfl,c7.wd,(by have:=ahG S1; rw [er] at this; omega),fun ρ' H3 m5=>?_⟩
   rw [← agR,es] at m5
   exact k ρ' H3 ((st.trans c7).trans m5)
  ·intro rest
   cases m with
   | have_ x b v =>
    have ek:Vbcnao.takes S (.have_ x b v) = Vbcnao.settles (Vbcnao.onKnown S x fun k=>{ k with haves:=Vbcnao.putNat v k.haves }):=if_pos d'.symm
    obtain ⟨kvs,hh,dk⟩:=W.hv hi
    refine ⟨_,rfl,_,_,_,_,_,rfl,hg,T.aG,T.bG,aa cK rfl rfl,rfl,_,rfl,?_⟩
    refine aZ (fun _=>?_) (fun z=>absurd rfl z)
    refine ⟨_,rfl,_,_,_,_,_,rfl,hm,T.eu,T.eR,aa ku rfl rfl,_,rfl,_,_,_,_,_,rfl,hg,T.aG,T.br,aa ck rfl rfl,_,_,rfl,FP.k (k:=Sum.inl (v:Int)) hh ?_,?_⟩
    ·rw [dk.len]
     unfold fj
     rw [List.length_map]
     exact Nat.lt_of_le_of_lt gl.1 (Nat.lt_of_le_of_lt (Nat.succ_le_succ hc4) (by decide))
    ·have st:=W.abh T.gS hi (f:=fun k=>{ k with haves:=Vbcnao.putNat v k.haves }) (.hv x) hx (o:=.dK (putK kvs (Sum.inl (v:Int)) (.bl true))) (fun _ _=>rfl) (fun _=>rfl) (fun z=>absurd rfl z) (fun _=>rfl) ⟨_,_,bh hi,rfl,dk.afx gk.hup v⟩
     exact rest _ _ ⟨_,rfl,st,ek.symm,rfl⟩
   | flipped x b v =>
    have ek:Vbcnao.takes S (.flipped x b v) = Vbcnao.settles (Vbcnao.onKnown S x fun k=>{ k with flipped:=max k.flipped v }):=if_pos d'.symm
    refine ⟨_,rfl,_,_,_,_,_,rfl,hg,T.aG,T.bG,aa cK rfl rfl,rfl,_,rfl,?_⟩
    refine aZ (fun z=>absurd z Bool.false_ne_true) (fun _=>?_)
    refine ⟨_,rfl,_,_,_,_,_,rfl,hg,T.aG,T.bG,aa cK rfl rfl,rfl,_,rfl,?_⟩
    refine aZ (fun _=>?_) (fun z=>absurd rfl z)
    refine ⟨_,rfl,_,_,_,_,_,rfl,hm,T.eu,T.eA,aa kJ rfl rfl,_,rfl,_,_,_,_,_,rfl,hg,T.aG,T.br,aa ck rfl rfl,_,_,rfl,_,rfl,_,_,_,_,rfl,hm,T.eu,T.eA,(mZ rfl (by decide)),?_⟩
    have emax:(if ((v:Nat):Int) > (((Vbcnao.knownAt S x).flipped:Nat):Int) then ((v:Nat):Int) else (((Vbcnao.knownAt S x).flipped:Nat):Int)) = ((max (Vbcnao.knownAt S x).flipped v:Nat):Int):=by
     split <;> omega
    have ef:bz "turned" (V.int (if ((v:Nat):Int) > (((Vbcnao.knownAt S x).flipped:Nat):Int) then ((v:Nat):Int) else (((Vbcnao.knownAt S x).flipped:Nat):Int))) (BH ρ x (Vbcnao.knownAt S x)) = BH ρ x { Vbcnao.knownAt S x with flipped:=max (Vbcnao.knownAt S x).flipped v }:=by
     rw [emax]
     exact gH kJ rfl (by decide)
    have st:=W.abh T.gS hi (f:=fun k=>{ k with flipped:=max k.flipped v }) (.mm x) hx (o:=.ins A.bZ dxm (BH ρ x { Vbcnao.knownAt S x with flipped:=max (Vbcnao.knownAt S x).flipped v })) (fun _ _=>rfl) (fun z=>absurd rfl z) (fun _=>rfl) (fun _=>rfl) ⟨_,dxm,bh hi,rfl⟩
    rw [← ef] at st
    exact rest _ _ ⟨_,rfl,st,ek.symm,rfl⟩
   | gone x b v =>
    have ek:Vbcnao.takes S (.gone x b v) = Vbcnao.settles (Vbcnao.onKnown S x fun k=>{ k with gones:=Vbcnao.putNat v k.gones }):=if_pos d'.symm
    obtain ⟨kvs,hh,dk⟩:=W.gn hi
    refine ⟨_,rfl,_,_,_,_,_,rfl,hg,T.aG,T.bG,aa cK rfl rfl,rfl,_,rfl,?_⟩
    refine aZ (fun z=>absurd z Bool.false_ne_true) (fun _=>?_)
    refine ⟨_,rfl,_,_,_,_,_,rfl,hg,T.aG,T.bG,aa cK rfl rfl,rfl,_,rfl,?_⟩
    refine aZ (fun z=>absurd z Bool.false_ne_true) (fun _=>?_)
    refine ⟨_,rfl,_,_,_,_,_,rfl,hm,T.eu,T.fK,aa nN rfl rfl,_,rfl,_,_,_,_,_,rfl,hg,T.aG,T.br,aa ck rfl rfl,_,_,rfl,FP.k (k:=Sum.inl (v:Int)) hh ?_,?_⟩
    ·rw [dk.len]
     unfold fj
     rw [List.length_map]
     exact Nat.lt_of_le_of_lt gl.2 (Nat.lt_of_le_of_lt (Nat.succ_le_succ hc4) (by decide))
    ·have st:=W.abh T.gS hi (f:=fun k=>{ k with gones:=Vbcnao.putNat v k.gones }) (.gn x) hx (o:=.dK (putK kvs (Sum.inl (v:Int)) (.bl true))) (fun _ _=>rfl) (fun _=>rfl) (fun _=>rfl) (fun z=>absurd rfl z) ⟨_,_,bh hi,rfl,dk.afx gk.gup v⟩
     exact rest _ _ ⟨_,rfl,st,ek.symm,rfl⟩
   | _=>simp [e7] at hk4
noncomputable def qD (A:bg):Sp:=fun vs H Q _=>∃ (ρ:Role → Addr) (S:SS) (a:Addr) (m:Vbcnao.Msg) (c:Nat),vs = [.ref (ρ .aF),.ref a] ∧ Wd A ρ S H ∧ Good c S ∧ c ≤ 400 ∧ f9 A H a m ∧ lj S.switches.length S.policies.length m ∧
 ∀ ρ' H',dM A ρ S H ρ' (Vbcnao.takes S m) H' → Q .bL H'
theorem OR (T:Txt K mg A):aD P w K mg base aC 6 A.gC A.t9 ["world","message"] (qD A):=by
 refine T.Ay.ok acm (fun vs H Q E h=>?_) (fun au R outer s H vs Q E hr h=>?_)
 ·obtain ⟨ρ,S,a,m,c,rfl,_⟩:=h
  rfl
 ·obtain ⟨ρ,S,a,m,c,rfl,W,G,hc4,EE,gm,k⟩:=h
  obtain ⟨dx,hw⟩:=W.aF
  obtain ⟨EN,rv,hg,A6⟩:=EE
  have hm:f9 A H a m:=⟨EN,rv,hg,A6⟩
  have hx:mX m < S.switches.length:=by
   have:=gm.x
   cases m <;> exact this
  refine ⟨_,(abA T hr (aaK T) (RZ T) (Jr T)).2,?_⟩
  refine ⟨_,rfl,_,_,_,_,_,rfl,hg,T.aG,T.bG,aa cK rfl rfl,rfl,_,rfl,?_⟩
  have e3:decide (nV (e7 m) = V.int 3) = decide (e7 m = 3):=kR _ 3
  show if decide (nV (e7 m) = V.int 3) = true then _ else _
  rw [e3]
  refine aZ (fun d=>?_) (fun d=>?_)
  ·have d':=of_decide_eq_true d
   cases m with
   | hello x b=>exact ⟨_,rfl,_,_,_,_,_,rfl,hw,T.aB,T.aR,aa bq rfl rfl,_,rfl,ρ,S,a,x,b,rfl,W,hm,(by rw [G.n]; exact hx),k⟩
   | _=>simp [e7] at d'
  have d':e7 m ≠ 3:=fun z=>d (decide_eq_true z)
  refine ⟨_,rfl,_,_,_,_,_,rfl,hg,T.aG,T.bG,aa cK rfl rfl,lz,fun p hp=>?_⟩
  have s1:=aH.upd (o:=.tup [.int 0,.int 1,.int 2]) hp
  have st:=W.same s1
  have We:=hm.mono (.of_same s1)
  refine ⟨_,_,rfl,.inr (j0.of ae),rfl,rfl,_,rfl,?_⟩
  have ein:ZK (nV (e7 m)) [.int 0,.int 1,.int 2] = decide (e7 m ≤ 2):=by cases m <;> rfl
  show if ZK (nV (e7 m)) [.int 0,.int 1,.int 2] = true then _ else _
  rw [ein]
  refine aZ (fun f=>?_) (fun f=>?_)
  ·exact ⟨_,rfl,_,rfl,ρ,S,a,m,c,rfl,st.wd,G,hc4,We,gm,of_decide_eq_true f,fun ρ' H' c7=>k ρ' H' (st.trans c7)⟩
  ·have f':¬ e7 m ≤ 2:=fun z=>f (decide_eq_true z)
   exact ⟨_,rfl,_,rfl,ρ,S,a,m,c,rfl,st.wd,G,hc4,We,(by rw [G.n]; exact hx),(by omega),fun ρ' H' c7=>k ρ' H' (st.trans c7)⟩
end
end Pt
namespace Pt
open PySem PySem.Spec PyProof.Rows L2
theorem akl {K:W.Frag} {a:Addr} {xs:List V} {g:TG} {tb:TS} {D:Ends} {σ:L2.St} {H:Hp} (Pv:Nat → L2.St → Hp → Prop) (h0:Pv 0 σ H) (hl:∀ i σ H,i ≤ xs.length → Pv i σ H → aM K H a xs)
  (hs:∀ i x σ H t,xs[i]? = some x → Pv i σ H → H t = none → g (.ref t) σ (upd H t (.tup [.int (i:Nat),x])) fun σ2 H2=>tb { D with nx:=Pv (i + 1),ct:=Pv (i + 1),bk:=D.nx } σ2 H2) (hd:∀ σ H,Pv xs.length σ H → D.nx σ H) :
  ∃ W:Nat → Nat → L2.St → Hp → Prop,(∃ m,W 0 m σ H) ∧ ∀ i m σ H,W i m σ H →
   ((Ite K a).stop i H ∧ D.nx σ H) ∨ ((Ite K a).go i H ∧ ∃ N:L2.St → Hp → Prop,(∀ σ' H',N σ' H' → ∃ m',m' < m ∧ W (i + 1) m' σ' H') ∧ ∀ x H',(Ite K a).U3 i H x H' → g x σ H' fun σ2 H2=>tb { D with nx:=N,ct:=N,bk:=D.nx } σ2 H2):=by
 refine ⟨fun i m σ H=>i + m = xs.length ∧ Pv i σ H,⟨xs.length,by omega,h0⟩,fun i m σ H ⟨e,p⟩=>?_⟩
 have q:=hl i σ H (by omega) p
 by_cases hi:i < xs.length
 ·refine .inr ⟨⟨xs,xs[i],q,List.getElem?_eq_getElem hi⟩,Pv (i + 1),fun σ' H' p'=>⟨m - 1,by omega,by omega,p'⟩,?_⟩
  rintro v H' ⟨t,x,rfl,ht,rfl,hx⟩
  exact hs i x σ H t (hx xs q) p ht
 ·have:i = xs.length:=by omega
  subst this
  exact .inl ⟨⟨xs,q,Nat.le_refl _⟩,hd σ H p⟩
theorem made {A:bg} {ρ:Role → Addr} {S:SS} {H:Hp} (W:Wd A ρ S H) {x dx:Addr} (nx:H x = none) (ndx:H dx = none) (m:Vbcnao.Msg) (rv:V) (A6:WZ H rv (mR m)) :
  dM A ρ S H ρ S (nB H x dx A.aU (T8 m rv)) ∧ f9 A (nB H x dx A.aU (T8 m rv)) x m ∧ aH H (nB H x dx A.aU (T8 m rv)):=by
 have s1:aH H (nB H x dx A.aU (T8 m rv)):=aH.nB nx ndx
 exact ⟨W.same s1,⟨dx,rv,ae,A6.mono (A:=A) (.of_same s1)⟩,s1⟩
theorem qF (S:SS) (l m:List Vbcnao.Msg):Vbcnao.sends S (l ++ m) = Vbcnao.sends (Vbcnao.sends S l) m:=List.foldl_append
theorem aic (S:SS) (m:Vbcnao.Msg):Vbcnao.sends S [m] = Vbcnao.send S m:=rfl
noncomputable def Bl (S T:SS):Prop:=∃ b l,T = { S with bag:=b,lost:=l }
theorem Bl.refl (S:SS):Bl S S:=⟨S.bag,S.lost,rfl⟩
theorem Bl.send {S T:SS} (h:Bl S T) (m:Vbcnao.Msg):Bl S (Vbcnao.send T m):=by
 obtain ⟨b,l,rfl⟩:=h
 unfold Vbcnao.send
 split
 ·exact ⟨_,_,rfl⟩
 ·exact ⟨_,_,rfl⟩
theorem Bl.sends {S:SS} (ms:List Vbcnao.Msg):∀ {T:SS},Bl S T → Bl S (Vbcnao.sends T ms):=by
 induction ms with
 | nil=>exact fun h=>h
 | cons m ms ih=>exact fun h=>ih (h.send m)
theorem O3:∀ (l:List Vbcnao.Rule) (n i:Nat),(Vbcnao.numbered n l)[i]? = (l[i]?).map fun r=>(n + i,r)
 | [],n,i=>by simp [Vbcnao.numbered]
 | r :: l,n,0=>rfl
 | r :: l,n,i + 1=>by
  show (Vbcnao.numbered (n + 1) l)[i]? = _
  rw [O3 l (n + 1) i,List.getElem?_cons_succ]
  cases l[i]? with
  | none=>rfl
  | some r=>simp; omega
theorem O2:∀ (l:List Vbcnao.Rule) (n:Nat),(Vbcnao.numbered n l).length = l.length
 | [],_=>rfl
 | _ :: l,n=>congrArg (· + 1) (O2 l (n + 1))
section
variable {P:Program} {w:World} {K:W.Frag} {mg:Str → Option Value} {base:Heap} {A:bg}
noncomputable def DR (A:bg):Sp:=fun vs H Q _=>∃ (ρ:Role → Addr) (S:SS) (x v c:Nat),vs = [.ref (ρ .aF),nV x,nV v] ∧ Wd A ρ S H ∧ Good c S ∧ x < S.known.length ∧ 1 ≤ v ∧ v ≤ S.policies.length ∧
 ∀ H',dM A ρ S H ρ (Vbcnao.sends S (Vbcnao.rowsTo S x (Vbcnao.knownAt S x).boot v)) H' → Q .bL H'
theorem acK (T:Txt K mg A):aD P w K mg base aC 3 A.gX A.Ao ["world","x","version"] (DR A):=by
 refine T.Aw.ok N8 (fun vs H Q E h=>?_) (fun au R outer s H vs Q E hr h=>?_)
 ·obtain ⟨ρ,S,x,v,c,rfl,_⟩:=h
  rfl
 ·obtain ⟨ρ,S,x,v,c,rfl,W,G,hx,hv1,hv2,k⟩:=h
  obtain ⟨dx,hw⟩:=W.aF
  obtain ⟨qu,hc⟩:=W.cf
  have hi:=l6 hx
  have pA:(S.known.map fun k=>nV k.boot)[x]? = some (nV (Vbcnao.knownAt S x).boot):=by rw [List.getElem?_map,hi]; rfl
  obtain ⟨l,hl⟩:∃ l,S.policies[v - 1]? = some l:=⟨_,List.getElem?_eq_getElem (by omega)⟩
  obtain ⟨as,hpu,hp⟩:=W.pu hl
  have adH:Vbcnao.policy S v = l:=by
   unfold Vbcnao.policy
   rw [if_neg (by omega)]
   exact YD hl
  have aqz:l.length ≤ 16:=G.pol l (List.mem_of_getElem? hl)
  have hlen:=cQ hp
  generalize hb:(Vbcnao.knownAt S x).boot = b at *
  refine ⟨_,(abv T hr (tN T) (lG T) (lK T)).2,?_⟩
  refine ⟨_,rfl,_,_,_,_,_,rfl,hw,T.aB,T.aR,aa bq rfl rfl,_,_,_,_,_,rfl,hc,T.aA,T.bY,aa ee rfl rfl,_,rfl,_,_,_,_,rfl,rfl,aM.of W.j7,gP pA,?_⟩
  refine ⟨_,rfl,_,_,_,_,_,rfl,hw,T.aB,T.aR,aa bq rfl rfl,_,_,_,rfl,hc,aL tP,_,rfl,ρ,S,_,v - 1,rfl,W,(by show (v:Int) - 1 = _; omega),(by omega),?_⟩
  dsimp only [LW]
  have own:live S (.pu (v - 1)):=by
   show v - 1 < S.policies.length
   omega
  refine rS (t1:=K5 _ _ _) (fun σ' H'=>∃ S1,σ' = [some (.ref (ρ .aF)),some (nV x),some (nV v),some (nV b),some (.ref (ρ (.pu (v - 1)))),none,none] ∧ dM A ρ S H ρ S1 H' ∧ Bl S S1 ∧ S1 = Vbcnao.sends S (if l = [] then [.row x b v 0 0 none] else [])) ?_ ?_
  ·rintro σ' H1 ⟨S1,rfl,st,bl,es⟩
   have JT:∀ S2 H2,dM A ρ S H ρ S2 H2 → Bl S S2 → ∃ as2:List Addr,H2 (ρ (.pu (v - 1))) = some (.lst (as2.map .ref)) ∧ Paired (i7 H2) as2 l:=fun S2 H2 c7 bl2=>by
    obtain ⟨b2,l2,rfl⟩:=bl2
    exact c7.wd.pu hl
   obtain ⟨as1,anm,apP⟩:=JT S1 H1 st bl
   refine ⟨_,rfl,_,_,rfl,aM.of anm,akl (K:=K) (a:=ρ (.pu (v - 1))) (xs:=as1.map V.ref) (fun i σ H'=>∃ (u1 u2:Option V) (S2:SS),σ = [some (.ref (ρ .aF)),some (nV x),some (nV v),some (nV b),some (.ref (ρ (.pu (v - 1)))),u1,u2] ∧ H' (ρ (.pu (v - 1))) = some (.lst (as1.map .ref)) ∧ Paired (i7 H') as1 l ∧
     dM A ρ S H ρ S2 H' ∧ Bl S S2 ∧ S2 = Vbcnao.sends S1 (((Vbcnao.numbered 0 l).take i).map fun p=>.row x b v p.1 l.length (some p.2)))
    ⟨none,none,S1,rfl,anm,apP,st,bl,rfl⟩ (fun i σ H' _ ⟨_,_,_,_,e,_⟩=>aM.of e) ?_ ?_⟩
   ·rintro i y σ H' t sf ⟨u1,u2,S2,rfl,akb,adG,lq,S6,EM⟩ ht
    obtain ⟨a,ha,rfl⟩:=nE sf
    obtain ⟨r,PK,SG⟩:=lY adG ha
    have s1:=aH.upd (o:=.tup [.int (i:Nat),V.ref a]) ht
    have stt:=lq.trans (lq.wd.same s1)
    have W':=stt.wd
    obtain ⟨g9,hw'⟩:=W'.aF
    have PU:S2.cap ≤ 4096:=by
     obtain ⟨b2,l2,rfl⟩:=S6
     exact G.cap
    have hln:((as1.map V.ref).length:Nat) = l.length:=by rw [List.length_map,cQ adG]
    refine ⟨_,_,rfl,j0.of ae,rfl,_,_,rfl,?_⟩
    refine ⟨_,_,rfl,rfl,_,rfl,_,_,_,rfl,hw',aL jR,_,rfl,_,rfl,_,rfl,_,rfl,_,rfl,_,_,rfl,.inl (aM.of (s1 _ _ akb)),_,rfl,?_⟩
    rw [hln]
    intro x0 Ww V1 LA ne0
    refine ⟨x0,Ww,_,_,_,_,_,_,_,rfl,ae,rfl,?_⟩
    rw [dO]
    obtain ⟨CS,Gp,sm⟩:=made W' V1 LA (.row x b v i l.length (some r)) (.ref a) ⟨a,rfl,s1 _ _ SG⟩
    refine ⟨ρ,S2,x0,.row x b v i l.length (some r),rfl,CS.wd,Gp,PU,fun H2 c7 fr=>?_⟩
    have m5:=(stt.trans CS).trans c7
    have bl3:=S6.send (.row x b v i l.length (some r))
    have im:=(CS.trans c7).SE T.gS W'
    refine ⟨_,_,_,rfl,?_,jH adG fun q r' h=>im _ _ trivial (s1 _ _ h),m5,bl3,?_⟩
    ·exact (fr _ (fun z=>by cases W.inj _ .aF own trivial z) (fun z=>by cases W.inj _ .bag own trivial z)).trans (sm _ _ (s1 _ _ akb))
    ·rw [take_snoc (x:=(i,r)) (by rw [O3,PK]; simp),List.map_append,qF,← EM]
     rfl
   ·rintro σ H' ⟨u1,u2,S2,rfl,akb,adG,lq,S6,EM⟩
    refine k H' ?_
    have e:Vbcnao.rowsTo S x b v = (if l = [] then [.row x b v 0 0 none] else []) ++ (Vbcnao.numbered 0 l).map fun p=>.row x b v p.1 l.length (some p.2):=by
     unfold Vbcnao.rowsTo
     rw [adH]
     dsimp only
     by_cases z:l = []
     ·subst z
      rfl
     ·rw [if_neg z,if_neg z]
      rfl
    rw [e,qF,← es]
    rw [List.length_map,cQ adG,List.take_of_length_le (Nat.le_of_eq (O2 l 0))] at EM
    rw [← EM]
    exact lq
  ·intro rest
   refine ⟨_,rfl,_,_,rfl,.inl (aM.of hpu),rfl,_,rfl,?_⟩
   have ez:decide (V.int (((as.map V.ref).length:Nat):Int) = V.int 0) = decide (l = []):=by
    rw [List.length_map,hlen,show decide (V.int ((l.length:Nat):Int) = V.int 0) = decide (l.length = 0) from kR _ 0]
    cases l <;> simp
   show if decide (V.int (((as.map V.ref).length:Nat):Int) = V.int 0) = true then _ else _
   rw [ez]
   refine aZ (fun d=>?_) (fun d=>?_)
   ·have d':=of_decide_eq_true d
    rw [if_pos d'] at rest
    refine ⟨_,rfl,_,_,_,rfl,hw,aL jR,_,rfl,_,rfl,_,rfl,?_⟩
    intro x0 Ww V1 LA ne0
    refine ⟨x0,Ww,_,_,_,_,_,_,_,rfl,ae,rfl,?_⟩
    rw [dO]
    obtain ⟨CS,Gp,sm⟩:=made W V1 LA (.row x b v 0 0 none) .bL rfl
    exact ⟨ρ,S,x0,.row x b v 0 0 none,rfl,CS.wd,Gp,G.cap,fun H' c7 _=>rest _ _ ⟨_,rfl,CS.trans c7,(Bl.refl S).send _,rfl⟩⟩
   ·have d':¬ l = []:=fun z=>d (decide_eq_true z)
    rw [if_neg d'] at rest
    exact rest _ _ ⟨S,rfl,.refl W,.refl S,rfl⟩
noncomputable def Ga (S:SS) (x:Nat):List Nat:=([S.inForce,Vbcnao.newest S].filter fun v=>decide (0 < v) && !(Vbcnao.knownAt S x).haves.contains v).eraseDups
theorem aj1 (S:SS) (x:Nat):Ga S x = (if S.inForce ≠ 0 ∧ (Vbcnao.knownAt S x).haves.contains S.inForce = false then [S.inForce] else []) ++ (if S.pending = true ∧ (Vbcnao.knownAt S x).haves.contains (S.inForce + 1) = false then [S.inForce + 1] else []):=by
 unfold Ga Vbcnao.newest
 generalize (Vbcnao.knownAt S x).haves = hs
 by_cases p:S.pending = true
 ·rw [if_pos p]
  by_cases a:S.inForce ≠ 0 ∧ hs.contains S.inForce = false
  ·rw [if_pos a]
   by_cases b:hs.contains (S.inForce + 1) = false
   ·rw [if_pos ⟨p,b⟩]
    have e1:(decide (0 < S.inForce) && !hs.contains S.inForce) = true:=by rw [a.2,decide_eq_true (by omega)]; rfl
    have e2:(decide (0 < S.inForce + 1) && !hs.contains (S.inForce + 1)) = true:=by rw [b,decide_eq_true (by omega)]; rfl
    rw [List.filter_cons,if_pos e1,List.filter_cons,if_pos e2,List.filter_nil,List.eraseDups_cons,List.filter_cons,if_pos (by simp),List.filter_nil,List.eraseDups_cons,List.filter_nil,List.eraseDups_nil]
    rfl
   ·rw [if_neg fun z=>b z.2]
    have e1:(decide (0 < S.inForce) && !hs.contains S.inForce) = true:=by rw [a.2,decide_eq_true (by omega)]; rfl
    have e2:¬ (decide (0 < S.inForce + 1) && !hs.contains (S.inForce + 1)) = true:=by simp at b ⊢; exact b
    rw [List.filter_cons,if_pos e1,List.filter_cons,if_neg e2,List.filter_nil,List.eraseDups_cons,List.filter_nil,List.eraseDups_nil]
    rfl
  ·rw [if_neg a]
   have e1:¬ (decide (0 < S.inForce) && !hs.contains S.inForce) = true:=fun z=>a (by
    rw [Bool.and_eq_true,decide_eq_true_eq,Bool.not_eq_true'] at z
    exact ⟨by omega,z.2⟩)
   by_cases b:hs.contains (S.inForce + 1) = false
   ·rw [if_pos ⟨p,b⟩]
    have e2:(decide (0 < S.inForce + 1) && !hs.contains (S.inForce + 1)) = true:=by rw [b,decide_eq_true (by omega)]; rfl
    rw [List.filter_cons,if_neg e1,List.filter_cons,if_pos e2,List.filter_nil,List.eraseDups_cons,List.filter_nil,List.eraseDups_nil]
    rfl
   ·rw [if_neg fun z=>b z.2]
    have e2:¬ (decide (0 < S.inForce + 1) && !hs.contains (S.inForce + 1)) = true:=by simp at b ⊢; exact b
    rw [List.filter_cons,if_neg e1,List.filter_cons,if_neg e2,List.filter_nil,List.eraseDups_nil]
    rfl
 ·rw [if_neg p,if_neg (fun z:S.pending = true ∧ _=>p z.1),List.append_nil]
  by_cases a:S.inForce ≠ 0 ∧ hs.contains S.inForce = false
  ·rw [if_pos a]
   have e1:(decide (0 < S.inForce) && !hs.contains S.inForce) = true:=by rw [a.2,decide_eq_true (by omega)]; rfl
   rw [List.filter_cons,if_pos e1,List.filter_cons,if_pos e1,List.filter_nil,List.eraseDups_cons,List.filter_cons,if_neg (by simp),List.filter_nil,List.eraseDups_nil]
  ·rw [if_neg a]
   have e1:¬ (decide (0 < S.inForce) && !hs.contains S.inForce) = true:=fun z=>a (by
    rw [Bool.and_eq_true,decide_eq_true_eq,Bool.not_eq_true'] at z
    exact ⟨by omega,z.2⟩)
   rw [List.filter_cons,if_neg e1,List.filter_cons,if_neg e1,List.filter_nil,List.eraseDups_nil]
noncomputable def wm (A:bg):Sp:=fun vs H Q _=>∃ (ρ:Role → Addr) (S:SS) (x c:Nat),vs = [.ref (ρ .aF),nV x] ∧ Wd A ρ S H ∧ Good c S ∧ x < S.known.length ∧
 ∀ H',dM A ρ S H ρ (Vbcnao.sends S ((Ga S x).flatMap fun v=>Vbcnao.rowsTo S x (Vbcnao.knownAt S x).boot v)) H' → Q .bL H'
theorem VJ (T:Txt K mg A):aD P w K mg base aC 4 A.eU A.rY ["world","x"] (wm A):=by
 refine T.Af.ok FZ (fun vs H Q E h=>?_) (fun au R outer s H vs Q E hr h=>?_)
 ·obtain ⟨ρ,S,x,c,rfl,_⟩:=h
  rfl
 ·obtain ⟨ρ,S,x,c,rfl,W,G,hx,k⟩:=h
  obtain ⟨dx,hw⟩:=W.aF
  obtain ⟨qu,hc⟩:=W.cf
  have hi:=l6 hx
  obtain ⟨dxm,hm⟩:=W.mm hi
  obtain ⟨kvs,hh,dk⟩:=W.hv hi
  have hF:=G.inF
  have ap0:∀ v:Nat,(iz kvs (Sum.inl (v:Int))).isSome = (Vbcnao.knownAt S x).haves.contains v:=fun v=>by
   rw [dk.isSome,cX,List.contains_eq_mem]
  rw [aj1,List.flatMap_append,qF] at k
  refine ⟨_,(U8 T hr (acK T)).2,?_⟩
  refine ⟨_,rfl,_,_,_,_,_,rfl,hw,T.aB,T.aR,aa bq rfl rfl,?_⟩
  refine ⟨_,rfl,_,_,_,_,_,rfl,hc,T.aA,T.bD,aa cJ rfl rfl,_,rfl,_,_,_,_,rfl,rfl,aM.of W.eS,gP (jG hx),_,_,_,_,_,rfl,hm,T.eu,T.eR,aa ku rfl rfl,?_⟩
  dsimp only [LW]
  refine rS (t1:=K5 _ _ _) (fun σ' H'=>∃ ms:List Vbcnao.Msg,σ' = [some (.ref (ρ .aF)),some (nV x),some (.ref (ρ .cf)),some (.ref (ρ (.hv x)))] ∧ dM A ρ S H ρ (Vbcnao.sends S ms) H' ∧ (∀ m ∈ ms,lj S.switches.length S.policies.length m) ∧ ms = ((if S.inForce ≠ 0 ∧ (Vbcnao.knownAt S x).haves.contains S.inForce = false then [S.inForce] else []).flatMap fun v=>Vbcnao.rowsTo S x (Vbcnao.knownAt S x).boot v)) ?_ ?_
  ·rintro σ' H1 ⟨ms,rfl,st,gms,ems⟩
   rw [← ems] at k
   have G1:Good c (Vbcnao.sends S ms):=G.sends gms
   obtain ⟨bb,ll,eb⟩:=(Bl.refl S).sends ms
   rw [eb] at k st G1
   have W1:=st.wd
   obtain ⟨aqI,ZP⟩:=W1.cf
   obtain ⟨anc,hh1,dk1⟩:=W1.hv hi
   have aoG:∀ v:Nat,(iz anc (Sum.inl (v:Int))).isSome = (Vbcnao.knownAt S x).haves.contains v:=fun v=>by
    rw [dk1.isSome,cX,List.contains_eq_mem]
   refine ⟨_,rfl,_,_,_,_,_,rfl,ZP,T.aA,T.b5,aa eT rfl rfl,_,rfl,?_⟩
   refine aZ (fun p=>?_) (fun p=>?_)
   ·refine ⟨_,rfl,_,_,_,_,_,rfl,ZP,T.aA,T.aV,aa bu rfl rfl,_,_,rfl,rfl,_,rfl,_,_,rfl,jn.k (k:=Sum.inl ((S.inForce + 1:Nat):Int)) hh1,_,rfl,?_⟩
    rw [aoG]
    refine aZ (fun d=>?_) (fun d=>?_)
    ·have d':(Vbcnao.knownAt S x).haves.contains (S.inForce + 1) = false:=by simpa using d
     rw [if_pos ⟨p,d'⟩,List.flatMap_cons,List.flatMap_nil,List.append_nil] at k
     have adH:=G.pend
     rw [if_pos p] at adH
     exact ⟨_,rfl,_,rfl,_,rfl,_,_,_,_,_,rfl,ZP,T.aA,T.aV,aa bu rfl rfl,_,_,rfl,rfl,ρ,_,x,S.inForce + 1,c,rfl,W1,G1,hx,(by omega),(by show _ ≤ S.policies.length; omega),fun H' c7=>k H' (st.trans c7)⟩
    ·rw [if_neg fun z:_ ∧ _=>d (by rw [z.2]; rfl)] at k
     exact k H1 st
   ·rw [if_neg fun z:S.pending = true ∧ _=>p z.1] at k
    exact aZ (fun z=>absurd z Bool.false_ne_true) fun _=>k H1 st
  ·intro rest
   refine ⟨_,rfl,_,_,_,_,_,rfl,hc,T.aA,T.aV,aa bu rfl rfl,rfl,_,rfl,?_⟩
   have en:(!decide (nV S.inForce = V.int 0)) = !decide (S.inForce = 0):=congrArg _ (kR S.inForce 0)
   show if (!decide (nV S.inForce = V.int 0)) = true then _ else _
   rw [en]
   refine aZ (fun p=>?_) (fun p=>?_)
   ·have p':S.inForce ≠ 0:=by simpa using p
    refine ⟨_,rfl,_,_,_,_,_,rfl,hc,T.aA,T.aV,aa bu rfl rfl,_,rfl,_,_,rfl,jn.k (k:=Sum.inl (S.inForce:Int)) hh,_,rfl,?_⟩
    rw [ap0]
    refine aZ (fun d=>?_) (fun d=>?_)
    ·have d':(Vbcnao.knownAt S x).haves.contains S.inForce = false:=by simpa using d
     rw [if_pos ⟨p',d'⟩,List.flatMap_cons,List.flatMap_nil,List.append_nil] at rest
     exact ⟨_,rfl,_,rfl,_,rfl,_,_,_,_,_,rfl,hc,T.aA,T.aV,aa bu rfl rfl,ρ,S,x,S.inForce,c,rfl,W,G,hx,(by omega),hF.1,fun H' c7=>rest _ _ ⟨_,rfl,c7,G.rowsTo (by rw [← G.n]; exact hx) hF.1,rfl⟩⟩
    ·rw [if_neg fun z:_ ∧ _=>d (by rw [z.2]; rfl)] at rest
     exact rest _ _ ⟨[],rfl,.refl W,by simp,rfl⟩
   ·have p':¬ S.inForce ≠ 0:=by simpa using p
    rw [if_neg fun z:S.inForce ≠ 0 ∧ _=>p' z.1] at rest
    exact aZ (fun z=>absurd z Bool.false_ne_true) fun _=>rest _ _ ⟨[],rfl,.refl W,by simp,rfl⟩
noncomputable def EJ (S:SS) (x:Nat):List Vbcnao.Msg:=if 0 < Vbcnao.target S ∧ (Vbcnao.knownAt S x).flipped < Vbcnao.target S ∧ (Vbcnao.knownAt S x).haves.contains (Vbcnao.target S) = true then [.flip x (Vbcnao.knownAt S x).boot (Vbcnao.target S)] else []
noncomputable def Qc (S:SS) (x:Nat):List Vbcnao.Msg:=(S.retired.filter fun r=>decide (r.2 ≤ S.now) && !(Vbcnao.knownAt S x).gones.contains r.1).map fun r=>.drop x (Vbcnao.knownAt S x).boot r.1
theorem ahT (S:SS) (x:Nat):Vbcnao.workTo S x = ((Ga S x).flatMap fun v=>Vbcnao.rowsTo S x (Vbcnao.knownAt S x).boot v) ++ EJ S x ++ Qc S x:=rfl
noncomputable def DS (A:bg):Sp:=fun vs H Q _=>∃ (ρ:Role → Addr) (S:SS) (x:Nat),vs = [.ref (ρ .aF),nV x,nV (Vbcnao.target S)] ∧ Wd A ρ S H ∧ S.cap ≤ 4096 ∧ x < S.known.length ∧
 ∀ H',dM A ρ S H ρ (Vbcnao.sends S (EJ S x)) H' → Q .bL H'
theorem acL (T:Txt K mg A):aD P w K mg base aC 3 A.gY A.Aq ["world","x","target"] (DS A):=by
 refine T.IK.ok N9 (fun vs H Q E h=>?_) (fun au R outer s H vs Q E hr h=>?_)
 ·obtain ⟨ρ,S,x,rfl,_⟩:=h
  rfl
 ·obtain ⟨ρ,S,x,rfl,W,PU,hx,k⟩:=h
  obtain ⟨dx,hw⟩:=W.aF
  obtain ⟨qu,hc⟩:=W.cf
  have hi:=l6 hx
  obtain ⟨dxm,hm⟩:=W.mm hi
  obtain ⟨kvs,hh,dk⟩:=W.hv hi
  have pA:(S.known.map fun k=>nV k.boot)[x]? = some (nV (Vbcnao.knownAt S x).boot):=by rw [List.getElem?_map,hi]; rfl
  unfold EJ at k
  generalize ht:Vbcnao.target S = t at *
  refine ⟨_,(abw T hr (lG T) (lK T)).2,?_⟩
  refine ⟨_,rfl,_,_,_,_,_,rfl,hw,T.aB,T.aR,aa bq rfl rfl,_,_,_,_,_,rfl,hc,T.aA,T.bD,aa cJ rfl rfl,_,rfl,_,_,_,_,rfl,rfl,aM.of W.eS,gP (jG hx),?_⟩
  refine ⟨_,rfl,rfl,_,rfl,?_⟩
  have en:(!decide (nV t = V.int 0)) = !decide (t = 0):=congrArg _ (kR t 0)
  show if (!decide (nV t = V.int 0)) = true then _ else _
  rw [en]
  refine aZ (fun p=>?_) (fun p=>?_)
  ·have p':t ≠ 0:=by simpa using p
   refine ⟨_,rfl,_,rfl,_,_,_,_,_,rfl,hm,T.eu,T.eR,aa ku rfl rfl,_,_,rfl,jn.k (k:=Sum.inl (t:Int)) hh,_,rfl,?_⟩
   rw [dk.isSome,cX,← List.contains_eq_mem]
   refine aZ (fun d=>?_) (fun d=>?_)
   ·refine ⟨_,rfl,_,_,_,_,_,rfl,hm,T.eu,T.eA,aa kJ rfl rfl,_,rfl,_,_,rfl,rfl,_,rfl,?_⟩
    refine aZ (fun f=>?_) (fun f=>?_)
    ·have f':((Vbcnao.knownAt S x).flipped:Int) < (t:Int):=of_decide_eq_true f
     rw [if_pos ⟨by omega,by omega,d⟩,aic] at k
     refine ⟨_,rfl,_,_,_,rfl,hw,aL jR,_,rfl,_,rfl,_,_,_,_,_,rfl,hw,T.aB,T.aR,aa bq rfl rfl,_,_,_,_,_,rfl,hc,T.aA,T.bY,aa ee rfl rfl,_,rfl,_,_,_,_,rfl,rfl,aM.of W.j7,gP pA,_,rfl,?_⟩
     intro x0 Ww V1 LA ne0
     refine ⟨x0,Ww,_,_,_,_,_,_,_,rfl,ae,rfl,?_⟩
     rw [dO]
     obtain ⟨CS,Gp,sm⟩:=made W V1 LA (.flip x (Vbcnao.knownAt S x).boot t) .bL rfl
     exact ⟨ρ,S,x0,.flip x (Vbcnao.knownAt S x).boot t,rfl,CS.wd,Gp,PU,fun H' c7 _=>k H' (CS.trans c7)⟩
    ·have f':¬ ((Vbcnao.knownAt S x).flipped:Int) < (t:Int):=fun z=>f (decide_eq_true z)
     rw [if_neg fun z=>f' (by omega)] at k
     exact k H (.refl W)
   ·rw [if_neg fun z=>d z.2.2] at k
    exact aZ (fun z=>absurd z Bool.false_ne_true) fun _=>k H (.refl W)
  ·have p':t = 0:=by simpa using p
   rw [if_neg fun z=>by omega] at k
   exact aZ (fun z=>absurd z Bool.false_ne_true) fun _=>k H (.refl W)
noncomputable def By (A:bg):Sp:=fun vs H Q _=>∃ (ρ:Role → Addr) (S:SS) (x:Nat),vs = [.ref (ρ .aF),nV x] ∧ Wd A ρ S H ∧ S.cap ≤ 4096 ∧ x < S.known.length ∧
 ∀ H',dM A ρ S H ρ (Vbcnao.sends S (Qc S x)) H' → Q .bL H'
theorem aaL (T:Txt K mg A):aD P w K mg base aC 3 A.gu A.xM ["world","x"] (By A):=by
 refine T.FL.ok Mx (fun vs H Q E h=>?_) (fun au R outer s H vs Q E hr h=>?_)
 ·obtain ⟨ρ,S,x,rfl,_⟩:=h
  rfl
 ·obtain ⟨ρ,S,x,rfl,W,PU,hx,k⟩:=h
  obtain ⟨dx,hw⟩:=W.aF
  obtain ⟨qu,hc⟩:=W.cf
  have hi:=l6 hx
  obtain ⟨dxm,hm⟩:=W.mm hi
  have pA:(S.known.map fun k=>nV k.boot)[x]? = some (nV (Vbcnao.knownAt S x).boot):=by rw [List.getElem?_map,hi]; rfl
  obtain ⟨as,p7,hp⟩:=W.ret
  refine ⟨_,(aaj T hr (lG T) (lK T)).2,?_⟩
  refine ⟨_,rfl,_,_,_,_,_,rfl,hw,T.aB,T.aR,aa bq rfl rfl,_,_,_,_,_,rfl,hc,T.aA,T.bD,aa cJ rfl rfl,_,rfl,_,_,_,_,rfl,rfl,aM.of W.eS,gP (jG hx),_,_,_,_,_,rfl,hm,T.eu,T.fK,aa nN rfl rfl,?_⟩
  refine ⟨_,rfl,_,_,_,_,_,rfl,hw,T.aB,T.aR,aa bq rfl rfl,_,_,_,_,_,rfl,hc,T.aA,T.cF,aa f7 rfl rfl,_,rfl,⟨_,aM.of p7⟩,iK (K:=K) (a:=ρ .ret) (xs:=as.map V.ref) (fun i σ H'=>∃ (u1 u2:Option V) (S2:SS),σ = [some (.ref (ρ .aF)),some (nV x),some (.ref (ρ (.gn x))),u1,u2] ∧ H' (ρ .ret) = some (.lst (as.map .ref)) ∧ Paired (yl H') as S.retired ∧
    dM A ρ S H ρ S2 H' ∧ Bl S S2 ∧ S2 = Vbcnao.sends S (((S.retired.take i).filter fun r=>decide (r.2 ≤ S.now) && !(Vbcnao.knownAt S x).gones.contains r.1).map fun r=>.drop x (Vbcnao.knownAt S x).boot r.1))
   ⟨none,none,S,rfl,p7,hp,.refl W,.refl S,rfl⟩ (fun i σ H' _ ⟨_,_,_,_,e,_⟩=>aM.of e) ?_ ?_⟩
  ·rintro i y σ H' sf ⟨u1,u2,S2,rfl,abk,MV,lq,S6,EM⟩
   obtain ⟨a,ha,rfl⟩:=nE sf
   obtain ⟨r,PK,SG⟩:=lY MV ha
   obtain ⟨bb,ll,eb⟩:=S6
   have S6:Bl S S2:=⟨bb,ll,eb⟩
   have W':Wd A ρ { S with bag:=bb,lost:=ll } H':=by
    rw [← eb]
    exact lq.wd
   obtain ⟨g9,hw'⟩:=W'.aF
   obtain ⟨aqJ,hc'⟩:=W'.cf
   obtain ⟨zq,Wi,dk'⟩:=W'.gn hi
   have YG:(S.retired.take (i + 1)).filter (fun r=>decide (r.2 ≤ S.now) && !(Vbcnao.knownAt S x).gones.contains r.1) = (S.retired.take i).filter (fun r=>decide (r.2 ≤ S.now) && !(Vbcnao.knownAt S x).gones.contains r.1) ++ if (decide (r.2 ≤ S.now) && !(Vbcnao.knownAt S x).gones.contains r.1) = true then [r] else []:=by
    rw [take_snoc PK,List.filter_append,List.filter_cons,List.filter_nil]
   refine ⟨_,_,rfl,j0.of SG,rfl,_,_,rfl,_,_,rfl,rfl,?_⟩
   refine ⟨_,rfl,_,rfl,_,_,_,_,_,rfl,hw',T.aB,T.fz,aa ju rfl rfl,_,_,rfl,rfl,_,rfl,?_⟩
   have ed:decide ((r.2:Int) ≤ (S.now:Int)) = decide (r.2 ≤ S.now):=by simp
   show if decide ((r.2:Int) ≤ (S.now:Int)) = true then _ else _
   rw [ed]
   refine aZ (fun p=>?_) (fun p=>?_)
   ·refine ⟨_,rfl,_,rfl,_,_,rfl,jn.k (k:=Sum.inl (r.1:Int)) Wi,_,rfl,?_⟩
    rw [dk'.isSome,cX,← List.contains_eq_mem]
    refine aZ (fun d=>?_) (fun d=>?_)
    ·rw [p,d] at YG
     have own:ρ .ret ≠ ρ .aF:=fun z=>by cases W.inj .ret .aF trivial trivial z
     have apx:ρ .ret ≠ ρ .bag:=fun z=>by cases W.inj .ret .bag trivial trivial z
     refine ⟨_,rfl,_,_,_,rfl,hw',aL jR,_,rfl,_,rfl,_,_,_,_,_,rfl,hw',T.aB,T.aR,aa bq rfl rfl,_,_,_,_,_,rfl,hc',T.aA,T.bY,aa ee rfl rfl,_,rfl,_,_,_,_,rfl,rfl,aM.of W'.j7,gP pA,_,rfl,?_⟩
     intro x0 Ww V1 LA ne0
     refine ⟨x0,Ww,_,_,_,_,_,_,_,rfl,ae,rfl,?_⟩
     rw [dO]
     obtain ⟨CS,Gp,sm⟩:=made lq.wd V1 LA (.drop x (Vbcnao.knownAt S x).boot r.1) .bL rfl
     refine ⟨ρ,S2,x0,.drop x (Vbcnao.knownAt S x).boot r.1,rfl,CS.wd,Gp,(by rw [eb]; exact PU),fun H2 c7 fr=>?_⟩
     have im:=(CS.trans c7).SE T.gS lq.wd
     refine ⟨_,_,_,rfl,(fr _ own apx).trans (sm _ _ abk),jH MV fun q r' h=>im _ _ trivial h,(lq.trans CS).trans c7,S6.send _,?_⟩
     rw [YG,List.map_append,qF,← EM]
     rfl
    ·have d':(!(Vbcnao.knownAt S x).gones.contains r.1) = false:=by simpa using d
     rw [p,d'] at YG
     refine ⟨_,_,S2,rfl,abk,MV,lq,S6,?_⟩
     rw [YG,EM]
     simp
   ·have p':decide (r.2 ≤ S.now) = false:=by simpa using p
    rw [p',Bool.false_and] at YG
    refine aZ (fun z=>absurd z Bool.false_ne_true) fun _=>⟨_,_,S2,rfl,abk,MV,lq,S6,?_⟩
    rw [YG,EM]
    simp
  ·rintro σ H' ⟨u1,u2,S2,rfl,abk,MV,lq,S6,EM⟩
   rw [List.length_map,cQ MV,List.take_length] at EM
   refine k H' ?_
   unfold Qc
   rw [← EM]
   exact lq
end
end Pt
namespace Pt
open PySem PySem.Spec PyProof.Rows L2
theorem fin {A:bg} {ρ ρ':Role → Addr} {S S':SS} {H H1:Hp} {ps j8:PL} {given:List Int} {f:SS → List Int → SS × List Int} {Q:VK}
  (k:∀ ρ' j8 H' p,kX A ρ S H ps ρ' (f S given).1 H' j8 → (∀ b o,H b = some o → ¬ iU ρ S ps b → b ≠ p) → H' p = some (.lst ((f S given).2.map .int)) → Q (.ref p) H')
  {as:List Int} (e:f S given = (S',as)) (st:kX A ρ S H ps ρ' S' H1 j8):∀ p,H1 p = none → Q (.ref p) (upd H1 p (.lst (as.map V.int))):=fun p hp=>by
 obtain ⟨a1,a2⟩:=st.ans hp (.lst (as.map V.int))
 refine k ρ' j8 _ p ?_ a2 ?_
 ·rw [e]
  exact a1
 ·rw [e]
  exact ae
section
variable {A:bg} {ρ:Role → Addr} {S:SS} {H:Hp}
theorem Wd.GN (ne:oq A) (W:Wd A ρ S H) {as:List Addr} {l:List Vbcnao.Msg} (h:Paired (f9 A H) as l):dM A ρ S H ρ { S with bag:=l } (upd H (ρ .bag) (.lst (as.map .ref))):=by
 refine W.put ne .bag trivial (fun r l=>by cases r <;> exact l) (fun r o' hr l x=>by cases r <;> first | exact absurd rfl hr | exact x) ?_
 have i:=IM W ne (r0:=.bag) trivial (.lst (as.map .ref))
 exact ⟨as,rfl,jH h fun _ _ q=>q.mono i⟩
theorem Wd.aos (ne:oq A) (W:Wd A ρ S H) (dx:Addr) (n:Nat):dM A ρ S H ρ { S with now:=n } (upd H (ρ .aF) (.ins A.aN dx (dD ρ { S with now:=n }))):=by
 refine W.put ne .aF trivial (fun r l=>by cases r <;> exact l) (fun r o' hr l x=>by cases r <;> first | exact absurd rfl hr | exact x) ?_
 exact ⟨dx,rfl⟩
theorem Wd.anG (ne:oq A) (W:Wd A ρ S H) (dx:Addr) (n:Nat):dM A ρ S H ρ { S with book:=n } (upd H (ρ .aF) (.ins A.aN dx (dD ρ { S with book:=n }))):=by
 refine W.put ne .aF trivial (fun r l=>by cases r <;> exact l) (fun r o' hr l x=>by cases r <;> first | exact absurd rfl hr | exact x) ?_
 exact ⟨dx,rfl⟩
end
theorem vo (S:SS) (m:Vbcnao.Msg):(Vbcnao.send S m).packets = S.packets:=by
 unfold Vbcnao.send
 split <;> rfl
theorem La (S:SS):(Vbcnao.settles S).packets = S.packets:=by
 unfold Vbcnao.settles
 dsimp only
 split <;> rfl
theorem Tp (S:SS) (m:Vbcnao.Msg):(Vbcnao.takes S m).packets = S.packets:=by
 cases m with
 | row x b v i t r =>
  show (Vbcnao.onRow S x b v i t r).packets = _
  rw [Lq]
  split
  ·rfl
  ·split
   ·exact vo _ _
   ·rfl
 | flip x b v =>
  show (Vbcnao.onFlip S x b v).packets = _
  unfold Vbcnao.onFlip
  dsimp only
  split
  ·rfl
  ·split
   ·exact vo _ _
   ·split
    ·exact vo _ _
    ·rfl
 | drop x b v =>
  show (Vbcnao.onDrop S x b v).packets = _
  unfold Vbcnao.onDrop
  dsimp only
  split
  ·rfl
  ·exact vo _ _
 | hello x b =>
  show (Vbcnao.onHello S x b).packets = _
  unfold Vbcnao.onHello
  split <;> rfl
 | have_ x b v =>
  show (if _ then _ else _:SS).packets = _
  split
  ·exact La _
  ·rfl
 | flipped x b v =>
  show (if _ then _ else _:SS).packets = _
  split
  ·exact La _
  ·rfl
 | gone x b v =>
  show (if _ then _ else _:SS).packets = _
  split
  ·exact La _
  ·rfl
theorem wG {g:List Int} (h:g.length = 1):∃ z,g = [z]:=by
 match g,h with
 | [z],_=>exact ⟨z,rfl⟩
theorem Y5 {S:SS} {z:Int}:(if 0 ≤ z then S.bag[z.toNat]? else none) = if (decide (0 ≤ z) && decide (z < (S.bag.length:Int))) = true then S.bag[z.toNat]? else none:=by
 by_cases h:0 ≤ z
 ·rw [if_pos h]
  by_cases h2:z < (S.bag.length:Int)
  ·rw [if_pos (by rw [decide_eq_true h,decide_eq_true h2]; rfl)]
  ·rw [if_neg (by rw [decide_eq_false h2]; simp)]
   exact List.getElem?_eq_none (by omega)
 ·rw [if_neg h,if_neg (by rw [decide_eq_false h]; simp)]
section
variable {P:Program} {w:World} {K:W.Frag} {mg:Str → Option Value} {base:Heap} {A:bg}
noncomputable def kO (S:SS) (g:List Int):SS × List Int:=Vbcnao.doing S (.tick (g.getD 0 0))
theorem aly (T:Txt K mg A):aD P w K mg base aC 1 A.kO A.ad4 ["world","given"] (fX A kO fun g=>g.length = 1):=by
 refine T.aeJ.ok afu (fun vs H Q E h=>?_) (fun au R outer s H vs Q E hr h=>?_)
 ·obtain ⟨ρ,S,ps,g,given,c,rfl,_⟩:=h
  rfl
 ·obtain ⟨ρ,S,ps,g,given,c,rfl,cP,G,hc,hg,ng,hz,pre,k⟩:=h
  obtain ⟨z,rfl⟩:=wG pre
  have W:=cP.wd
  obtain ⟨dx,hw⟩:=W.aF
  have ef:kO S [z] = if Vbcnao.within z 1 (2 ^ 62) = false then (S,[-1]) else if (Vbcnao.END:Int) < S.now + z then (S,[-2]) else ({ S with now:=S.now + z.toNat },[0]):=rfl
  have ew:Vbcnao.within z 1 (2 ^ 62) = (decide (1 ≤ z) && decide (z ≤ 4611686018427387904)):=rfl
  rw [ew] at ef
  have eE:(Vbcnao.END:Int) = 4611686018427387904:=by decide
  rw [eE] at ef
  refine ⟨_,(akX T hr).2,?_⟩
  refine ⟨_,rfl,_,_,_,_,rfl,rfl,aM.of hg,at_of (j:=0) rfl rfl,?_⟩
  refine ⟨_,rfl,_,_,rfl,rfl,_,rfl,?_⟩
  refine aZ (fun d=>?_) (fun d=>⟨_,rfl,l7 ?_⟩)
  ·refine ⟨_,_,rfl,rfl,_,rfl,?_⟩
   have d:decide (1 ≤ z) = true:=d
   rw [d,Bool.true_and] at ef
   refine aZ (fun d2=>?_) (fun d2=>?_)
   ·have d2':decide (z ≤ 4611686018427387904) = false:=by simpa using d2
    rw [d2',if_pos rfl] at ef
    exact ⟨_,rfl,lz,fin k ef (.refl cP)⟩
   ·have d2':decide (z ≤ 4611686018427387904) = true:=by simpa using d2
    rw [d2',if_neg (by simp)] at ef
    refine ⟨_,rfl,_,_,_,_,_,rfl,hw,T.aB,T.fz,aa ju rfl rfl,_,rfl,_,_,rfl,rfl,_,_,rfl,rfl,_,rfl,?_⟩
    refine aZ (fun d3=>?_) (fun d3=>?_)
    ·have d3':(4611686018427387904:Int) < (S.now:Int) + z:=of_decide_eq_true d3
     rw [if_pos d3'] at ef
     exact ⟨_,rfl,lz,fin k ef (.refl cP)⟩
    ·have d3':¬ (4611686018427387904:Int) < (S.now:Int) + z:=fun y=>d3 (decide_eq_true y)
     rw [if_neg d3'] at ef
     have hz1:(1:Int) ≤ z:=of_decide_eq_true d
     have en:(S.now:Int) + z = ((S.now + z.toNat:Nat):Int):=by omega
     refine ⟨_,rfl,_,_,_,_,_,rfl,hw,T.aB,T.fz,aa ju rfl rfl,_,rfl,_,_,rfl,rfl,_,_,hw,(mZ rfl (by decide)),?_⟩
     have e:bz "now" (V.int ((S.now:Int) + z)) (dD ρ S) = dD ρ { S with now:=S.now + z.toNat }:=by
      rw [en]
      exact gH ju rfl (by decide)
     have st:=W.aos T.gS dx (S.now + z.toNat)
     rw [← e] at st
     exact ⟨lz,fin k ef (cP.CQ st rfl)⟩
  ·have d':decide (1 ≤ z) = false:=by simpa using d
   rw [d',Bool.false_and,if_pos rfl] at ef
   exact ⟨_,rfl,lz,fin k ef (.refl cP)⟩
noncomputable def kE (A:bg):Sp:=fun vs H Q _=>∃ (ρ:Role → Addr) (S:SS) (z:Int),vs = [.ref (ρ .aF),.int z] ∧ Wd A ρ S H ∧ Q (.bl (decide (0 ≤ z) && decide (z < (S.bag.length:Int)))) H
theorem D5 (T:Txt K mg A):aD P w K mg base aC 1 A.fM A.pT ["world","k"] (kE A):=by
 refine T.uy.ok ack (fun vs H Q E h=>?_) (fun au R outer s H vs Q E hr h=>?_)
 ·obtain ⟨ρ,S,z,rfl,_⟩:=h
  rfl
 ·obtain ⟨ρ,S,z,rfl,W,q⟩:=h
  obtain ⟨dx,hw⟩:=W.aF
  obtain ⟨as,hb,hp⟩:=W.bag
  refine ⟨_,(abz T hr).2,?_⟩
  refine ⟨_,rfl,_,_,rfl,rfl,_,rfl,?_⟩
  refine yg (f:=fun b=>Q (.bl b) H) (fun q=>⟨_,rfl,_,_,_,_,_,rfl,hw,T.aB,T.dF,aa gT rfl rfl,_,_,rfl,.inl (aM.of hb),_,_,rfl,rfl,?_⟩) q
  rw [List.length_map,cQ hp]
  exact q
theorem adB {S:SS} {z:Int} (h:(decide (0 ≤ z) && decide (z < (S.bag.length:Int))) = true):z = ((z.toNat:Nat):Int) ∧ z.toNat < S.bag.length ∧ ∃ m,S.bag[z.toNat]? = some m:=by
 rw [Bool.and_eq_true,decide_eq_true_eq,decide_eq_true_eq] at h
 have h2:z.toNat < S.bag.length:=by omega
 exact ⟨by omega,h2,_,List.getElem?_eq_getElem h2⟩
noncomputable def gz (S:SS) (g:List Int):SS × List Int:=Vbcnao.doing S (.deliver (g.getD 0 0))
theorem ag3 (T:Txt K mg A):aD P w K mg base aC 7 A.gz A.Qs ["world","given"] (fX A gz fun g=>g.length = 1):=by
 refine T.Rq.ok agS (fun vs H Q E h=>?_) (fun au R outer s H vs Q E hr h=>?_)
 ·obtain ⟨ρ,S,ps,g,given,c,rfl,_⟩:=h
  rfl
 ·obtain ⟨ρ,S,ps,g,given,c,rfl,cP,G,hc,hg,ng,hz,pre,k⟩:=h
  obtain ⟨z,rfl⟩:=wG pre
  have W:=cP.wd
  obtain ⟨dx,hw⟩:=W.aF
  obtain ⟨as,hb,hp⟩:=W.bag
  have ef:gz S [z] = match (if 0 ≤ z then S.bag[z.toNat]? else none) with
   | none=>(S,[-1])
   | some m=>(Vbcnao.takes { S with bag:=S.bag.eraseIdx z.toNat } m,[0]):=rfl
  rw [Y5] at ef
  refine ⟨_,(agx T hr (D5 T) (OR T)).2,?_⟩
  refine ⟨_,rfl,_,rfl,_,_,_,_,rfl,rfl,aM.of hg,at_of (j:=0) rfl rfl,ρ,S,z,rfl,W,_,rfl,?_⟩
  refine aZ (fun d=>?_) (fun d=>?_)
  ·have d':(decide (0 ≤ z) && decide (z < (S.bag.length:Int))) = false:=by
    rw [Bool.not_eq_true'] at d
    exact d
   rw [d',if_neg (by simp)] at ef
   exact ⟨_,rfl,lz,fin k ef (.refl cP)⟩
  ·have d':(decide (0 ≤ z) && decide (z < (S.bag.length:Int))) = true:=by
    rw [Bool.not_eq_true',Bool.not_eq_false] at d
    exact d
   obtain ⟨ez,fk,m,hm⟩:=adB d'
   rw [d',if_pos rfl,hm] at ef
   obtain ⟨a,ha,hma⟩:=Jg hp hm
   have tW:=List.getElem?_map (f:=V.ref) (l:=as) (i:=z.toNat)
   rw [ha] at tW
   refine ⟨_,rfl,_,rfl,_,_,_,_,_,rfl,hw,T.aB,T.dF,aa gT rfl rfl,.inl ⟨rfl,_,aM.of hb⟩,_,rfl,_,_,_,_,rfl,rfl,aM.of hg,at_of (j:=0) rfl rfl,_,_,_,_,_,rfl,rfl,hb,(hz z (List.mem_cons_self ..)).1,(hz z (List.mem_cons_self ..)).2,Vn ez (by rw [List.length_map,cQ hp]; exact fk),tW,?_⟩
   rw [← qR]
   have st:=W.GN T.gS (F1 hp z.toNat)
   have G1:=G.GN (l:=S.bag.eraseIdx z.toNat) (List.length_eraseIdx_le ..) fun x hx=>List.mem_of_mem_eraseIdx hx
   refine ⟨ρ,_,a,m,c,rfl,st.wd,G1,hc,hma.mono (st.SE T.gS W),G.bag m (List.mem_of_getElem? hm),fun ρ' H' c7=>?_⟩
   exact ⟨lz,fin k ef (cP.CQ (st.trans c7) (Tp _ _))⟩
noncomputable def kP (S:SS) (g:List Int):SS × List Int:=Vbcnao.doing S (.lose (g.getD 0 0))
theorem alA (T:Txt K mg A):aD P w K mg base aC 2 A.kP A.ad5 ["world","given"] (fX A kP fun g=>g.length = 1):=by
 refine T.aeL.ok ali (fun vs H Q E h=>?_) (fun au R outer s H vs Q E hr h=>?_)
 ·obtain ⟨ρ,S,ps,g,given,c,rfl,_⟩:=h
  rfl
 ·obtain ⟨ρ,S,ps,g,given,c,rfl,cP,G,hc,hg,ng,hz,pre,k⟩:=h
  obtain ⟨z,rfl⟩:=wG pre
  have W:=cP.wd
  obtain ⟨dx,hw⟩:=W.aF
  obtain ⟨as,hb,hp⟩:=W.bag
  have ef:kP S [z] = match (if 0 ≤ z then S.bag[z.toNat]? else none) with
   | none=>(S,[-1])
   | some _=>({ S with bag:=S.bag.eraseIdx z.toNat },[0]):=rfl
  rw [Y5] at ef
  refine ⟨_,(akZ T hr (D5 T)).2,?_⟩
  refine ⟨_,rfl,_,rfl,_,_,_,_,rfl,rfl,aM.of hg,at_of (j:=0) rfl rfl,ρ,S,z,rfl,W,_,rfl,?_⟩
  refine aZ (fun d=>?_) (fun d=>?_)
  ·have d':(decide (0 ≤ z) && decide (z < (S.bag.length:Int))) = false:=by
    rw [Bool.not_eq_true'] at d
    exact d
   rw [d',if_neg (by simp)] at ef
   exact ⟨_,rfl,lz,fin k ef (.refl cP)⟩
  ·have d':(decide (0 ≤ z) && decide (z < (S.bag.length:Int))) = true:=by
    rw [Bool.not_eq_true',Bool.not_eq_false] at d
    exact d
   obtain ⟨ez,fk,m,hm⟩:=adB d'
   rw [d',if_pos rfl,hm] at ef
   obtain ⟨a,ha,hma⟩:=Jg hp hm
   have tW:=List.getElem?_map (f:=V.ref) (l:=as) (i:=z.toNat)
   rw [ha] at tW
   refine ⟨_,rfl,_,_,_,_,_,rfl,hw,T.aB,T.dF,aa gT rfl rfl,.inl ⟨rfl,_,aM.of hb⟩,_,rfl,_,_,_,_,rfl,rfl,aM.of hg,at_of (j:=0) rfl rfl,_,_,_,_,_,rfl,rfl,hb,(hz z (List.mem_cons_self ..)).1,(hz z (List.mem_cons_self ..)).2,Vn ez (by rw [List.length_map,cQ hp]; exact fk),tW,?_⟩
   rw [← qR]
   exact ⟨lz,fin k ef (cP.CQ (W.GN T.gS (F1 hp z.toNat)) rfl)⟩
noncomputable def ig (S:SS) (g:List Int):SS × List Int:=Vbcnao.doing S (.double (g.getD 0 0))
theorem ait (T:Txt K mg A):aD P w K mg base aC 3 A.ig A.Ux ["world","given"] (fX A ig fun g=>g.length = 1):=by
 refine T.U0.ok aif (fun vs H Q E h=>?_) (fun au R outer s H vs Q E hr h=>?_)
 ·obtain ⟨ρ,S,ps,g,given,c,rfl,_⟩:=h
  rfl
 ·obtain ⟨ρ,S,ps,g,given,c,rfl,cP,G,hc,hg,ng,hz,pre,k⟩:=h
  obtain ⟨z,rfl⟩:=wG pre
  have W:=cP.wd
  obtain ⟨dx,hw⟩:=W.aF
  obtain ⟨as,hb,hp⟩:=W.bag
  have ef:ig S [z] = match (if 0 ≤ z then S.bag[z.toNat]? else none) with
   | none=>(S,[-1])
   | some m=>if S.cap ≤ S.bag.length then (S,[-2]) else ({ S with bag:=S.bag ++ [m] },[0]):=rfl
  rw [Y5] at ef
  refine ⟨_,(ah1 T hr (D5 T) (wH T) (lG T)).2,?_⟩
  refine ⟨_,rfl,_,rfl,_,_,_,_,rfl,rfl,aM.of hg,at_of (j:=0) rfl rfl,ρ,S,z,rfl,W,_,rfl,?_⟩
  refine aZ (fun d=>?_) (fun d=>?_)
  ·have d':(decide (0 ≤ z) && decide (z < (S.bag.length:Int))) = false:=by
    rw [Bool.not_eq_true'] at d
    exact d
   rw [d',if_neg (by simp)] at ef
   exact ⟨_,rfl,lz,fin k ef (.refl cP)⟩
  ·have d':(decide (0 ≤ z) && decide (z < (S.bag.length:Int))) = true:=by
    rw [Bool.not_eq_true',Bool.not_eq_false] at d
    exact d
   obtain ⟨ez,fk,m,hm⟩:=adB d'
   rw [d',if_pos rfl,hm] at ef
   dsimp only at ef
   obtain ⟨a,ha,hma⟩:=Jg hp hm
   have tW:=List.getElem?_map (f:=V.ref) (l:=as) (i:=z.toNat)
   rw [ha] at tW
   refine ⟨_,rfl,_,_,_,rfl,hw,aL wK,ρ,S,rfl,W,_,rfl,?_⟩
   refine aZ (fun f=>?_) (fun f=>?_)
   ·have f':(S.cap:Int) ≤ (S.bag.length:Int):=of_decide_eq_true f
    rw [if_pos (by omega)] at ef
    exact ⟨_,rfl,lz,fin k ef (.refl cP)⟩
   ·have f':¬ (S.cap:Int) ≤ (S.bag.length:Int):=fun y=>f (decide_eq_true y)
    rw [if_neg (by omega)] at ef
    have es:Vbcnao.send S m = { S with bag:=S.bag ++ [m] }:=by
     unfold Vbcnao.send
     rw [if_pos (by omega)]
    rw [← es] at ef
    refine ⟨_,rfl,_,_,_,rfl,hw,aL jR,_,rfl,_,_,_,_,_,rfl,hw,T.aB,T.dF,aa gT rfl rfl,_,rfl,_,_,_,_,rfl,rfl,aM.of hg,at_of (j:=0) rfl rfl,_,_,_,_,rfl,rfl,aM.of hb,at_of (j:=z.toNat) ez tW,ρ,S,a,m,rfl,W,hma,G.cap,fun H' st _=>?_⟩
    exact ⟨lz,fin k ef (cP.CQ st (vo _ _))⟩
noncomputable def o9 (A:bg):Sp:=fun vs H Q _=>∃ (ρ:Role → Addr) (S:SS) (x:Nat),vs = [.ref (ρ .aF),nV x] ∧ Wd A ρ S H ∧ S.cap ≤ 4096 ∧ x < S.switches.length ∧
 ∀ H',dM A ρ S H ρ (Vbcnao.send S (.hello x (Vbcnao.switchAt S x).boot)) H' → Q .bL H'
theorem MI (T:Txt K mg A):aD P w K mg base aC 3 A.fC A.rC ["world","x"] (o9 A):=by
 refine T.yn.ok aaG (fun vs H Q E h=>?_) (fun au R outer s H vs Q E hr h=>?_)
 ·obtain ⟨ρ,S,x,rfl,_⟩:=h
  rfl
 ·obtain ⟨ρ,S,x,rfl,W,PU,hx,k⟩:=h
  obtain ⟨dx,hw⟩:=W.aF
  obtain ⟨vP,hs⟩:=W.sw (gQ hx)
  refine ⟨_,(aai T hr (lG T) (lK T)).2,?_⟩
  refine ⟨_,rfl,_,_,_,rfl,hw,aL jR,_,rfl,_,rfl,_,_,_,_,_,rfl,hw,T.aB,T.cN,aa fP rfl rfl,_,rfl,_,_,_,_,rfl,rfl,aM.of W.iC,gP (jG hx),_,_,_,_,_,rfl,hs,T.cB,T.gI,aa xg rfl rfl,?_⟩
  intro x0 Ww V1 LA ne0
  refine ⟨x0,Ww,_,_,_,_,_,_,_,rfl,ae,rfl,?_⟩
  rw [dO]
  obtain ⟨CS,Gp,sm⟩:=made W V1 LA (.hello x (Vbcnao.switchAt S x).boot) .bL rfl
  exact ⟨ρ,S,x0,.hello x (Vbcnao.switchAt S x).boot,rfl,CS.wd,Gp,PU,fun H' c7 _=>k H' (CS.trans c7)⟩
noncomputable def jk (S:SS) (g:List Int):SS × List Int:=Vbcnao.doing S (.hello (g.getD 0 0))
theorem ajN (T:Txt K mg A):aD P w K mg base aC 4 A.jk A.YI ["world","given"] (fX A jk fun g=>g.length = 1):=by
 refine T.Zm.ok ajw (fun vs H Q E h=>?_) (fun au R outer s H vs Q E hr h=>?_)
 ·obtain ⟨ρ,S,ps,g,given,c,rfl,_⟩:=h
  rfl
 ·obtain ⟨ρ,S,ps,g,given,c,rfl,cP,G,hc,hg,ng,hz,pre,k⟩:=h
  obtain ⟨z,rfl⟩:=wG pre
  have W:=cP.wd
  obtain ⟨dx,hw⟩:=W.aF
  have ef:jk S [z] = if Vbcnao.isSwitch S z = false then (S,[-1]) else (Vbcnao.send S (.hello z.toNat (Vbcnao.switchAt S z.toNat).boot),[0]):=rfl
  refine ⟨_,(aje T hr (fT T) (MI T)).2,?_⟩
  refine ⟨_,rfl,_,_,_,rfl,hw,aL fU,_,rfl,_,_,_,_,rfl,rfl,aM.of hg,at_of (j:=0) rfl rfl,ρ,S,z,rfl,W,_,rfl,?_⟩
  refine aZ (fun d=>?_) (fun d=>?_)
  ·rw [Bool.not_eq_true'] at d
   rw [if_pos d] at ef
   exact ⟨_,rfl,lz,fin k ef (.refl cP)⟩
  ·rw [Bool.not_eq_true'] at d
   rw [if_neg d] at ef
   obtain ⟨hx,ez⟩:=B7 d
   refine ⟨_,rfl,_,rfl,_,_,_,_,rfl,rfl,aM.of hg,at_of (j:=0) rfl rfl,ρ,S,z.toNat,?_,W,G.cap,hx,fun H' st=>?_⟩
   ·unfold nV
    rw [ez]
    rfl
   ·exact ⟨lz,fin k ef (cP.CQ st (vo _ _))⟩
noncomputable def gx (S:SS) (g:List Int):SS × List Int:=Vbcnao.doing S (.restart (g.getD 0 0))
theorem ag1 (T:Txt K mg A):aD P w K mg base aC 4 A.gx A.Qp ["world","given"] (fX A gx fun g=>g.length = 1):=by
 refine T.Ro.ok Vo (fun vs H Q E h=>?_) (fun au R outer s H vs Q E hr h=>?_)
 ·obtain ⟨ρ,S,ps,g,given,c,rfl,_⟩:=h
  rfl
 ·obtain ⟨ρ,S,ps,g,given,c,rfl,cP,G,hc,hg,ng,hz,pre,k⟩:=h
  obtain ⟨z,rfl⟩:=wG pre
  have W:=cP.wd
  obtain ⟨dx,hw⟩:=W.aF
  have ef:gx S [z] = if Vbcnao.isSwitch S z = false then (S,[-1]) else (Vbcnao.send (Vbcnao.onSwitch { S with book:=S.book + 1 } z.toNat fun _=>⟨S.book + 1,0,0,[]⟩) (.hello z.toNat (S.book + 1)),[((S.book + 1:Nat):Int)]):=rfl
  refine ⟨_,(agv T hr (fT T) (Jt T) (MI T)).2,?_⟩
  refine ⟨_,rfl,_,_,_,_,rfl,rfl,aM.of hg,at_of (j:=0) rfl rfl,?_⟩
  refine ⟨_,rfl,_,_,_,rfl,hw,aL fU,_,rfl,ρ,S,z,rfl,W,_,rfl,?_⟩
  refine aZ (fun d=>?_) (fun d=>?_)
  ·rw [Bool.not_eq_true'] at d
   rw [if_pos d] at ef
   exact ⟨_,rfl,lz,fin k ef (.refl cP)⟩
  ·rw [Bool.not_eq_true'] at d
   rw [if_neg d] at ef
   obtain ⟨hx,ez⟩:=B7 d
   refine ⟨_,rfl,_,_,_,_,_,rfl,hw,T.aB,T.iS,aa uz rfl rfl,_,_,rfl,rfl,_,_,hw,(mZ rfl (by decide)),?_⟩
   have e:bz "book" (V.int ((S.book:Int) + 1)) (dD ρ S) = dD ρ { S with book:=S.book + 1 }:=gH uz rfl (by decide)
   have sd:=W.anG T.gS dx (S.book + 1)
   rw [← e] at sd
   have W1:=sd.wd
   obtain ⟨dx1,Gk⟩:=W1.aF
   have SK:({ S with book:=S.book + 1 }:SS).switches[z.toNat]? = some (Vbcnao.switchAt S z.toNat):=gQ hx
   refine ⟨_,rfl,_,_,_,_,_,rfl,Gk,T.aB,T.iS,aa uz rfl rfl,fun px sj qh wN nep=>⟨px,sj,_,rfl,ae,fun pd H2 npd h1 h2 h3=>⟨rfl,?_⟩⟩⟩
   have ada:upd H (ρ .aF) (.ins A.aN dx (bz "book" (V.int ((S.book:Int) + 1)) (dD ρ S))) pd = none:=by
    by_cases z1:pd = px
    ·rw [z1]
     exact qh
    ·by_cases z2:pd = sj
     ·rw [z2]
      exact wN
     ·rw [ak z1,ak z2] at npd
      exact npd
   have s2:aH (upd H (ρ .aF) (.ins A.aN dx (bz "book" (V.int ((S.book:Int) + 1)) (dD ρ S)))) H2:=fun q o eo=>by
    rw [h3 q (ay eo qh) (ay eo ada),ak (ay eo qh),ak (ay eo wN)]
    exact eo
   obtain ⟨ρ',rn,c7⟩:=W1.aou T.gS SK s2 qh ada h1 h2
   refine ⟨_,rfl,_,_,_,_,_,rfl,s2 _ _ Gk,T.aB,T.cN,aa fP rfl rfl,_,rfl,_,_,_,z.toNat,rfl,rfl,s2 _ _ W1.iC,?_,?_⟩
   ·rw [gf,← ez]
    exact Yx hx
   have st:=sd.trans c7
   have W2:=c7.wd
   have w0:ρ' .aF = ρ .aF:=c7.w0
   have hx2:z.toNat < (Vbcnao.onSwitch { S with book:=S.book + 1 } z.toNat fun _=>⟨S.book + 1,0,0,[]⟩).switches.length:=by
    show z.toNat < (Vbcnao.changeAt S.switches z.toNat _).length
    rw [iR]
    exact hx
   have hsa:Vbcnao.switchAt (Vbcnao.onSwitch { S with book:=S.book + 1 } z.toNat fun _=>⟨S.book + 1,0,0,[]⟩) z.toNat = ⟨S.book + 1,0,0,[]⟩:=by
    have a1:=gQ hx2
    rw [zg SK] at a1
    exact (Option.some.inj a1).symm
   refine ⟨_,rfl,_,rfl,ρ',_,z.toNat,?_,W2,G.cap,hx2,fun H3 m5=>?_⟩
   ·unfold nV
    rw [ez,w0]
    rfl
   ·rw [hsa] at m5
    have W3:=m5.wd
    obtain ⟨dx3,hw3⟩:=W3.aF
    rw [w0] at hw3
    have hbk:(Vbcnao.send (Vbcnao.onSwitch { S with book:=S.book + 1 } z.toNat fun _=>⟨S.book + 1,0,0,[]⟩) (.hello z.toNat (S.book + 1))).book = S.book + 1:=by
     unfold Vbcnao.send
     split <;> rfl
    refine ⟨_,rfl,_,_,_,_,_,rfl,hw3,T.aB,T.iS,aa uz rfl rfl,lz,?_⟩
    rw [hbk]
    exact fin k ef (cP.CQ (st.trans m5) (vo _ _))
end
end Pt
namespace Pt
open PySem PySem.Spec PyProof.Rows L2
theorem aiP {S:SS} (h:S.bag = []) (k:Nat):Vbcnao.flows S k = (S,0):=by
 cases k with
 | zero=>rfl
 | succ k =>
  unfold Vbcnao.flows
  rw [h]
theorem ahH {S:SS} {m:Vbcnao.Msg} {l:List Vbcnao.Msg} (h:S.bag = m :: l) (k:Nat):Vbcnao.flows S (k + 1) = ((Vbcnao.flows (Vbcnao.takes { S with bag:=l } m) k).1,(Vbcnao.flows (Vbcnao.takes { S with bag:=l } m) k).2 + 1):=by
 conv=>lhs; unfold Vbcnao.flows
 rw [h]
section
variable {P:Program} {w:World} {K:W.Frag} {mg:Str → Option Value} {base:Heap} {A:bg}
noncomputable def kN (S:SS) (_:List Int):SS × List Int:=Vbcnao.doing S .work
theorem ai9 (ms:List Vbcnao.Msg):∀ S:SS,(Vbcnao.sends S ms).packets = S.packets:=by
 induction ms with
 | nil=>exact fun _=>rfl
 | cons m ms ih=>exact fun S=>(ih (Vbcnao.send S m)).trans (vo S m)
theorem alx (T:Txt K mg A):aD P w K mg base aC 5 A.kN A.ad3 ["world","given"] (fX A kN fun _=>True):=by
 refine T.aeI.ok aft (fun vs H Q E h=>?_) (fun au R outer s H vs Q E hr h=>?_)
 ·obtain ⟨ρ,S,ps,g,given,c,rfl,_⟩:=h
  rfl
 ·obtain ⟨ρ,S,ps,g,given,c,rfl,cP,G,hc,hg,ng,hz,pre,k⟩:=h
  have W:=cP.wd
  obtain ⟨dx,hw⟩:=W.aF
  obtain ⟨qu,vO⟩:=W.cf
  have aqx:=G.n16
  have ef:kN S given = (Vbcnao.sends S ((List.range S.switches.length).flatMap fun x=>Vbcnao.workTo S x),[0]):=rfl
  refine ⟨_,(akW T hr (wI T) (VJ T) (acL T) (aaL T)).2,?_⟩
  refine ⟨_,rfl,_,_,_,_,_,rfl,hw,T.aB,T.aR,aa bq rfl rfl,_,_,_,rfl,vO,aL wL,ρ,S,rfl,W,?_⟩
  refine ⟨_,rfl,_,_,_,_,_,rfl,hw,T.aB,T.cN,aa fP rfl rfl,_,_,rfl,.inl (aM.of W.iC),_,rfl,?_,?_,aiO (lo:=0) (fun i σ H'=>∃ (u:Option V) (S2:SS),σ = [some (.ref (ρ .aF)),some (.ref g),some (nV (Vbcnao.target S)),u] ∧ dM A ρ S H ρ S2 H' ∧ Bl S S2 ∧ i ≤ S.switches.length ∧ S2 = Vbcnao.sends S ((List.range i).flatMap fun x=>Vbcnao.workTo S x))
   ⟨none,S,rfl,.refl W,.refl S,Nat.zero_le _,rfl⟩ ?_ ?_⟩
  ·rw [gf]
   omega
  ·rw [gf]
   omega
  ·rintro i σ H' hi ⟨u,S2,rfl,st,bl,akf,es⟩
   rw [gf] at hi
   have sf:i < S.switches.length:=by omega
   have hik:i < S.known.length:=by rw [G.n]; exact sf
   have e0:(0:Int) + (i:Int) = (i:Int):=by omega
   have gm:∀ m ∈ (List.range i).flatMap fun x=>Vbcnao.workTo S x,lj S.switches.length S.policies.length m:=fun m hm=>by
    obtain ⟨x,hx,hm⟩:=List.mem_flatMap.mp hm
    exact G.workTo (by have:=List.mem_range.mp hx; omega) m hm
   have G2:Good c S2:=by
    rw [es]
    exact G.sends gm
   obtain ⟨b2,l2,e2⟩:=bl
   have n2:Ga S2 i = Ga S i:=by rw [e2]; rfl
   have r2:∀ v,Vbcnao.rowsTo S2 i (Vbcnao.knownAt S2 i).boot v = Vbcnao.rowsTo S i (Vbcnao.knownAt S i).boot v:=fun v=>by rw [e2]; rfl
   have bl2:Bl S S2:=⟨b2,l2,e2⟩
   rw [e0]
   refine ⟨_,rfl,_,rfl,ρ,S2,i,c,rfl,st.wd,G2,(by rw [e2]; exact hik),fun H3 m5=>?_⟩
   have bl3:=bl2.sends ((Ga S2 i).flatMap fun v=>Vbcnao.rowsTo S2 i (Vbcnao.knownAt S2 i).boot v)
   generalize e3:Vbcnao.sends S2 ((Ga S2 i).flatMap fun v=>Vbcnao.rowsTo S2 i (Vbcnao.knownAt S2 i).boot v) = S3 at *
   obtain ⟨b3,l3,x3⟩:=bl3
   have bl3:Bl S S3:=⟨b3,l3,x3⟩
   have t3:Vbcnao.target S3 = Vbcnao.target S:=by rw [x3]; rfl
   have f3:EJ S3 i = EJ S i:=by rw [x3]; rfl
   refine ⟨_,rfl,_,rfl,_,rfl,ρ,S3,i,(by rw [t3]; rfl),m5.wd,(by rw [x3]; exact G.cap),(by rw [x3]; exact hik),fun H4 st4=>?_⟩
   have bl4:=bl3.sends (EJ S3 i)
   generalize e4:Vbcnao.sends S3 (EJ S3 i) = S4 at *
   obtain ⟨b4,l4,x4⟩:=bl4
   have bl4:Bl S S4:=⟨b4,l4,x4⟩
   have d4:Qc S4 i = Qc S i:=by rw [x4]; rfl
   refine ⟨_,rfl,_,rfl,ρ,S4,i,rfl,st4.wd,(by rw [x4]; exact G.cap),(by rw [x4]; exact hik),fun H5 Zs=>?_⟩
   refine ⟨_,_,rfl,((st.trans m5).trans st4).trans Zs,bl4.sends _,by omega,?_⟩
   rw [d4,← e4,f3,← e3,n2]
   have r2':(fun v=>Vbcnao.rowsTo S2 i (Vbcnao.knownAt S2 i).boot v) = fun v=>Vbcnao.rowsTo S i (Vbcnao.knownAt S i).boot v:=funext r2
   rw [r2',es,List.range_succ,List.flatMap_append,qF,List.flatMap_cons,List.flatMap_nil,List.append_nil,ahT,qF,qF]
  ·rintro σ H' ⟨u,S2,rfl,st,bl,akf,es⟩
   have en:((((refs ρ .sw S.switches.length).length:Nat):Int)).toNat = S.switches.length:=by rw [gf]; omega
   rw [en] at es
   rw [← es] at ef
   exact ⟨lz,fin k ef (cP.CQ st (by rw [es]; exact ai9 _ _))⟩
noncomputable def jZ (S:SS) (g:List Int):SS × List Int:=Vbcnao.doing S (.flow (g.getD 0 0))
theorem alB (T:Txt K mg A):aD P w K mg base aC 7 A.jZ A.ad6 ["world","given"] (fX A jZ fun g=>g.length = 1):=by
 refine T.aeM.ok afv (fun vs H Q E h=>?_) (fun au R outer s H vs Q E hr h=>?_)
 ·obtain ⟨ρ,S,ps,g,given,c,rfl,_⟩:=h
  rfl
 ·obtain ⟨ρ,S,ps,g,given,c,rfl,cP,G,hc,hg,ng,hz,pre,k⟩:=h
  obtain ⟨z,rfl⟩:=wG pre
  have ef:jZ S [z] = if (decide (0 ≤ z) && decide (z ≤ 5000)) = false then (S,[-1]) else ((Vbcnao.flows S z.toNat).1,[0,((Vbcnao.flows S z.toNat).2:Int)]):=rfl
  refine ⟨_,(ak0 T hr (OR T)).2,?_⟩
  refine ⟨_,rfl,_,_,_,_,rfl,rfl,aM.of hg,at_of (j:=0) rfl rfl,_,_,rfl,rfl,_,rfl,?_⟩
  refine aZ (fun d=>?_) (fun d=>⟨_,rfl,l7 ?_⟩)
  ·have d:decide (0 ≤ z) = true:=d
   rw [d,Bool.true_and] at ef
   refine ⟨_,_,rfl,rfl,_,rfl,?_⟩
   refine aZ (fun d2=>?_) (fun d2=>?_)
   ·have d2':decide (z ≤ 5000) = false:=by simpa using d2
    rw [d2',if_pos rfl] at ef
    exact ⟨_,rfl,lz,fin k ef (.refl cP)⟩
   ·have d2':decide (z ≤ 5000) = true:=by simpa using d2
    rw [d2',if_neg (by simp)] at ef
    have hz0:0 ≤ z:=of_decide_eq_true d
    refine ⟨fun m σ H'=>∃ (dn:Nat) (ρ':Role → Addr) (S2:SS),σ = [some (.ref (ρ .aF)),some (.ref g),some (nV dn)] ∧ m + dn = z.toNat ∧ kX A ρ S H ps ρ' S2 H' ps ∧ Good c S2 ∧ S2.packets = S.packets ∧
      Vbcnao.flows S z.toNat = ((Vbcnao.flows S2 m).1,(Vbcnao.flows S2 m).2 + dn),⟨z.toNat,0,ρ,S,rfl,by omega,.refl cP,G,rfl,rfl⟩,?_⟩
    rintro m σ H' ⟨dn,ρ',S2,rfl,hm,st,G2,ep,efl⟩
    have hg':=st.keep _ _ hg ng
    have W2:=st.wh.wd
    have w0:ρ' .aF = ρ .aF:=st.w0
    obtain ⟨dx2,hw2⟩:=W2.aF
    rw [w0] at hw2
    obtain ⟨as,hb,hp⟩:=W2.bag
    have last:Vbcnao.flows S2 m = (S2,0) → ∀ p,H' p = none → Q (.ref p) (upd H' p (.lst [.int 0,nV dn])):=fun e=>by
     rw [e] at efl
     have ef2:jZ S [z] = (S2,[0,(dn:Int)]):=by rw [ef,efl]; simp
     exact fin k ef2 st
    refine ⟨_,rfl,_,rfl,_,_,_,_,rfl,rfl,aM.of hg',at_of (j:=0) rfl rfl,_,_,rfl,rfl,_,rfl,?_⟩
    refine aZ (fun f=>?_) (fun f=>?_)
    ·have f':(dn:Int) < z:=of_decide_eq_true f
     refine ⟨_,rfl,_,_,_,_,_,rfl,hw2,T.aB,T.dF,aa gT rfl rfl,_,_,rfl,.inl (aM.of hb),_,_,rfl,rfl,_,rfl,?_⟩
     rw [List.length_map,cQ hp]
     refine aZ (fun q=>?_) (fun q=>?_)
     ·have q':(0:Int) < (S2.bag.length:Int):=of_decide_eq_true q
      obtain ⟨msg,l,ako⟩:∃ msg l,S2.bag = msg :: l:=by
       cases e:S2.bag with
       | nil =>
        rw [e] at q'
        simp at q'
       | cons msg l=>exact ⟨msg,l,rfl⟩
      obtain ⟨m',rfl⟩:∃ m',m = m' + 1:=⟨m - 1,by omega⟩
      have EE:S2.bag[0]? = some msg:=by rw [ako]; rfl
      obtain ⟨a,ha,hma⟩:=Jg hp EE
      have tW:=List.getElem?_map (f:=V.ref) (l:=as) (i:=0)
      rw [ha] at tW
      refine ⟨fun σ2 H2=>∃ (dn:Nat) (ρ':Role → Addr) (S2:SS),σ2 = [some (.ref (ρ .aF)),some (.ref g),some (nV dn)] ∧ m' + dn = z.toNat ∧ kX A ρ S H ps ρ' S2 H2 ps ∧ Good c S2 ∧ S2.packets = S.packets ∧
       Vbcnao.flows S z.toNat = ((Vbcnao.flows S2 m').1,(Vbcnao.flows S2 m').2 + dn),fun σ2 H2 h2=>⟨m',Nat.lt_succ_self _,h2⟩,?_⟩
      refine ⟨_,rfl,_,rfl,_,_,_,_,_,rfl,hw2,T.aB,T.dF,aa gT rfl rfl,.inl ⟨rfl,_,aM.of hb⟩,_,_,_,_,_,rfl,rfl,hb,(by decide),(by decide),Vn (j:=0) rfl (by rw [List.length_map,cQ hp]; omega),tW,?_⟩
      rw [← qR]
      have sd:=W2.GN T.gS (F1 hp 0)
      have G1:=G2.GN (l:=S2.bag.eraseIdx 0) (List.length_eraseIdx_le ..) fun x hx=>List.mem_of_mem_eraseIdx hx
      have eer:S2.bag.eraseIdx 0 = l:=by rw [ako]; rfl
      refine ⟨ρ',_,a,msg,c,(by rw [w0]; rfl),sd.wd,G1,hc,hma.mono (sd.SE T.gS W2),G2.bag msg (List.mem_of_getElem? EE),fun ρ3 H3 m5=>?_⟩
      refine ⟨_,rfl,_,_,rfl,rfl,dn + 1,ρ3,_,rfl,by omega,st.trans (st.wh.CQ (sd.trans m5) (Tp _ _)),?_,(Tp _ _).trans ep,?_⟩
      ·exact G1.takes (G2.bag msg (List.mem_of_getElem? EE))
      ·rw [efl,ahH ako m',eer]
       simp
       omega
     ·have q':¬ (0:Int) < (S2.bag.length:Int):=fun y=>q (decide_eq_true y)
      have eb:S2.bag = []:=List.length_eq_zero_iff.mp (by omega)
      exact ⟨_,rfl,lz,last (aiP eb m)⟩
    ·have f':¬ (dn:Int) < z:=fun y=>f (decide_eq_true y)
     have em:m = 0:=by omega
     subst em
     exact aZ (fun y=>absurd y Bool.false_ne_true) fun _=>⟨_,rfl,lz,last rfl⟩
  ·have d':decide (0 ≤ z) = false:=by simpa using d
   rw [d',Bool.false_and,if_pos rfl] at ef
   exact ⟨_,rfl,lz,fin k ef (.refl cP)⟩
end
end Pt
namespace Pt
open PySem PySem.Spec PyProof.Rows L2
noncomputable abbrev Rm:=Int × Int × Int × Int
noncomputable def kY:List Int → List Rm
 | x :: lo :: hi :: b :: l=>(x,lo,hi,b) :: kY l
 | _=>[]
noncomputable def wz (q:Rm):List V:=[.int q.1,.int q.2.1,.int q.2.2.1,.int q.2.2.2]
noncomputable def KI (H:Hp) (a:Addr) (q:Rm):Prop:=H a = some (.tup (wz q))
noncomputable def vG (S:SS) (q:Rm):Bool:=(q.1 == -1 || Vbcnao.isSwitch S q.1) && (Vbcnao.within q.2.1 0 65535 && (Vbcnao.within q.2.2.1 0 65535 && (decide (q.2.1 ≤ q.2.2.1) && Vbcnao.within q.2.2.2 0 1)))
noncomputable def AY (q:Rm):Vbcnao.Rule:=⟨if q.1 < 0 then none else some q.1.toNat,q.2.1.toNat,q.2.2.1.toNat,q.2.2.2 == 1⟩
theorem BD (S:SS):∀ (n:Nat) (zs:List Int),zs.length = 4 * n → Vbcnao.rulesOf S zs = if (kY zs).all (vG S) = true then some ((kY zs).map AY) else none
 | 0,[],_=>rfl
 | 0,_ :: _,h=>by simp at h
 | n + 1,x :: lo :: hi :: b :: l,h=>by
  have hl:l.length = 4 * n:=by simp at h; omega
  have ih:=BD S n l hl
  show (if vG S (x,lo,hi,b) = false then none else (Vbcnao.rulesOf S l).map fun r=>AY (x,lo,hi,b) :: r) = _
  rw [ih]
  show _ = if ((x,lo,hi,b) :: kY l).all (vG S) = true then some (((x,lo,hi,b) :: kY l).map AY) else none
  rw [List.all_cons]
  by_cases c:vG S (x,lo,hi,b) = true
  ·rw [if_neg (by show ¬ vG S (x,lo,hi,b) = false; rw [c]; simp),c,Bool.true_and]
   by_cases d:(kY l).all (vG S) = true
   ·rw [if_pos d,if_pos d]
    rfl
   ·rw [if_neg d,if_neg d]
    rfl
  ·have c':vG S (x,lo,hi,b) = false:=by simpa using c
   rw [if_pos (show vG S (x,lo,hi,b) = false from c'),c',Bool.false_and,if_neg (by simp)]
 | n + 1,[],h=>by simp at h
 | n + 1,[_],h=>by simp at h; omega
 | n + 1,[_,_],h=>by simp at h; omega
 | n + 1,[_,_,_],h=>by simp at h; omega
theorem aeV (S:SS) {zs:List Int} (h:zs.length % 4 ≠ 0):Vbcnao.rulesOf S zs = none:=by
 cases e:Vbcnao.rulesOf S zs with
 | none=>rfl
 | some r =>
  have:=Ak zs r e
  omega
theorem Oh:∀ (n:Nat) (zs:List Int),zs.length = 4 * n → (kY zs).length = n
 | 0,[],_=>rfl
 | 0,_ :: _,h=>by simp at h
 | n + 1,x :: lo :: hi :: b :: l,h=>congrArg (· + 1) (Oh n l (by simp at h; omega))
 | n + 1,[],h=>by simp at h
 | n + 1,[_],h=>by simp at h; omega
 | n + 1,[_,_],h=>by simp at h; omega
 | n + 1,[_,_,_],h=>by simp at h; omega
theorem Zv:∀ (n:Nat) (zs:List Int) (i:Nat),zs.length = 4 * n → i < n → ∃ q,(kY zs)[i]? = some q ∧ ((zs.map V.int).drop (4 * i)).take 4 = wz q
 | 0,_,_,_,h=>absurd h (Nat.not_lt_zero _)
 | n + 1,x :: lo :: hi :: b :: l,0,h,_=>⟨(x,lo,hi,b),rfl,rfl⟩
 | n + 1,x :: lo :: hi :: b :: l,i + 1,h,sf=>by
  obtain ⟨q,h1,h2⟩:=Zv n l i (by simp at h; omega) (by omega)
  refine ⟨q,by simpa [kY] using h1,?_⟩
  have e:4 * (i + 1) = 4 * i + 4:=by omega
  rw [e]
  exact h2
 | n + 1,[],_,h,_=>by simp at h
 | n + 1,[_],_,h,_=>by simp at h; omega
 | n + 1,[_,_],_,h,_=>by simp at h; omega
 | n + 1,[_,_,_],_,h,_=>by simp at h; omega
theorem ail {S:SS} {q:Rm} (h:vG S q = true):wz q = abi (AY q):=by
 obtain ⟨x,lo,hi,b⟩:=q
 unfold vG at h
 simp only [Bool.and_eq_true,Bool.or_eq_true,beq_iff_eq,Vbcnao.within,decide_eq_true_eq] at h
 obtain ⟨h1,⟨h2,_⟩,⟨h3,_⟩,_,h4,h5⟩:=h
 unfold wz abi AY nV
 dsimp only
 have e1:Vbcnao.optShown (if x < 0 then none else some x.toNat) = x:=by
  rcases h1 with e | e
  ·subst e
   rfl
  ·have:=B7 (x:=x) (S:=S) (by rw [e]; simp)
   rw [if_neg (by omega)]
   exact this.2
 have e2:((lo.toNat:Nat):Int) = lo:=by omega
 have e3:((hi.toNat:Nat):Int) = hi:=by omega
 have e4:(((b == 1):Bool).toNat:Int) = b:=by
  rcases (show b = 0 ∨ b = 1 by omega) with e | e
  ·subst e
   rfl
  ·subst e
   rfl
 rw [e1,e2,e3,e4]
section
variable {P:Program} {w:World} {K:W.Frag} {mg:Str → Option Value} {base:Heap} {A:bg}
noncomputable def uF (A:bg):Sp:=fun vs H Q _=>∃ (ρ:Role → Addr) (S:SS) (a:Addr) (q:Rm),vs = [.ref (ρ .aF),.ref a] ∧ Wd A ρ S H ∧ KI H a q ∧ Q (.bl (vG S q)) H
theorem TU (T:Txt K mg A):aD P w K mg base aC 2 A.ej A.qw ["world","rule"] (uF A):=by
 refine T.yo.ok Tw (fun vs H Q E h=>?_) (fun au R outer s H vs Q E hr h=>?_)
 ·obtain ⟨ρ,S,a,q,rfl,_⟩:=h
  rfl
 ·obtain ⟨ρ,S,a,⟨x,lo,hi,b⟩,rfl,W,ha,k⟩:=h
  obtain ⟨dx,hw⟩:=W.aF
  refine ⟨_,(DN T hr (fT T) (OQ T)).2,?_⟩
  unfold vG at k
  dsimp only at k
  have en:decide (V.int x = V.int (-1)) = (x == -1):=YH
  dsimp only [DN]
  refine rS (t1:=K5 _ _ _) (fun σ' H'=>σ' = [some (.ref (ρ .aF)),some (.ref a)] ∧ H' = H ∧ (x == -1 || Vbcnao.isSwitch S x) = true) ?_ ?_
  ·rintro σ' H' ⟨rfl,rfl,c⟩
   rw [c,Bool.true_and] at k
   exact ⟨_,rfl,_,_,_,_,rfl,rfl,j0.of ha,at_of (j:=1) rfl rfl,lo,rfl,_,rfl,
    yg (f:=fun b=>Q (.bl b) _) (fun k=>⟨_,rfl,_,_,_,_,rfl,rfl,j0.of ha,at_of (j:=2) rfl rfl,hi,rfl,_,rfl,
     yg (f:=fun b=>Q (.bl b) _) (fun k=>⟨_,rfl,_,_,_,_,rfl,rfl,j0.of ha,at_of (j:=1) rfl rfl,_,rfl,_,_,_,_,rfl,rfl,j0.of ha,at_of (j:=2) rfl rfl,_,_,rfl,rfl,_,rfl,
      yg (f:=fun b=>Q (.bl b) _) (fun k=>⟨_,rfl,_,_,_,_,rfl,rfl,j0.of ha,at_of (j:=3) rfl rfl,_,_,rfl,rfl,_,rfl,
       yg (f:=fun b=>Q (.bl b) _) (fun k=>⟨_,_,rfl,rfl,k⟩) k⟩) k⟩) k⟩) k⟩
  intro tail
  refine ⟨_,rfl,_,_,_,_,rfl,rfl,j0.of ha,at_of (j:=0) rfl rfl,rfl,_,rfl,?_⟩
  show if (!decide (V.int x = V.int (-1))) = true then _ else _
  rw [en]
  refine aZ (fun c=>?_) (fun c=>?_)
  ·have c':(x == -1) = false:=by rw [Bool.not_eq_true'] at c; exact c
   refine ⟨_,rfl,_,_,_,rfl,hw,aL fU,_,rfl,_,_,_,_,rfl,rfl,j0.of ha,at_of (j:=0) rfl rfl,ρ,S,x,rfl,W,_,rfl,?_⟩
   refine aZ (fun d=>?_) (fun d=>?_)
   ·rw [Bool.not_eq_true'] at d
    rw [c',d,Bool.false_or,Bool.false_and] at k
    exact k
   ·exact tail _ _ ⟨rfl,rfl,by rw [c',Bool.false_or]; simpa using d⟩
  ·have c':(x == -1) = true:=by rw [Bool.not_eq_true',Bool.not_eq_false] at c; exact c
   exact aZ (fun y=>absurd y Bool.false_ne_true) fun _=>tail _ _ ⟨rfl,rfl,by rw [c',Bool.true_or]⟩
noncomputable def lJ:Sp:=fun vs H Q _=>∃ (p:Addr) (zs:List Int) (n:Nat),vs = [.ref p] ∧ H p = some (.lst (zs.map .int)) ∧ zs.length = 4 * n ∧ n ≤ 16 ∧
 ∀ H' D as,aH H H' → H D = none → H' D = some (.lst (as.map .ref)) → Paired (KI H') as (kY zs) → Q (.ref D) H'
theorem F9 (T:Txt K mg A):aD P w K mg base aC 1 A.dX A.nT ["numbers"] lJ:=by
 refine T.r8.ok F0 (fun vs H Q E h=>?_) (fun au R outer s H vs Q E hr h=>?_)
 ·obtain ⟨p,zs,n,rfl,_⟩:=h
  rfl
 ·obtain ⟨p,zs,n,rfl,hp,hl,hn,k⟩:=h
  have ql:=Oh n zs hl
  refine ⟨_,(Va T hr).2,?_⟩
  refine ⟨_,rfl,_,_,rfl,.inl (aM.of hp),0,_,4,n,rfl,⟨by decide,by decide,by rw [List.length_map]; omega,by rw [List.length_map]; omega⟩,⟨by decide,by decide⟩,?_,fun D hD=>?_⟩
  ·rw [List.length_map,hl]
   unfold Builtin.Range.rangeSize
   rw [if_pos (by decide)]
   by_cases z:(0:Int) < ((4 * n:Nat):Int)
   ·rw [if_pos z]
    omega
   ·rw [if_neg z]
    omega
  ·refine apH (fun i H'=>aH H H' ∧ ∃ as:List Addr,H' D = some (.lst (as.map .ref)) ∧ Paired (KI H') as ((kY zs).take i)) ?_ ?_ ?_
   ·exact ⟨aH.upd hD,[],ae,.nil⟩
   ·rintro i H' hi ⟨s1,as,fq,JT⟩
    obtain ⟨q,SI,hq2⟩:=Zv n zs i hl hi
    have e0:(0:Int) + (i:Int) * 4 = ((4 * i:Nat):Int):=by omega
    have e4:(0:Int) + (i:Int) * 4 + 4 = ((4 * i + 4:Nat):Int):=by omega
    refine ⟨rfl,_,rfl,_,rfl,_,rfl,_,rfl,_,_,rfl,rfl,_,rfl,_,_,rfl,aM.of (s1 _ _ hp),fun sl hsl=>?_⟩
    have adV:Ci (zs.map V.int) (some ((0:Int) + (i:Int) * 4)) (some ((0:Int) + (i:Int) * 4 + 4)) = wz q:=by
     rw [e4,e0,aec _ (by omega),show 4 * i + 4 - 4 * i = 4 by omega]
     exact hq2
    rw [adV]
    have s2:=aH.upd (o:=.lst (wz q)) hsl
    refine ⟨_,_,rfl,.inl ⟨aM.of ae,fun t ht=>?_⟩⟩
    have s3:=aH.upd (o:=.tup (wz q)) ht
    refine ⟨as.map .ref,s3 _ _ (s2 _ _ fq),?_,?_⟩
    ·rw [List.length_map,cQ JT,List.length_take]
     exact Nat.lt_of_le_of_lt (Nat.min_le_right _ _) (by rw [ql]; exact Nat.lt_of_le_of_lt hn (by decide))
    ·have kk:∀ b r,KI (upd (upd H' sl (.lst (wz q))) t (.tup (wz q))) b r → KI (upd (upd (upd H' sl (.lst (wz q))) t (.tup (wz q))) D (.lst (as.map V.ref ++ [V.ref t]))) b r:=fun b r e=>by
      show upd _ D _ b = _
      rw [ak (dN e (s3 _ _ (s2 _ _ fq)) (by intro z; cases z))]
      exact e
     refine ⟨fun b o e=>?_,as ++ [t],?_,?_⟩
     ·rw [ak (ay e hD)]
      exact s3 _ _ (s2 _ _ (s1 b o e))
     ·rw [List.map_append]
      exact ae
     ·rw [take_snoc SI]
      exact vD (jH JT fun b r e=>kk b r (s3 _ _ (s2 _ _ e))) (vC (kk t q ae))
   ·rintro H' ⟨s1,as,fq,JT⟩
    rw [← ql,List.take_length] at JT
    exact k H' D as s1 hD fq JT
noncomputable def qA (A:bg):Sp:=fun vs H Q _=>∃ (ρ:Role → Addr) (S:SS) (g:Addr) (zs:List Int),vs = [.ref (ρ .aF),.ref g] ∧ Wd A ρ S H ∧ H g = some (.lst (zs.map .int)) ∧ ∀ H',aH H H' → Q (.bl (decide (zs.length ≤ 64) && (Vbcnao.rulesOf S zs).isSome)) H'
theorem OO (T:Txt K mg A):aD P w K mg base aC 3 A.c9 A.mU ["world","numbers"] (qA A):=by
 refine T.tD.ok AG (fun vs H Q E h=>?_) (fun au R outer s H vs Q E hr h=>?_)
 ·obtain ⟨ρ,S,g,zs,rfl,_⟩:=h
  rfl
 ·obtain ⟨ρ,S,g,zs,rfl,W,hg,k⟩:=h
  obtain ⟨dx,hw⟩:=W.aF
  refine ⟨_,(NU T hr (F9 T) (TU T)).2,?_⟩
  have e1:decide ((64:Int) < (((zs.map V.int).length:Nat):Int)) = !decide (zs.length ≤ 64):=by
   rw [List.length_map]
   by_cases h:zs.length ≤ 64
   ·rw [decide_eq_true h]
    exact decide_eq_false (by omega)
   ·rw [decide_eq_false h]
    exact decide_eq_true (by omega)
  refine ⟨_,rfl,_,_,rfl,.inl (aM.of hg),_,_,rfl,rfl,_,rfl,?_⟩
  show if decide ((64:Int) < (((zs.map V.int).length:Nat):Int)) = true then _ else _
  rw [e1]
  refine aZ (fun c=>l7 ?_) (fun c=>?_)
  ·rw [Bool.not_eq_true'] at c
   have:=k H fun _ _ e=>e
   rw [c,Bool.false_and] at this
   exact this
  ·rw [Bool.not_eq_true',Bool.not_eq_false] at c
   rw [c] at k
   have k:∀ H',aH H H' → Q (.bl (Vbcnao.rulesOf S zs).isSome) H':=fun H' s=>by
    have:=k H' s
    rw [Bool.true_and] at this
    exact this
   refine ⟨_,rfl,_,_,rfl,.inl (aM.of hg),_,_,rfl,rfl,(by show (0:Int) < 4; decide),rfl,_,rfl,?_⟩
   have e2:decide (V.int ((((zs.map V.int).length:Nat):Int) % 4) = V.int 0) = decide (zs.length % 4 = 0):=by
    rw [List.length_map]
    by_cases h:zs.length % 4 = 0
    ·rw [decide_eq_true h]
     exact decide_eq_true (by congr 1; omega)
    ·rw [decide_eq_false h]
     exact decide_eq_false fun z=>h (by injection z with z; omega)
   show if (!decide (V.int ((((zs.map V.int).length:Nat):Int) % 4) = V.int 0)) = true then _ else _
   rw [e2]
   refine aZ (fun d=>?_) (fun d=>?_)
   ·have d':zs.length % 4 ≠ 0:=by simpa using d
    have:=k H fun _ _ e=>e
    rw [aeV S d'] at this
    exact this
   ·have d':zs.length % 4 = 0:=by simpa using d
    have c':zs.length ≤ 64:=of_decide_eq_true c
    obtain ⟨n,hn⟩:∃ n,zs.length = 4 * n:=⟨zs.length / 4,by omega⟩
    have ql:=Oh n zs hn
    have er:(Vbcnao.rulesOf S zs).isSome = (kY zs).all (vG S):=by
     rw [BD S n zs hn]
     by_cases y:(kY zs).all (vG S) = true
     ·rw [if_pos y,y]
      rfl
     ·rw [if_neg y]
      simp only [Bool.not_eq_true] at y
      rw [y]
      rfl
    rw [er] at k
    refine ⟨_,rfl,g,zs,n,rfl,hg,hn,by omega,fun H1 D as s1 nD hD hp=>?_⟩
    refine ⟨_,rfl,⟨_,aM.of hD⟩,iK (K:=K) (a:=D) (xs:=as.map V.ref) (fun i σ H'=>∃ u:Option V,σ = [some (.ref (ρ .aF)),some (.ref g),u] ∧ H' = H1 ∧ (kY zs).all (vG S) = ((kY zs).drop i).all (vG S))
     ⟨none,rfl,rfl,rfl⟩ (fun i σ H' _ ⟨_,_,e,_⟩=>by rw [e]; exact aM.of hD) ?_ ?_⟩
    ·rintro i y σ H' hi ⟨u,rfl,rfl,e⟩
     obtain ⟨a,ha,rfl⟩:=nE hi
     obtain ⟨q,SI,hq2⟩:=lY hp ha
     rw [Fx SI] at e
     refine ⟨_,rfl,_,rfl,ρ,S,a,q,rfl,(W.same s1).wd,hq2,_,rfl,?_⟩
     refine aZ (fun f=>?_) (fun f=>?_)
     ·rw [Bool.not_eq_true'] at f
      rw [f,Bool.false_and] at e
      have:=k _ s1
      rw [e] at this
      exact this
     ·have f':vG S q = true:=by simpa using f
      rw [f',Bool.true_and] at e
      exact ⟨_,rfl,rfl,e⟩
    ·rintro σ H' ⟨u,rfl,rfl,e⟩
     rw [List.length_map,cQ hp,List.drop_length] at e
     have:=k _ s1
     rw [e] at this
     exact this
end
end Pt
namespace Pt
open PySem PySem.Spec PyProof.Rows L2
noncomputable def Names:Role → Role → Prop
 | .aF,q=>q = .iC ∨ q = .cf ∨ q = .bag ∨ q = .eX ∨ q = .cnt
 | .cf,q=>q = .dg ∨ q = .ret ∨ q = .j7 ∨ q = .eS
 | .iC,q=>∃ i,q = .sw i
 | .eS,q=>∃ i,q = .mm i
 | .dg,q=>∃ i,q = .pu i
 | .sw i,q=>q = .pd i
 | .pd i,q=>∃ v,q = .pt i v
 | .pt i v,q=>q = .cm i v
 | .mm i,q=>q = .hv i ∨ q = .gn i
 | _,_=>False
theorem aiC {A:bg} {ρ ρ':Role → Addr} {S:SS} {H:Hp} {r:Role} {o:HO} (h:Ob A ρ S H r o) (hρ:∀ q,Names r q → ρ' q = ρ q):Ob A ρ' S H r o:=by
 cases r with
 | aF =>
  obtain ⟨dx,e⟩:=h
  refine ⟨dx,e.trans ?_⟩
  unfold dD
  rw [hρ .iC (.inl rfl),hρ .cf (.inr (.inl rfl)),hρ .bag (.inr (.inr (.inl rfl))),hρ .eX (.inr (.inr (.inr (.inl rfl)))),hρ .cnt (.inr (.inr (.inr (.inr rfl))))]
 | cf =>
  obtain ⟨dx,e⟩:=h
  refine ⟨dx,e.trans ?_⟩
  unfold oT
  rw [hρ .dg (.inl rfl),hρ .ret (.inr (.inl rfl)),hρ .j7 (.inr (.inr (.inl rfl))),hρ .eS (.inr (.inr (.inr rfl)))]
 | iC =>
  show o = .lst (refs ρ' .sw S.switches.length)
  rw [g4 fun i=>hρ (.sw i) ⟨i,rfl⟩]
  exact h
 | eS =>
  show o = .lst (refs ρ' .mm S.known.length)
  rw [g4 fun i=>hρ (.mm i) ⟨i,rfl⟩]
  exact h
 | dg =>
  show o = .lst (refs ρ' .pu S.policies.length)
  rw [g4 fun i=>hρ (.pu i) ⟨i,rfl⟩]
  exact h
 | sw j =>
  obtain ⟨w,g9,e1,e'⟩:=h
  refine ⟨w,g9,e1,e'.trans ?_⟩
  unfold i9
  rw [hρ (.pd j) rfl]
 | pd j =>
  obtain ⟨w,kvs,e1,e',d⟩:=h
  exact ⟨w,kvs,e1,e',d.imp fun u v b _ q=>q.trans (by rw [hρ (.pt j v) ⟨v,rfl⟩])⟩
 | pt j v =>
  obtain ⟨w,hh,g9,e1,e2,e'⟩:=h
  refine ⟨w,hh,g9,e1,e2,e'.trans ?_⟩
  unfold Al
  rw [hρ (.cm j v) rfl]
 | mm j =>
  obtain ⟨k,g9,e1,e'⟩:=h
  refine ⟨k,g9,e1,e'.trans ?_⟩
  unfold BH
  rw [hρ (.hv j) (.inl rfl),hρ (.gn j) (.inr rfl)]
 | _=>exact h
theorem aik {ρ ρ':Role → Addr} {f:Nat → Role} {n:Nat} {p:Addr} (hx:ρ' (f n) = p) (h:∀ i,i < n → ρ' (f i) = ρ (f i)):refs ρ f n ++ [.ref p] = refs ρ' f (n + 1):=by
 unfold refs
 rw [List.range_succ,List.map_append,List.map_cons,List.map_nil,hx]
 congr 1
 exact List.map_congr_left fun i hi=>by rw [h i (List.mem_range.mp hi)]
section
variable {A:bg} {ρ:Role → Addr} {S:SS} {H H1:Hp}
theorem Wd.am4 (ne:oq A) (W:Wd A ρ S H) (s1:aH H H1) {D:Addr} (hD:H D = none) {as:List Addr} {l:List Vbcnao.Rule} (fq:H1 D = some (.lst (as.map .ref))) (h:Paired (i7 H1) as l) :
  ∃ ρ',dM A ρ S H ρ' { S with policies:=S.policies ++ [l] } (upd H1 (ρ .dg) (.lst (refs ρ .pu S.policies.length ++ [.ref D]))):=by
 let ρ':Role → Addr:=fun r=>if r = .pu S.policies.length then D else ρ r
 have r1:ρ' (.pu S.policies.length) = D:=if_pos rfl
 have rn:∀ r,r ≠ .pu S.policies.length → ρ' r = ρ r:=fun r hr=>if_neg hr
 have Ij:=W.dg
 have hDp:D ≠ ρ .dg:=fun z=>by rw [z] at hD; rw [hD] at Ij; cases Ij
 have rm:∀ b,b ≠ ρ .dg → upd H1 (ρ .dg) (.lst (refs ρ .pu S.policies.length ++ [.ref D])) b = H1 b:=fun b hb=>ak hb
 have im:uw A H (upd H1 (ρ .dg) (.lst (refs ρ .pu S.policies.length ++ [.ref D]))):=fun a o i e=>by
  rw [rm a fun z=>W.vN ne i e ⟨.dg,trivial,z.symm⟩]
  exact s1 a o e
 have im1:uw A H1 (upd H1 (ρ .dg) (.lst (refs ρ .pu S.policies.length ++ [.ref D]))):=fun a o i e=>by
  have:a ≠ ρ .dg:=fun z=>by
   rw [z,s1 _ _ Ij] at e
   cases e
   exact i
  rw [rm a this]
  exact e
 have lv:∀ r,r ≠ .pu S.policies.length → live { S with policies:=S.policies ++ [l] } r → live S r:=fun r hr h=>by
  cases r with
  | pu i =>
   have h:i < (S.policies ++ [l]).length:=h
   rw [List.length_append,List.length_singleton] at h
   show i < S.policies.length
   have:i ≠ S.policies.length:=fun z=>hr (by rw [z])
   omega
  | _=>exact h
 refine ⟨ρ',W.Ul (fun r lr=>?_) (fun r r' l1 l2 z e=>?_) (fun b o e n=>?_) (rn _ (by intro z; cases z)) (rn _ (by intro z; cases z)) (rn _ (by intro z; cases z))⟩
 ·by_cases hr:r = .pu S.policies.length
  ·subst hr
   refine ⟨.inr (by rw [r1]; exact hD),.lst (as.map .ref),?_,l,as,?_,rfl,jH h fun a _ q=>im1 a _ trivial q⟩
   ·rw [r1,rm D hDp]
    exact fq
   ·show (S.policies ++ [l])[S.policies.length]? = some l
    rw [List.getElem?_append_right (Nat.le_refl _),Nat.sub_self]
    rfl
  ·have tQ:=lv r hr lr
   obtain ⟨o,e,nP⟩:=W.ob r tQ
   have nP:=nP.mono im
   refine ⟨.inl ⟨tQ,rn r hr⟩,?_⟩
   rw [rn r hr]
   by_cases EF:r = .dg
   ·subst EF
    refine ⟨_,ae,?_⟩
    show _ = HO.lst (refs ρ' .pu (S.policies ++ [l]).length)
    rw [List.length_append,List.length_singleton,aik r1 fun i hi=>rn (.pu i) (by intro z; cases z; omega)]
   ·refine ⟨o,?_,?_⟩
    ·rw [rm _ fun z=>EF (W.inj r .dg tQ trivial z)]
     exact s1 _ _ e
    ·have nP:=aiC (ρ':=ρ') nP fun q hq=>rn q (fun z=>by
      subst z
      cases r <;> first | exact absurd rfl EF | (simp [Names] at hq))
     cases r with
     | pu i =>
      obtain ⟨l',as',e1,e2,p⟩:=nP
      exact ⟨l',as',by
       show (S.policies ++ [l])[i]? = some l'
       rw [List.getElem?_append_left tQ]
       exact e1,e2,p⟩
     | dg=>exact absurd rfl EF
     | _=>exact nP
 ·by_cases hr:r = .pu S.policies.length
  ·subst hr
   by_cases gU:r' = .pu S.policies.length
   ·exact gU.symm
   ·rw [r1,rn r' gU] at e
    rw [r1,e] at z
    exact absurd z (W.old (lv r' gU l2))
  ·rw [rn r hr] at z
   exact absurd z (W.old (lv r hr l1))
 ·rw [rm b fun z=>n ⟨.dg,trivial,z.symm⟩]
  exact s1 b o e
end
section
variable {P:Program} {w:World} {K:W.Frag} {mg:Str → Option Value} {base:Heap} {A:bg}
noncomputable def sA:Sp:=fun vs H Q _=>∃ (n cap life room:Int),vs = [.int n,.int cap,.int life,.int room] ∧ Q (.bl (Vbcnao.within n 1 16 && (Vbcnao.within cap 1 4096 && (Vbcnao.within life 1 1000000 && Vbcnao.within room 1 256)))) H
theorem R1 (T:Txt K mg A):aD P w K mg base aC 1 A.dJ A.oR ["n","cap","life","room"] sA:=by
 refine T.vm.ok RX (fun vs H Q E h=>?_) (fun au R outer s H vs Q E hr h=>?_)
 ·obtain ⟨n,cap,life,room,rfl,_⟩:=h
  rfl
 ·obtain ⟨n,cap,life,room,rfl,k⟩:=h
  refine ⟨_,(RQ T hr).2,?_⟩
  unfold Vbcnao.within at k
  have ch:∀ {a b:Bool} {f:Bool → Prop} {B:Prop},(f (a && b) → B) → f (a && b) → B:=fun h q=>h q
  refine ⟨_,rfl,_,_,rfl,rfl,_,rfl,?_⟩
  cases d1:decide (1 ≤ n) with
  | false =>
   rw [d1,Bool.false_and,Bool.false_and] at k
   exact uS ⟨_,rfl,uS k⟩
  | true =>
   rw [d1,Bool.true_and] at k
   refine l7 ⟨_,_,rfl,rfl,_,rfl,?_⟩
   refine yg (f:=fun b=>Q (.bl b) H) (fun k=>?_) k
   refine ⟨_,rfl,_,_,rfl,rfl,_,rfl,?_⟩
   cases d2:decide (1 ≤ cap) with
   | false =>
    rw [d2,Bool.false_and,Bool.false_and] at k
    exact uS ⟨_,rfl,uS k⟩
   | true =>
    rw [d2,Bool.true_and] at k
    refine l7 ⟨_,_,rfl,rfl,_,rfl,?_⟩
    refine yg (f:=fun b=>Q (.bl b) H) (fun k=>?_) k
    refine ⟨_,rfl,_,_,rfl,rfl,_,rfl,?_⟩
    cases d3:decide (1 ≤ life) with
    | false =>
     rw [d3,Bool.false_and,Bool.false_and] at k
     exact uS ⟨_,rfl,uS k⟩
    | true =>
     rw [d3,Bool.true_and] at k
     refine l7 ⟨_,_,rfl,rfl,_,rfl,?_⟩
     refine yg (f:=fun b=>Q (.bl b) H) (fun k=>?_) k
     refine ⟨_,rfl,_,_,rfl,rfl,_,rfl,?_⟩
     exact yg (f:=fun b=>Q (.bl b) H) (fun k=>⟨_,_,rfl,rfl,k⟩) k
noncomputable def fQ (S:SS) (g:List Int):SS × List Int:=Vbcnao.doing S (.publish g)
theorem ag2 (T:Txt K mg A):aD P w K mg base aC 4 A.fQ A.Qq ["world","given"] (fX A fQ fun _=>True):=by
 refine T.Rp.ok Vq (fun vs H Q E h=>?_) (fun au R outer s H vs Q E hr h=>?_)
 ·obtain ⟨ρ,S,ps,g,given,c,rfl,_⟩:=h
  rfl
 ·obtain ⟨ρ,S,ps,g,zs,c,rfl,cP,G,hc,hg,ng,hz,pre,k⟩:=h
  have W:=cP.wd
  have ef:fQ S zs = match (if zs.length ≤ 64 then Vbcnao.rulesOf S zs else none) with
   | none=>(S,[-1])
   | some r=>if S.pending = true then (S,[-2]) else ({ S with policies:=S.policies ++ [r],pending:=true },[((S.policies.length + 1:Nat):Int)]):=rfl
  refine ⟨_,(agw T hr (OO T) (F9 T)).2,?_⟩
  refine ⟨_,rfl,_,rfl,ρ,S,g,zs,rfl,W,hg,fun H1 s1=>⟨_,rfl,?_⟩⟩
  have sd:=cP.same s1
  have Wh1:=sd.wh
  have W1:=Wh1.wd
  obtain ⟨dx,hw⟩:=W1.aF
  obtain ⟨qu,vO⟩:=W1.cf
  refine aZ (fun d=>?_) (fun d=>?_)
  ·rw [Bool.not_eq_true'] at d
   have en:(if zs.length ≤ 64 then Vbcnao.rulesOf S zs else none) = none:=by
    by_cases h:zs.length ≤ 64
    ·rw [if_pos h]
     rw [decide_eq_true h,Bool.true_and] at d
     cases e:Vbcnao.rulesOf S zs with
     | none=>rfl
     | some r =>
      rw [e] at d
      cases d
    ·exact if_neg h
   rw [en] at ef
   exact ⟨_,rfl,lz,fin k ef sd⟩
  ·rw [Bool.not_eq_true',Bool.not_eq_false,Bool.and_eq_true,decide_eq_true_eq] at d
   obtain ⟨d1,d2⟩:=d
   obtain ⟨r,er⟩:=Option.isSome_iff_exists.mp d2
   rw [if_pos d1,er] at ef
   dsimp only at ef
   refine ⟨_,rfl,_,_,_,_,_,rfl,hw,T.aB,T.aR,aa bq rfl rfl,?_⟩
   refine ⟨_,rfl,_,_,_,_,_,rfl,vO,T.aA,T.b5,aa eT rfl rfl,_,rfl,?_⟩
   refine aZ (fun f=>?_) (fun f=>?_)
   ·rw [if_pos f] at ef
    exact ⟨_,rfl,lz,fin k ef sd⟩
   ·rw [if_neg f] at ef
    have hrl:=Ak zs r er
    have hq:=BD S r.length zs (by omega)
    rw [er] at hq
    have j4:(kY zs).all (vG S) = true:=by
     by_cases y:(kY zs).all (vG S) = true
     ·exact y
     ·rw [if_neg y] at hq
      cases hq
    rw [if_pos j4] at hq
    have erq:r = (kY zs).map AY:=Option.some.inj hq
    refine ⟨_,rfl,_,_,_,_,_,rfl,vO,T.aA,T.cR,aa iW rfl rfl,.inl ⟨rfl,_,aM.of W1.dg⟩,_,rfl,g,zs,r.length,rfl,s1 _ _ hg,by omega,by omega,fun H2 D as s2 nD hD hp=>?_⟩
    have hpr:Paired (i7 H2) as r:=by
     rw [erq]
     have aoL:=List.all_eq_true.mp j4
     have key:∀ (as:List Addr) (L:List Rm),Paired (KI H2) as L → (∀ q ∈ L,vG S q = true) → Paired (i7 H2) as (L.map AY):=by
      intro as L h
      induction h with
      | nil=>exact fun _=>.nil
      | @cons x y l₁ l₂ q _ ih =>
       intro hh
       refine .cons ?_ (ih fun x hx=>hh x (List.mem_cons_of_mem _ hx))
       show H2 x = some (.tup (abi (AY y)))
       rw [← ail (hh y (List.mem_cons_self ..))]
       exact q
     exact key as _ hp aoL
    refine ⟨_,_,_,rfl,rfl,s2 _ _ W1.dg,?_,?_⟩
    ·rw [gf]
     exact Nat.lt_of_le_of_lt G.Ho (Nat.lt_of_le_of_lt hc (by decide))
    ·obtain ⟨ρ',c7⟩:=W1.am4 T.gS s2 nD hD hpr
     have W2:=c7.wd
     obtain ⟨aqh,ant⟩:=W2.cf
     have c0:ρ' .cf = ρ .cf:=c7.c0
     rw [c0] at ant
     refine ⟨_,rfl,_,_,_,_,rfl,ant,T.aA,T.b5,(mZ rfl (by decide)),?_⟩
     have e3:bz "pending" (.bl true) (oT ρ' { S with policies:=S.policies ++ [r] }) = oT ρ' { S with policies:=S.policies ++ [r],pending:=true }:=gH eT rfl (by decide)
     have m5:=W2.aib T.gS aqh S.inForce true
     rw [c0] at m5
     rw [e3]
     have W3:=m5.wd
     obtain ⟨aqH,anr⟩:=W3.cf
     rw [c0] at anr
     refine ⟨_,rfl,_,_,_,_,_,rfl,anr,T.aA,T.cR,aa iW rfl rfl,_,_,rfl,.inl (aM.of W3.dg),lz,?_⟩
     have aqc:(((refs ρ' .pu (S.policies ++ [r]).length).length:Nat):Int) = ((S.policies.length + 1:Nat):Int):=by rw [gf,List.length_append]; rfl
     have ef':fQ S zs = ({ S with policies:=S.policies ++ [r],pending:=true },[(((refs ρ' .pu (S.policies ++ [r]).length).length:Nat):Int)]):=by
      rw [aqc]
      exact ef
     exact fin k ef' (sd.trans (Wh1.CQ (c7.trans m5) rfl))
end
end Pt
namespace Pt
open PySem PySem.Spec PyProof.Rows L2
theorem aH.put {H H':Hp} (s:aH H H') {D:Addr} (n:H D = none) (o:HO):aH H (L2.upd H' D o):=fun q u e=>by
 rw [ak (ay e n)]
 exact s q u e
theorem aH.lay {H H':Hp} (s:aH H H') {D:Addr} (n:H' D = none) (o:HO):aH H (L2.upd H' D o):=s.trans (aH.upd n)
theorem Xj {A:bg} {ρ:Role → Addr} {S:SS} {H H':Hp} {ps:PL} {given:List Int} {f:SS → List Int → SS × List Int} {Q:VK} (cP:Wh A ρ S H ps)
  (k:∀ ρ' j8 H' p,kX A ρ S H ps ρ' (f S given).1 H' j8 → (∀ b o,H b = some o → ¬ iU ρ S ps b → b ≠ p) → H' p = some (.lst ((f S given).2.map .int)) → Q (.ref p) H')
  {as:List Int} (e:f S given = (S,as)) (s:aH H H') {D:Addr} (hD:H D = none) (Wq:H' D = some (.lst (as.map V.int))):Q (.ref D) H':=by
 refine k ρ ps H' D ?_ (fun b o eo _=>ay eo hD) ?_
 ·rw [e]
  exact cP.same s
 ·rw [e]
  exact Wq
theorem small {n m:Nat} (h:n ≤ m) (hm:m ≤ 1000000:=by decide):n ≤ sizeLine:=Nat.le_trans h (Nat.le_trans hm (by decide))
section
variable {P:Program} {w:World} {K:W.Frag} {mg:Str → Option Value} {base:Heap} {A:bg}
noncomputable def adS (S:SS) (g:List Int):SS × List Int:=Vbcnao.doing S (.policy (g.getD 0 0) (g.getD 1 0) (g.getD 2 0))
theorem XQ (T:Txt K mg A):aD P w K mg base aC 3 A.eK A.Cf ["world","given"] (fX A adS fun g=>g.length = 3):=by
 refine T.CM.ok IW (fun vs H Q E h=>?_) (fun au R outer s H vs Q E hr h=>?_)
 ·obtain ⟨ρ,S,ps,g,given,c,rfl,_⟩:=h
  rfl
 ·obtain ⟨ρ,S,ps,g,given,c,rfl,cP,G,hc,hg,ng,hz,pre,k⟩:=h
  obtain ⟨v,x,key,rfl⟩:∃ v x key,given = [v,x,key]:=by
   match given,pre with
   | [v,x,key],_=>exact ⟨v,x,key,rfl⟩
  have W:=cP.wd
  obtain ⟨dx,hw⟩:=W.aF
  obtain ⟨qu,vO⟩:=W.cf
  have ef:adS S [v,x,key] = if (Vbcnao.within v 1 (S.policies.length:Int) && (Vbcnao.isSwitch S x && Vbcnao.within key 0 65535)) = false then (S,[-1]) else (S,[((Vbcnao.says (Vbcnao.policy S v.toNat) x.toNat key.toNat).toNat:Int)]):=rfl
  refine ⟨_,(Xb T hr (AS T) (fT T) (OQ T) (ON T) (tN T)).2,?_⟩
  refine ⟨_,rfl,_,_,_,_,rfl,rfl,aM.of hg,at_of (j:=0) rfl rfl,?_⟩
  refine ⟨_,rfl,_,_,_,_,rfl,rfl,aM.of hg,at_of (j:=1) rfl rfl,?_⟩
  refine ⟨_,rfl,_,_,_,_,rfl,rfl,aM.of hg,at_of (j:=2) rfl rfl,?_⟩
  refine ⟨_,rfl,_,_,_,_,_,rfl,hw,T.aB,T.aR,aa bq rfl rfl,_,_,_,rfl,vO,aL AW,_,rfl,ρ,S,v,rfl,W,_,rfl,?_⟩
  refine aZ (fun d=>l7 ?_) (fun d=>?_)
  ·rw [Bool.not_eq_true'] at d
   rw [d,Bool.false_and,if_pos rfl] at ef
   exact ⟨_,rfl,lz,fin k ef (.refl cP)⟩
  rw [Bool.not_eq_true',Bool.not_eq_false] at d
  rw [d,Bool.true_and] at ef
  refine ⟨_,rfl,_,_,_,rfl,hw,aL fU,_,rfl,ρ,S,x,rfl,W,_,rfl,?_⟩
  refine aZ (fun d2=>l7 ?_) (fun d2=>?_)
  ·rw [Bool.not_eq_true'] at d2
   rw [d2,Bool.false_and,if_pos rfl] at ef
   exact ⟨_,rfl,lz,fin k ef (.refl cP)⟩
  rw [Bool.not_eq_true',Bool.not_eq_false] at d2
  rw [d2,Bool.true_and] at ef
  refine ⟨_,rfl,key,rfl,_,rfl,?_⟩
  refine aZ (fun d3=>?_) (fun d3=>?_)
  ·rw [Bool.not_eq_true'] at d3
   rw [if_pos (show Vbcnao.within key 0 65535 = false from d3)] at ef
   exact ⟨_,rfl,lz,fin k ef (.refl cP)⟩
  rw [Bool.not_eq_true',Bool.not_eq_false] at d3
  have d3:Vbcnao.within key 0 65535 = true:=d3
  rw [if_neg (by rw [d3]; simp)] at ef
  unfold Vbcnao.within at d d3
  rw [Bool.and_eq_true,decide_eq_true_eq,decide_eq_true_eq] at d d3
  obtain ⟨hx,ex⟩:=B7 (by rw [d2]; simp:¬ Vbcnao.isSwitch S x = false)
  have ev:v = ((v.toNat:Nat):Int):=by omega
  have ek:key = ((key.toNat:Nat):Int):=by omega
  obtain ⟨l,hl⟩:∃ l,S.policies[v.toNat - 1]? = some l:=⟨_,List.getElem?_eq_getElem (by omega)⟩
  have adH:Vbcnao.policy S v.toNat = l:=by
   unfold Vbcnao.policy
   rw [if_neg (by omega)]
   exact YD hl
  obtain ⟨as,hpu,hp⟩:=W.pu hl
  rw [adH] at ef
  refine ⟨_,rfl,_,_,_,_,_,rfl,hw,T.aB,T.aR,aa bq rfl rfl,_,_,_,rfl,vO,aL tP,_,rfl,ρ,S,v,v.toNat - 1,rfl,W,by omega,by omega,?_⟩
  refine ⟨_,rfl,_,rfl,ρ (.pu (v.toNat - 1)),as,l,x.toNat,key.toNat,?_,hpu,hp,fun H1 s1=>?_⟩
  ·unfold nV
   rw [ex,← ek]
   rfl
  ·exact ⟨lz,fin k ef (cP.same s1)⟩
noncomputable def adR (S:SS) (g:List Int):SS × List Int:=Vbcnao.doing S (.switch (g.getD 0 0))
theorem XO (T:Txt K mg A):aD P w K mg base aC 2 A.eJ A.Ce ["world","given"] (fX A adR fun g=>g.length = 1):=by
 refine T.CL.ok IV (fun vs H Q E h=>?_) (fun au R outer s H vs Q E hr h=>?_)
 ·obtain ⟨ρ,S,ps,g,given,c,rfl,_⟩:=h
  rfl
 ·obtain ⟨ρ,S,ps,g,given,c,rfl,cP,G,hc,hg,ng,hz,pre,k⟩:=h
  obtain ⟨z,rfl⟩:=wG pre
  have W:=cP.wd
  obtain ⟨dx,hw⟩:=W.aF
  have ef:adR S [z] = if Vbcnao.isSwitch S z = false then (S,[-1]) else (S,[0,((Vbcnao.switchAt S z.toNat).boot:Int),((Vbcnao.switchAt S z.toNat).current:Int),((Vbcnao.switchAt S z.toNat).floor:Int),((Vbcnao.switchAt S z.toNat).held.length:Int)] ++ (Vbcnao.switchAt S z.toNat).held.flatMap fun h=>Vbcnao.ints [h.v,h.total,h.rows.length]):=rfl
  refine ⟨_,(Xa T hr (fT T)).2,?_⟩
  refine ⟨_,rfl,_,_,_,rfl,hw,aL fU,_,rfl,_,_,_,_,rfl,rfl,aM.of hg,at_of (j:=0) rfl rfl,ρ,S,z,rfl,W,_,rfl,?_⟩
  refine aZ (fun d=>?_) (fun d=>?_)
  ·rw [Bool.not_eq_true'] at d
   rw [if_pos d] at ef
   exact ⟨_,rfl,lz,fin k ef (.refl cP)⟩
  rw [Bool.not_eq_true'] at d
  rw [if_neg d] at ef
  obtain ⟨hx,ez⟩:=B7 d
  have hi:=gQ hx
  have gw:=G.sw _ (iD hx)
  have hlen:=G.Ur (iD hx)
  generalize ew:Vbcnao.switchAt S z.toNat = w at *
  obtain ⟨vP,hs⟩:=W.sw hi
  obtain ⟨kvs,hd,dk⟩:=W.pd hi
  have dkl:kvs.length = w.held.length:=by
   rw [dk.len]
   unfold fj
   rw [List.length_map,List.length_map]
  have tW:Tc (refs ρ .sw S.switches.length) z = some (.ref (ρ (.sw z.toNat))):=at_of (j:=z.toNat) ez.symm (jG hx)
  refine ⟨_,rfl,_,_,_,_,_,rfl,hw,T.aB,T.cN,aa fP rfl rfl,_,rfl,_,_,_,_,rfl,rfl,aM.of hg,at_of (j:=0) rfl rfl,_,_,_,_,rfl,rfl,aM.of W.iC,tW,?_⟩
  refine ⟨_,rfl,_,_,_,_,_,rfl,hs,T.cB,T.gI,aa xg rfl rfl,_,rfl,_,_,_,_,_,rfl,hs,T.cB,T.eI,aa mQ rfl rfl,_,rfl,_,_,_,_,_,rfl,hs,T.cB,T.fV,aa qk rfl rfl,_,rfl,_,_,_,_,_,rfl,hs,T.cB,T.cE,aa d9 rfl rfl,_,_,rfl,hd,lz,fun D hD=>?_⟩
  rw [dkl]
  have sD:=aH.upd (o:=.lst [.int 0,nV w.boot,nV w.current,nV w.floor,.int (w.held.length:Nat)]) hD
  obtain ⟨ns,en,es⟩:=Aj dk (by rw [cX]; exact gw.up)
  refine ⟨_,rfl,_,_,_,_,_,rfl,sD _ _ hs,T.cB,T.cE,aa d9 rfl rfl,_,_,_,rfl,sD _ _ hd,en,fun se l h1 h2 hl=>?_⟩
  have e':=es se h1 h2
  rw [cX] at e'
  subst e'
  have nl:H l = none:=sD.free hl
  have Wg:D ≠ l:=ay ae hl
  have s0:=aH.lay sD hl (.lst (((w.held.map (·.v)).map fun (n:Nat)=>(n:Int)).map V.int))
  refine ⟨_,rfl,⟨_,aM.of ae⟩,iK (K:=K) (a:=l) (xs:=((w.held.map (·.v)).map fun (n:Nat)=>(n:Int)).map V.int) (fun i σ H'=>∃ u1 u2:Option V,σ = [some (.ref (ρ .aF)),some (.ref g),some (.ref (ρ (.sw z.toNat))),some (.ref D),u1,u2] ∧ aH H H' ∧ H' l = some (.lst (((w.held.map (·.v)).map fun (n:Nat)=>(n:Int)).map V.int)) ∧
    H' D = some (.lst (([0,(w.boot:Int),(w.current:Int),(w.floor:Int),(w.held.length:Int)] ++ (w.held.take i).flatMap fun h=>Vbcnao.ints [h.v,h.total,h.rows.length]).map V.int)))
   ⟨none,none,rfl,s0,ae,by rw [ak Wg]; exact ae⟩ (fun i σ H' _ ⟨_,_,_,_,e,_⟩=>aM.of e) ?_ ?_⟩
  ·rintro i y σ H' sf ⟨u1,u2,rfl,s1,hl1,fq⟩
   obtain ⟨zz,hzz,rfl⟩:=nE sf
   rw [List.getElem?_map,List.getElem?_map] at hzz
   obtain ⟨h,hh⟩:∃ h,w.held[i]? = some h:=by
    cases e:w.held[i]? with
    | none =>
     rw [e] at hzz
     cases hzz
    | some h=>exact ⟨h,rfl⟩
   rw [hh] at hzz
   cases hzz
   have hof:Vbcnao.heldOf w h.v = some h:=by
    cases e:Vbcnao.heldOf w h.v with
    | none=>exact absurd (List.mem_map.mpr ⟨h,List.mem_of_getElem? hh,rfl⟩) (pS.mp e)
    | some h' =>
     obtain ⟨e1,e2⟩:=mq e
     obtain ⟨j,hj,e3⟩:=List.getElem_of_mem e2
     have nd:=KZ gw.up
     have:=ahf nd (i:=i) (j:=j) (x:=h.v) (by rw [List.getElem?_map,hh]; rfl) (by rw [List.getElem?_map,List.getElem?_eq_some_iff.mpr ⟨hj,e3⟩]; exact congrArg some e1)
     subst this
     rw [List.getElem?_eq_some_iff.mpr ⟨hj,e3⟩] at hh
     cases hh
     rfl
   obtain ⟨zq,Wk,hv'⟩:=W.part hi hof gw.up
   rw [hd] at Wk
   cases Wk
   obtain ⟨sj,hp⟩:=W.pt hi hof
   obtain ⟨Pd,yF,EO⟩:=W.cm hi hof
   have MV:=s1 _ _ hp
   refine ⟨_,rfl,_,_,_,_,_,rfl,s1 _ _ hs,T.cB,T.cE,aa d9 rfl rfl,_,rfl,_,_,rfl,(by have:=jn.k (k:=Sum.inl (h.v:Int)) (s1 _ _ hd); rw [hv'] at this; exact this),?_⟩
   refine ⟨_,rfl,.inl ⟨rfl,_,aM.of fq⟩,_,rfl,_,rfl,_,_,_,_,_,rfl,MV,T.kD,T.jU,aa MS rfl rfl,_,rfl,_,_,_,_,_,rfl,MV,T.kD,T.gh,aa nM rfl rfl,_,_,rfl,s1 _ _ yF,lz,fun b hb=>?_⟩
   rw [EO.len]
   have sb:=aH.upd (o:=.lst [.int (h.v:Int),nV h.total,.int (h.rows.length:Nat)]) hb
   refine ⟨_,_,_,_,rfl,rfl,sb _ _ fq,ae,?_,?_⟩
   ·have hf:=oJ (f:=fun h:Vbcnao.Held=>Vbcnao.ints [h.v,h.total,h.rows.length]) (n:=3) (l:=w.held.take i) fun y _=>by simp [Vbcnao.ints]
    have ht:(w.held.take i).length ≤ w.held.length:=by rw [List.length_take]; exact Nat.min_le_right _ _
    refine small (m:=2000) ?_
    rw [List.length_map,List.length_append]
    simp only [List.length_cons,List.length_nil]
    omega
   ·have nb:H' b = none:=hb
    refine ⟨_,_,rfl,aH.put (aH.lay s1 hb _) hD _,?_,?_⟩
    ·rw [ak (Ne.symm Wg),sb _ _ hl1]
    ·rw [ae,take_snoc hh,List.flatMap_append]
     simp only [List.map_append,List.append_assoc]
     rfl
  ·rintro σ H' ⟨u1,u2,rfl,s1,hl1,fq⟩
   rw [List.length_map,List.length_map,List.length_map,List.take_length] at fq
   exact ⟨_,rfl,Xj cP k ef s1 hD fq⟩
noncomputable def afV (S:SS) (g:List Int):SS × List Int:=Vbcnao.doing S (.knows (g.getD 0 0))
theorem aaJ (T:Txt K mg A):aD P w K mg base aC 2 A.fB A.EU ["world","given"] (fX A afV fun g=>g.length = 1):=by
 refine T.FI.ok Mw (fun vs H Q E h=>?_) (fun au R outer s H vs Q E hr h=>?_)
 ·obtain ⟨ρ,S,ps,g,given,c,rfl,_⟩:=h
  rfl
 ·obtain ⟨ρ,S,ps,g,given,c,rfl,cP,G,hc,hg,ng,hz,pre,k⟩:=h
  obtain ⟨z,rfl⟩:=wG pre
  have W:=cP.wd
  obtain ⟨dx,hw⟩:=W.aF
  obtain ⟨qu,vO⟩:=W.cf
  have ef:afV S [z] = if Vbcnao.isSwitch S z = false then (S,[-1]) else (S,[0,((Vbcnao.knownAt S z.toNat).boot:Int),((Vbcnao.knownAt S z.toNat).flipped:Int),((Vbcnao.knownAt S z.toNat).haves.length:Int)] ++ Vbcnao.ints (Vbcnao.knownAt S z.toNat).haves ++ [((Vbcnao.knownAt S z.toNat).gones.length:Int)] ++ Vbcnao.ints (Vbcnao.knownAt S z.toNat).gones):=rfl
  refine ⟨_,(aag T hr (fT T)).2,?_⟩
  refine ⟨_,rfl,_,_,_,_,rfl,rfl,aM.of hg,at_of (j:=0) rfl rfl,?_⟩
  refine ⟨_,rfl,_,_,_,rfl,hw,aL fU,_,rfl,ρ,S,z,rfl,W,_,rfl,?_⟩
  refine aZ (fun d=>?_) (fun d=>?_)
  ·rw [Bool.not_eq_true'] at d
   rw [if_pos d] at ef
   exact ⟨_,rfl,lz,fin k ef (.refl cP)⟩
  rw [Bool.not_eq_true'] at d
  rw [if_neg d] at ef
  obtain ⟨hx,ez⟩:=B7 d
  have hxk:z.toNat < S.known.length:=by rw [G.n]; exact hx
  have hi:=l6 hxk
  have gk:=G.kn _ (tR hxk)
  have gl:=G.PV (tR hxk)
  generalize ew:Vbcnao.knownAt S z.toNat = kn at *
  obtain ⟨dxm,hm⟩:=W.mm hi
  obtain ⟨kvs,hh,dk⟩:=W.hv hi
  obtain ⟨Pd,ZN,EO⟩:=W.gn hi
  have dkl:kvs.length = kn.haves.length:=by
   rw [dk.len]
   unfold fj
   rw [List.length_map]
  have aqi:Pd.length = kn.gones.length:=by
   rw [EO.len]
   unfold fj
   rw [List.length_map]
  have tW:Tc (refs ρ .mm S.known.length) z = some (.ref (ρ (.mm z.toNat))):=at_of (j:=z.toNat) ez.symm (jG hxk)
  have pA:Tc (S.known.map fun k=>nV k.boot) z = some (nV kn.boot):=at_of (j:=z.toNat) ez.symm (by rw [List.getElem?_map,hi]; rfl)
  refine ⟨_,rfl,_,_,_,_,_,rfl,hw,T.aB,T.aR,aa bq rfl rfl,_,_,_,_,_,rfl,vO,T.aA,T.bD,aa cJ rfl rfl,_,rfl,_,_,_,_,rfl,rfl,aM.of W.eS,tW,?_⟩
  refine ⟨_,rfl,_,_,_,_,_,rfl,hw,T.aB,T.aR,aa bq rfl rfl,_,_,_,_,_,rfl,vO,T.aA,T.bY,aa ee rfl rfl,_,rfl,_,_,_,_,rfl,rfl,aM.of W.j7,pA,_,rfl,_,_,_,_,_,rfl,hm,T.eu,T.eA,aa kJ rfl rfl,lz,fun D hD=>?_⟩
  have s1:=aH.upd (o:=.lst [.int 0,nV kn.boot,nV kn.flipped]) hD
  refine ⟨_,rfl,.inl ⟨rfl,_,aM.of ae⟩,_,rfl,_,_,_,_,_,rfl,s1 _ _ hm,T.eu,T.eR,aa ku rfl rfl,_,_,rfl,s1 _ _ hh,_,_,_,rfl,rfl,ae,(by show 3 < sizeLine; decide),?_⟩
  rw [dO,dkl]
  have s2:aH H (upd H D (.lst ([.int 0,nV kn.boot,nV kn.flipped] ++ [.int (kn.haves.length:Nat)]))):=aH.upd hD
  obtain ⟨ns,en,es⟩:=Aj dk (by rw [cX]; exact gk.hup)
  refine ⟨_,rfl,.inl ⟨rfl,_,aM.of ae⟩,_,rfl,_,_,_,_,_,rfl,s2 _ _ hm,T.eu,T.eR,aa ku rfl rfl,_,_,_,rfl,s2 _ _ hh,en,fun se l h1 h2 hl=>?_⟩
  have e':=es se h1 h2
  rw [cX] at e'
  subst e'
  have Wg:D ≠ l:=ay ae hl
  refine ⟨_,_,_,_,rfl,rfl,(by rw [ak Wg]; exact ae),ae,?_,?_⟩
  ·refine small (m:=1000) ?_
   rw [List.length_map,List.length_map]
   show 4 + kn.haves.length ≤ 1000
   omega
  have s3:=aH.put (aH.lay s2 hl (.lst ((kn.haves.map fun (n:Nat)=>(n:Int)).map V.int))) hD (.lst ([.int 0,nV kn.boot,nV kn.flipped] ++ [.int (kn.haves.length:Nat)] ++ (kn.haves.map fun (n:Nat)=>(n:Int)).map V.int))
  refine ⟨_,rfl,.inl ⟨rfl,_,aM.of ae⟩,_,rfl,_,_,_,_,_,rfl,s3 _ _ hm,T.eu,T.fK,aa nN rfl rfl,_,_,rfl,s3 _ _ ZN,_,_,_,rfl,rfl,ae,?_,?_⟩
  ·refine Nat.lt_of_le_of_lt (m:=1000) ?_ (by decide)
   rw [List.length_append,List.length_map,List.length_map]
   show 4 + kn.haves.length ≤ 1000
   omega
  rw [dO,aqi]
  have s4:=aH.put (aH.lay s2 hl (.lst ((kn.haves.map fun (n:Nat)=>(n:Int)).map V.int))) hD (.lst ([.int 0,nV kn.boot,nV kn.flipped] ++ [.int (kn.haves.length:Nat)] ++ (kn.haves.map fun (n:Nat)=>(n:Int)).map V.int ++ [.int (kn.gones.length:Nat)]))
  obtain ⟨ns2,en2,es2⟩:=Aj EO (by rw [cX]; exact gk.gup)
  refine ⟨_,rfl,.inl ⟨rfl,_,aM.of ae⟩,_,rfl,_,_,_,_,_,rfl,s4 _ _ hm,T.eu,T.fK,aa nN rfl rfl,_,_,_,rfl,s4 _ _ ZN,en2,fun se l2 h1 h2 hl2=>?_⟩
  have e':=es2 se h1 h2
  rw [cX] at e'
  subst e'
  have apV:D ≠ l2:=ay ae hl2
  refine ⟨_,_,_,_,rfl,rfl,(by rw [ak apV]; exact ae),ae,?_,?_⟩
  ·refine small (m:=2000) ?_
   rw [List.length_append,List.length_append,List.length_map,List.length_map,List.length_map,List.length_map]
   show 4 + kn.haves.length + 1 + kn.gones.length ≤ 2000
   omega
  refine ⟨_,rfl,Xj cP k ef (aH.put (aH.lay s4 hl2 _) hD _) hD ?_⟩
  rw [ae]
  simp only [List.map_append]
  rfl
end
end Pt
namespace Pt
open PySem PySem.Spec PyProof.Rows L2
section
variable {P:Program} {w:World} {K:W.Frag} {mg:Str → Option Value} {base:Heap} {A:bg}
noncomputable def P0 (S:SS) (_:List Int):SS × List Int:=Vbcnao.doing S .controller
theorem OM (T:Txt K mg A):aD P w K mg base aC 3 A.cU A.sP ["world","given"] (fX A P0 fun _=>True):=by
 refine T.tw.ok AF (fun vs H Q E h=>?_) (fun au R outer s H vs Q E hr h=>?_)
 ·obtain ⟨ρ,S,ps,g,given,c,rfl,_⟩:=h
  rfl
 ·obtain ⟨ρ,S,ps,g,given,c,rfl,cP,G,hc,hg,ng,hz,pre,k⟩:=h
  have W:=cP.wd
  obtain ⟨dx,hw⟩:=W.aF
  obtain ⟨qu,vO⟩:=W.cf
  obtain ⟨as,p7,hp⟩:=W.ret
  have hrl:=G.XE
  have ef:P0 S given = (S,[0,(S.inForce:Int),(S.pending.toNat:Int),(Vbcnao.target S:Int),(S.retired.length:Int)] ++ S.retired.flatMap fun r=>Vbcnao.ints [r.1,r.2]):=rfl
  refine ⟨_,(NT T hr (wI T)).2,?_⟩
  refine ⟨_,rfl,_,_,_,_,_,rfl,hw,T.aB,T.aR,aa bq rfl rfl,?_⟩
  dsimp only [LW]
  refine rS (t1:=ajm _ _) (fun σ' H'=>σ' = [some (.ref (ρ .aF)),some (.ref g),some (.ref (ρ .cf)),some (nV S.pending.toNat),none,none,none] ∧ H' = H) ?_ ?_
  ·rintro σ' H' ⟨rfl,rfl⟩
   refine ⟨_,rfl,_,_,_,_,_,rfl,vO,T.aA,T.aV,aa bu rfl rfl,_,rfl,_,rfl,_,_,_,rfl,vO,aL wL,ρ,S,rfl,W,?_⟩
   refine ⟨_,rfl,_,_,_,_,_,rfl,vO,T.aA,T.cF,aa f7 rfl rfl,_,_,rfl,.inl (aM.of p7),lz,fun D hD=>?_⟩
   rw [List.length_map,cQ hp]
   have sD:=aH.upd (o:=.lst [.int 0,nV S.inForce,nV S.pending.toNat,nV (Vbcnao.target S),.int (S.retired.length:Nat)]) hD
   refine ⟨_,rfl,_,_,_,_,_,rfl,sD _ _ vO,T.aA,T.cF,aa f7 rfl rfl,_,rfl,⟨_,aM.of (sD _ _ p7)⟩,iK (K:=K) (a:=ρ .ret) (xs:=as.map V.ref) (fun i σ H'=>∃ u1 u2:Option V,σ = [some (.ref (ρ .aF)),some (.ref g),some (.ref (ρ .cf)),some (nV S.pending.toNat),some (.ref D),u1,u2] ∧ aH _ H' ∧
     H' D = some (.lst (([0,(S.inForce:Int),(S.pending.toNat:Int),(Vbcnao.target S:Int),(S.retired.length:Int)] ++ (S.retired.take i).flatMap fun r=>Vbcnao.ints [r.1,r.2]).map V.int)))
    ⟨none,none,rfl,sD,ae⟩ (fun i σ H' _ ⟨_,_,_,s1,_⟩=>aM.of (s1 _ _ p7)) ?_ ?_⟩
   ·rintro i y σ H' sf ⟨u1,u2,rfl,s1,fq⟩
    obtain ⟨a,ha,rfl⟩:=nE sf
    obtain ⟨r,PK,SG⟩:=lY hp ha
    refine ⟨_,_,rfl,j0.of (s1 _ _ SG),rfl,_,_,rfl,_,_,rfl,rfl,?_⟩
    refine ⟨_,rfl,.inl ⟨rfl,_,aM.of fq⟩,_,rfl,_,rfl,lz,fun b hb=>?_⟩
    have sb:=aH.upd (o:=.lst [nV r.1,nV r.2]) hb
    refine ⟨_,_,_,_,rfl,rfl,sb _ _ fq,ae,?_,?_⟩
    ·have hf:=oJ (f:=fun r:Nat × Nat=>Vbcnao.ints [r.1,r.2]) (n:=2) (l:=S.retired.take i) fun y _=>by simp [Vbcnao.ints]
     have ht:(S.retired.take i).length ≤ S.retired.length:=by rw [List.length_take]; exact Nat.min_le_right _ _
     refine small (m:=2000) ?_
     rw [List.length_map,List.length_append]
     simp only [List.length_cons,List.length_nil]
     omega
    ·refine ⟨_,_,rfl,aH.put (aH.lay s1 hb _) hD _,?_⟩
     rw [ae,take_snoc PK,List.flatMap_append]
     simp only [List.map_append,List.append_assoc]
     rfl
   ·rintro σ H' ⟨u1,u2,rfl,s1,fq⟩
    rw [List.length_map,cQ hp,List.take_length] at fq
    exact ⟨_,rfl,Xj cP k ef s1 hD fq⟩
  ·intro rest
   refine ⟨_,rfl,_,_,_,_,_,rfl,vO,T.aA,T.b5,aa eT rfl rfl,_,rfl,?_⟩
   cases akO:S.pending with
   | true =>
    rw [akO] at rest
    exact l7 (rest _ _ ⟨rfl,rfl⟩)
   | false =>
    rw [akO] at rest
    exact uS (rest _ _ ⟨rfl,rfl⟩)
noncomputable def qB (A:bg):Sp:=fun vs H Q _=>∃ (a:Addr) (m:Vbcnao.Msg),vs = [.ref a] ∧ f9 A H a m ∧ ∀ H' D,aH H H' → H D = none → H' D = some (.lst ((Vbcnao.msgShown m).map .int)) → Q (.ref D) H'
theorem OP (T:Txt K mg A):aD P w K mg base aC 1 A.dc A.mW ["message"] (qB A):=by
 refine T.tE.ok AH (fun vs H Q E h=>?_) (fun au R outer s H vs Q E hr h=>?_)
 ·obtain ⟨a,m,rfl,_⟩:=h
  rfl
 ·obtain ⟨a,m,rfl,⟨EN,rv,hg,A6⟩,k⟩:=h
  refine ⟨_,(NV T hr).2,?_⟩
  refine ⟨_,rfl,_,_,_,_,_,rfl,hg,T.aG,T.bG,aa cK rfl rfl,_,rfl,_,_,_,_,_,rfl,hg,T.aG,T.eO,aa jv rfl rfl,_,rfl,_,_,_,_,_,rfl,hg,T.aG,T.dG,aa ji rfl rfl,lz,fun D hD=>?_⟩
  have s1:=aH.upd (o:=.lst [nV (e7 m),nV (mX m),nV (mB m)]) hD
  have MW:=s1 _ _ hg
  refine ⟨_,rfl,_,_,_,_,_,rfl,MW,T.aG,T.bG,aa cK rfl rfl,rfl,_,rfl,?_⟩
  have e3:decide (nV (e7 m) = V.int 3) = decide (e7 m = 3):=kR _ 3
  show if decide (nV (e7 m) = V.int 3) = true then _ else _
  rw [e3]
  refine aZ (fun d=>?_) (fun d=>?_)
  ·have d':=of_decide_eq_true d
   cases m with
   | hello x b=>exact ⟨_,rfl,k _ D s1 hD ae⟩
   | _=>simp [e7] at d'
  have d':e7 m ≠ 3:=fun z=>d (decide_eq_true z)
  refine ⟨_,rfl,.inl ⟨rfl,_,aM.of ae⟩,_,rfl,_,_,_,_,_,rfl,MW,T.aG,T.br,aa ck rfl rfl,_,_,_,rfl,rfl,ae,(by show 3 < sizeLine; decide),?_⟩
  rw [dO]
  have s2:aH H (upd H D (.lst ([nV (e7 m),nV (mX m),nV (mB m)] ++ [nV (mV m)]))):=aH.upd hD
  have hg2:=s2 _ _ hg
  refine ⟨_,rfl,_,_,_,_,_,rfl,hg2,T.aG,T.bG,aa cK rfl rfl,rfl,_,rfl,?_⟩
  have e0:decide (nV (e7 m) = V.int 0) = decide (e7 m = 0):=kR _ 0
  show if decide (nV (e7 m) = V.int 0) = true then _ else _
  rw [e0]
  refine aZ (fun f=>?_) (fun f=>?_)
  ·have f':=of_decide_eq_true f
   cases m with
   | row x b v i t r =>
    refine ⟨_,rfl,.inl ⟨rfl,_,aM.of ae⟩,_,rfl,_,_,_,_,_,rfl,hg2,T.aG,T.gi,aa uR rfl rfl,_,rfl,_,_,_,_,_,rfl,hg2,T.aG,T.ie,aa EA rfl rfl,lz,fun b2 hb2=>?_⟩
    have hbD:D ≠ b2:=ay ae hb2
    refine ⟨_,_,_,_,rfl,rfl,(by rw [ak hbD]; exact ae),ae,(by show 4 + 2 ≤ sizeLine; decide),?_⟩
    have s3:=aH.put (aH.lay s2 hb2 (.lst [nV i,nV t])) hD (.lst ([.int 0,nV x,nV b] ++ [nV v] ++ [nV i,nV t]))
    have hg3:=s3 _ _ hg
    refine ⟨_,rfl,_,_,_,_,_,rfl,hg3,T.aG,T.eZ,aa lQ rfl rfl,rfl,_,rfl,?_⟩
    cases r with
    | none =>
     cases A6
     exact ⟨_,rfl,k _ D s3 hD ae⟩
    | some r =>
     obtain ⟨ar,rfl,hra⟩:=A6
     refine ⟨_,rfl,.inl ⟨rfl,_,aM.of ae⟩,_,rfl,_,_,_,_,_,rfl,hg3,T.aG,T.eZ,aa lQ rfl rfl,_,_,_,_,rfl,rfl,ae,s3 _ _ hra,(by show 6 + 4 ≤ sizeLine; decide),?_⟩
     rw [dO]
     exact ⟨_,rfl,k _ D (aH.put (aH.lay s2 hb2 _) hD _) hD ae⟩
   | _=>simp [e7] at f'
  ·have f':e7 m ≠ 0:=fun z=>f (decide_eq_true z)
   refine ⟨_,rfl,k _ D s2 hD ?_⟩
   cases m with
   | row x b v i t r=>exact absurd rfl f'
   | hello x b=>exact absurd rfl d'
   | _=>exact ae
noncomputable def akS (S:SS) (_:List Int):SS × List Int:=Vbcnao.doing S .bag
theorem aeX (T:Txt K mg A):aD P w K mg base aC 2 A.g7 A.L1 ["world","given"] (fX A akS fun _=>True):=by
 refine T.Ms.ok So (fun vs H Q E h=>?_) (fun au R outer s H vs Q E hr h=>?_)
 ·obtain ⟨ρ,S,ps,g,given,c,rfl,_⟩:=h
  rfl
 ·obtain ⟨ρ,S,ps,g,given,c,rfl,cP,G,hc,hg,ng,hz,pre,k⟩:=h
  have W:=cP.wd
  obtain ⟨dx,hw⟩:=W.aF
  obtain ⟨as,hb,hp⟩:=W.bag
  have hbl:=G.Y4
  have PU:=G.cap
  have ef:akS S given = (S,[0,(S.bag.length:Int)] ++ S.bag.flatMap Vbcnao.msgShown):=rfl
  refine ⟨_,(aeP T hr (OP T)).2,?_⟩
  refine ⟨_,rfl,_,_,_,_,_,rfl,hw,T.aB,T.dF,aa gT rfl rfl,_,_,rfl,.inl (aM.of hb),lz,fun D hD=>?_⟩
  rw [List.length_map,cQ hp]
  have sD:=aH.upd (o:=.lst [.int 0,.int (S.bag.length:Nat)]) hD
  refine ⟨_,rfl,_,_,_,_,_,rfl,sD _ _ hw,T.aB,T.dF,aa gT rfl rfl,_,rfl,⟨_,aM.of (sD _ _ hb)⟩,iK (K:=K) (a:=ρ .bag) (xs:=as.map V.ref) (fun i σ H'=>∃ u1:Option V,σ = [some (.ref (ρ .aF)),some (.ref g),some (.ref D),u1] ∧ aH H H' ∧
    H' D = some (.lst (([0,(S.bag.length:Int)] ++ (S.bag.take i).flatMap Vbcnao.msgShown).map V.int)))
   ⟨none,rfl,sD,ae⟩ (fun i σ H' _ ⟨_,_,s1,_⟩=>aM.of (s1 _ _ hb)) ?_ ?_⟩
  ·rintro i y σ H' sf ⟨u1,rfl,s1,fq⟩
   obtain ⟨a,ha,rfl⟩:=nE sf
   obtain ⟨m,We,hm2⟩:=lY hp ha
   refine ⟨_,rfl,.inl ⟨rfl,_,aM.of fq⟩,_,rfl,a,m,rfl,hm2.mono (.of_same s1),fun H2 b s2 nb hb2=>?_⟩
   refine ⟨_,_,_,_,rfl,rfl,s2 _ _ fq,hb2,?_,?_⟩
   ·have hf:=oJ (f:=Vbcnao.msgShown) (n:=10) (l:=S.bag.take i) fun y _=>Yh y
    have ht:(S.bag.take i).length ≤ S.bag.length:=by rw [List.length_take]; exact Nat.min_le_right _ _
    have hml:=Yh m
    refine small (m:=50000) ?_
    rw [List.length_map,List.length_append,List.length_map]
    simp only [List.length_cons,List.length_nil]
    omega
   ·refine ⟨_,rfl,aH.put (s1.trans s2) hD _,?_⟩
    rw [ae,take_snoc We,List.flatMap_append]
    simp only [List.map_append,List.append_assoc,List.flatMap_cons,List.flatMap_nil,List.append_nil]
  ·rintro σ H' ⟨u1,rfl,s1,fq⟩
   rw [List.length_map,cQ hp,List.take_length] at fq
   exact ⟨_,rfl,Xj cP k ef s1 hD fq⟩
noncomputable def ZS (S:SS) (_:List Int):SS × List Int:=Vbcnao.doing S .packets
theorem VI (T:Txt K mg A):aD P w K mg base aC 1 A.dW A.zM ["world","given"] (fX A ZS fun _=>True):=by
 refine T.Ae.ok FY (fun vs H Q E h=>?_) (fun au R outer s H vs Q E hr h=>?_)
 ·obtain ⟨ρ,S,ps,g,given,c,rfl,_⟩:=h
  rfl
 ·obtain ⟨ρ,S,ps,g,given,c,rfl,cP,G,hc,hg,ng,hz,pre,k⟩:=h
  have W:=cP.wd
  have pk:=cP.pk
  obtain ⟨dx,hw⟩:=W.aF
  have C4:=G.pkl
  have akN:=G.room
  have ef:ZS S given = (S,[0,(S.packets.length:Int)] ++ S.packets.flatMap fun p=>Vbcnao.ints [p.key,p.done,p.stamp,p.born,p.route.length] ++ Vbcnao.ints p.route):=rfl
  refine ⟨_,(U7 T hr).2,?_⟩
  refine ⟨_,rfl,_,_,_,_,_,rfl,hw,T.aB,T.cT,aa gq rfl rfl,_,_,rfl,.inl (aM.of pk.lst),lz,fun D hD=>?_⟩
  rw [List.length_map,cQ pk.at_]
  have sD:=aH.upd (o:=.lst [.int 0,.int (S.packets.length:Nat)]) hD
  refine ⟨_,rfl,_,_,_,_,_,rfl,sD _ _ hw,T.aB,T.cT,aa gq rfl rfl,_,rfl,⟨_,aM.of (sD _ _ pk.lst)⟩,iK (K:=K) (a:=ρ .eX) (xs:=ps.map fun q=>V.ref q.1) (fun i σ H'=>∃ u1:Option V,σ = [some (.ref (ρ .aF)),some (.ref g),some (.ref D),u1] ∧ aH H H' ∧
    H' D = some (.lst (([0,(S.packets.length:Int)] ++ (S.packets.take i).flatMap fun p=>Vbcnao.ints [p.key,p.done,p.stamp,p.born,p.route.length] ++ Vbcnao.ints p.route).map V.int)))
   ⟨none,rfl,sD,ae⟩ (fun i σ H' _ ⟨_,_,s1,_⟩=>aM.of (s1 _ _ pk.lst)) ?_ ?_⟩
  ·rintro i y σ H' sf ⟨u1,rfl,s1,fq⟩
   obtain ⟨q,hq,rfl⟩:=nE (f:=fun q:Addr × Addr=>V.ref q.1) sf
   obtain ⟨p,JT,lR⟩:=lY pk.at_ hq
   obtain ⟨Qa,hk⟩:=lR.ins
   have SJ:=s1 _ _ hk
   have Um:=s1 _ _ lR.rt
   have gp:=G.pk p (List.mem_of_getElem? JT)
   have hlen:(([0,(S.packets.length:Int)] ++ (S.packets.take i).flatMap fun p=>Vbcnao.ints [p.key,p.done,p.stamp,p.born,p.route.length] ++ Vbcnao.ints p.route).map V.int).length ≤ 4000:=by
    have hf:=oJ (f:=fun p:Vbcnao.Packet=>Vbcnao.ints [p.key,p.done,p.stamp,p.born,p.route.length] ++ Vbcnao.ints p.route) (n:=13) (l:=S.packets.take i) fun y hy=>by
     have:=(G.pk y (List.mem_of_mem_take hy)).len
     simp [Vbcnao.ints]
     omega
    have ht:(S.packets.take i).length ≤ S.packets.length:=by rw [List.length_take]; exact Nat.min_le_right _ _
    rw [List.length_map,List.length_append]
    simp only [List.length_cons,List.length_nil]
    omega
   refine ⟨_,rfl,.inl ⟨rfl,_,aM.of fq⟩,_,rfl,_,_,_,_,_,rfl,SJ,T.dP,T.jV,aa MT rfl rfl,_,rfl,_,_,_,_,_,rfl,SJ,T.dP,T.fh,aa kI rfl rfl,_,rfl,_,_,_,_,_,rfl,SJ,T.dP,T.gJ,aa xh rfl rfl,_,rfl,_,_,_,_,_,rfl,SJ,T.dP,T.jf,aa JR rfl rfl,_,rfl,_,_,_,_,_,rfl,SJ,T.dP,T.fW,aa qm rfl rfl,_,_,rfl,.inl (aM.of Um),lz,fun b hb=>?_⟩
   rw [List.length_map]
   have sb:=aH.upd (o:=.lst [nV p.key,nV p.done,nV p.stamp,nV p.born,.int (p.route.length:Nat)]) hb
   refine ⟨_,_,_,_,rfl,rfl,sb _ _ fq,ae,small (m:=5000) (by show _ + 5 ≤ 5000; omega),?_⟩
   have s2:=aH.put (aH.lay s1 hb (.lst [nV p.key,nV p.done,nV p.stamp,nV p.born,.int (p.route.length:Nat)])) hD (.lst (([0,(S.packets.length:Int)] ++ (S.packets.take i).flatMap fun p=>Vbcnao.ints [p.key,p.done,p.stamp,p.born,p.route.length] ++ Vbcnao.ints p.route).map V.int ++ [nV p.key,nV p.done,nV p.stamp,nV p.born,.int (p.route.length:Nat)]))
   refine ⟨_,rfl,.inl ⟨rfl,_,aM.of ae⟩,_,rfl,_,_,_,_,_,rfl,s2 _ _ hk,T.dP,T.fW,aa qm rfl rfl,_,_,_,_,rfl,rfl,ae,s2 _ _ lR.rt,small (m:=5000) (by rw [List.length_append,List.length_map (f:=nV)]; show _ + 5 + _ ≤ 5000; have:=gp.len; omega),?_⟩
   rw [dO]
   refine ⟨_,rfl,aH.put (aH.lay s1 hb _) hD _,?_⟩
   rw [ae,take_snoc JT,List.flatMap_append]
   simp only [List.map_append,List.append_assoc,List.flatMap_cons,List.flatMap_nil,List.append_nil]
   have er:p.route.map nV = (Vbcnao.ints p.route).map V.int:=by
    unfold Vbcnao.ints
    rw [List.map_map]
    rfl
   rw [er]
   rfl
  ·rintro σ H' ⟨u1,rfl,s1,fq⟩
   rw [List.length_map,cQ pk.at_,List.take_length] at fq
   exact ⟨_,rfl,Xj cP k ef s1 hD fq⟩
noncomputable def adT (S:SS) (_:List Int):SS × List Int:=Vbcnao.doing S .counts
theorem XR (T:Txt K mg A):aD P w K mg base aC 1 A.eL A.Cg ["world","given"] (fX A adT fun _=>True):=by
 refine T.CN.ok IX (fun vs H Q E h=>?_) (fun au R outer s H vs Q E hr h=>?_)
 ·obtain ⟨ρ,S,ps,g,given,c,rfl,_⟩:=h
  rfl
 ·obtain ⟨ρ,S,ps,g,given,c,rfl,cP,G,hc,hg,ng,hz,pre,k⟩:=h
  have W:=cP.wd
  obtain ⟨dx,hw⟩:=W.aF
  have ef:adT S given = (S,[0,(S.now:Int),(S.lost:Int)] ++ Vbcnao.ints S.counts):=rfl
  have xq:=W.cnt
  refine ⟨_,(Xc T hr).2,?_⟩
  refine ⟨_,rfl,_,_,_,_,_,rfl,hw,T.aB,T.fz,aa ju rfl rfl,_,rfl,_,_,_,_,_,rfl,hw,T.aB,T.jS,aa B4 rfl rfl,_,rfl,_,_,_,_,_,rfl,hw,T.aB,T.hU,aa uQ rfl rfl,_,rfl,_,_,_,_,_,rfl,hw,T.aB,T.gg,aa qV rfl rfl,lz,fun D hD=>?_⟩
  have sD:=aH.upd (o:=.lst [.int 0,nV S.now,nV S.lost,nV (S.counts.getD 0 0),nV (S.counts.getD 1 0)]) hD
  refine ⟨_,rfl,_,_,_,_,_,rfl,sD _ _ hw,T.aB,T.di,aa j3 rfl rfl,_,_,[1,2,3,4],rfl,sD _ _ xq,rfl,fun se l h1 h2 hl=>?_⟩
  have e':se = [1,2,3,4]:=ab3 h1 h2 (by decide)
  subst e'
  have Wg:D ≠ l:=ay ae hl
  have s0:=aH.lay sD hl (.lst ([1,2,3,4].map V.int))
  refine ⟨_,rfl,⟨_,aM.of ae⟩,iK (K:=K) (a:=l) (xs:=([1,2,3,4]:List Int).map V.int) (fun i σ H'=>∃ u1:Option V,σ = [some (.ref (ρ .aF)),some (.ref g),some (.ref D),u1] ∧ aH H H' ∧ H' l = some (.lst ([1,2,3,4].map V.int)) ∧
    H' D = some (.lst ([.int 0,nV S.now,nV S.lost,nV (S.counts.getD 0 0),nV (S.counts.getD 1 0)] ++ [nV (S.counts.getD 2 0),nV (S.counts.getD 3 0),nV (S.counts.getD 4 0),nV (S.counts.getD 5 0)].take i)))
   ⟨none,rfl,s0,ae,by rw [ak Wg]; exact ae⟩ (fun i σ H' _ ⟨_,_,_,e,_⟩=>aM.of e) ?_ ?_⟩
  ·rintro i y σ H' sf ⟨u1,rfl,s1,hl1,fq⟩
   obtain ⟨n,hn1,hn4,ey,en⟩:∃ n:Nat,1 ≤ n ∧ n ≤ 4 ∧ y = V.int (n:Int) ∧ n = i + 1:=by
    match i,sf with
    | 0,h=>exact ⟨1,by decide,by decide,(Option.some.inj h).symm,rfl⟩
    | 1,h=>exact ⟨2,by decide,by decide,(Option.some.inj h).symm,rfl⟩
    | 2,h=>exact ⟨3,by decide,by decide,(Option.some.inj h).symm,rfl⟩
    | 3,h=>exact ⟨4,by decide,by decide,(Option.some.inj h).symm,rfl⟩
    | i + 4,h=>simp at h
   subst ey
   have hgt:([nV (S.counts.getD 2 0),nV (S.counts.getD 3 0),nV (S.counts.getD 4 0),nV (S.counts.getD 5 0)]:List V)[i]? = some (nV (S.counts.getD (n + 1) 0)):=by
    subst en
    match i,hn4 with
    | 0,_=>rfl
    | 1,_=>rfl
    | 2,_=>rfl
    | 3,_=>rfl
   refine ⟨_,rfl,.inl ⟨rfl,_,aM.of fq⟩,_,rfl,_,_,_,_,_,rfl,s1 _ _ hw,T.aB,T.di,aa j3 rfl rfl,_,rfl,_,_,rfl,(by have:=jn.k (k:=Sum.inl (n:Int)) (s1 _ _ xq); rw [YS G.cnt hn1 hn4] at this; exact this),_,_,_,rfl,rfl,fq,?_,?_⟩
   ·refine Nat.lt_of_le_of_lt (m:=9) ?_ (by decide)
    rw [List.length_append,List.length_take]
    have:=Nat.min_le_right i ([nV (S.counts.getD 2 0),nV (S.counts.getD 3 0),nV (S.counts.getD 4 0),nV (S.counts.getD 5 0)]:List V).length
    simp only [List.length_cons,List.length_nil] at this ⊢
    omega
   ·refine ⟨_,rfl,aH.put s1 hD _,?_,?_⟩
    ·rw [ak (Ne.symm Wg)]
     exact hl1
    ·rw [ae,take_snoc hgt,List.append_assoc]
  ·rintro σ H' ⟨u1,rfl,s1,hl1,fq⟩
   refine ⟨_,rfl,Xj cP k ef s1 hD ?_⟩
   rw [fq]
   obtain ⟨a,b,c,d,e,f,Wl⟩:=six G.cnt
   rw [Wl]
   rfl
end
end Pt
namespace Pt
open PySem PySem.Spec PyProof.Rows L2
structure FF (A:bg) (H0 H:Hp) (n:Nat) (μ:Nat → Addr × Addr × Addr):Prop where
 at_:∀ i,i < n → ∃ dx,H (μ i).1 = some (.ins A.bZ dx (qP.zip [.ref (μ i).2.1,.int 0,.ref (μ i).2.2])) ∧ H (μ i).2.1 = some (.dK []) ∧ H (μ i).2.2 = some (.dK [])
 new:∀ i,i < n → H0 (μ i).1 = none ∧ H0 (μ i).2.1 = none ∧ H0 (μ i).2.2 = none
 i1:∀ i j,i < n → j < n → (μ i).1 = (μ j).1 → i = j
 i2:∀ i j,i < n → j < n → (μ i).2.1 = (μ j).2.1 → i = j
 i3:∀ i j,i < n → j < n → (μ i).2.2 = (μ j).2.2 → i = j
 i4:∀ i j,i < n → j < n → (μ i).2.1 ≠ (μ j).2.2
theorem FF.keep {A:bg} {H0 H H':Hp} {n:Nat} {μ:Nat → Addr × Addr × Addr} (M:FF A H0 H n μ) (h:∀ i,i < n → ∀ b,b = (μ i).1 ∨ b = (μ i).2.1 ∨ b = (μ i).2.2 → ∀ o,H b = some o → H' b = some o):FF A H0 H' n μ :=
 ⟨fun i hi=>let ⟨dx,a,b,c⟩:=M.at_ i hi; ⟨dx,h i hi _ (.inl rfl) _ a,h i hi _ (.inr (.inl rfl)) _ b,h i hi _ (.inr (.inr rfl)) _ c⟩,M.new,M.i1,M.i2,M.i3,M.i4⟩
theorem FF.snoc {A:bg} {H0 H H':Hp} {n:Nat} {μ:Nat → Addr × Addr × Addr} (M:FF A H0 H n μ) (s0:aH H0 H) (s:aH H H') {px dx hv gn:Addr} (n1:H px = none) (n2:H hv = none) (n3:H gn = none) (n4:hv ≠ gn)
  (h1:H' px = some (.ins A.bZ dx (qP.zip [.ref hv,.int 0,.ref gn]))) (h2:H' hv = some (.dK [])) (h3:H' gn = some (.dK [])):FF A H0 H' (n + 1) (fun i=>if i = n then (px,hv,gn) else μ i):=by
 have e0:(if n = n then (px,hv,gn) else μ n) = (px,hv,gn):=if_pos rfl
 have e1:∀ i,i < n → (if i = n then (px,hv,gn) else μ i) = μ i:=fun i hi=>if_neg (by omega)
 have sp:∀ i,i < n + 1 → i < n ∨ i = n:=fun i hi=>by omega
 have x1:∀ i,i < n → (μ i).1 ≠ px:=fun i hi=>let ⟨_,a,_,_⟩:=M.at_ i hi; ay a n1
 have x2:∀ i,i < n → (μ i).2.1 ≠ hv ∧ (μ i).2.1 ≠ gn:=fun i hi=>let ⟨_,_,a,_⟩:=M.at_ i hi; ⟨ay a n2,ay a n3⟩
 have x3:∀ i,i < n → (μ i).2.2 ≠ hv ∧ (μ i).2.2 ≠ gn:=fun i hi=>let ⟨_,_,_,a⟩:=M.at_ i hi; ⟨ay a n2,ay a n3⟩
 refine ⟨fun i hi=>?_,fun i hi=>?_,fun i j hi hj e=>?_,fun i j hi hj e=>?_,fun i j hi hj e=>?_,fun i j hi hj e=>?_⟩
 ·rcases sp i hi with h | rfl
  ·rw [e1 i h]
   obtain ⟨g9,a,b,c⟩:=M.at_ i h
   exact ⟨g9,s _ _ a,s _ _ b,s _ _ c⟩
  ·rw [e0]
   exact ⟨dx,h1,h2,h3⟩
 ·rcases sp i hi with h | rfl
  ·rw [e1 i h]
   exact M.new i h
  ·rw [e0]
   exact ⟨s0.free n1,s0.free n2,s0.free n3⟩
 ·rcases sp i hi with h | rfl <;> rcases sp j hj with h' | rfl
  ·rw [e1 i h,e1 j h'] at e
   exact M.i1 i j h h' e
  ·rw [e1 i h,e0] at e
   exact absurd e (x1 i h)
  ·rw [e1 j h',e0] at e
   exact absurd e.symm (x1 j h')
  ·rfl
 ·rcases sp i hi with h | rfl <;> rcases sp j hj with h' | rfl
  ·rw [e1 i h,e1 j h'] at e
   exact M.i2 i j h h' e
  ·rw [e1 i h,e0] at e
   exact absurd e (x2 i h).1
  ·rw [e1 j h',e0] at e
   exact absurd e.symm (x2 j h').1
  ·rfl
 ·rcases sp i hi with h | rfl <;> rcases sp j hj with h' | rfl
  ·rw [e1 i h,e1 j h'] at e
   exact M.i3 i j h h' e
  ·rw [e1 i h,e0] at e
   exact absurd e (x3 i h).2
  ·rw [e1 j h',e0] at e
   exact absurd e.symm (x3 j h').2
  ·rfl
 ·rcases sp i hi with h | rfl <;> rcases sp j hj with h' | rfl
  ·rw [e1 i h,e1 j h'] at e
   exact M.i4 i j h h' e
  ·rw [e1 i h,e0] at e
   exact (x2 i h).2 e
  ·rw [e1 j h',e0] at e
   exact (x3 j h').1 e.symm
  ·rw [e0] at e
   exact n4 e
section
variable {P:Program} {w:World} {K:W.Frag} {mg:Str → Option Value} {base:Heap} {A:bg}
noncomputable def iG (A:bg):Sp:=fun vs H Q _=>∃ (p dx st:Addr) (fs:List (Str × V)) (xs:List V),vs = [.ref p] ∧ H p = some (.ins A.aE dx fs) ∧ fs.length ≤ 100 ∧ fs.lookup ("starts":Str) = some (.ref st) ∧ H st = some (.lst xs) ∧ xs.length ≤ 16 ∧
 ∀ H' l μ,H' p = some (.ins A.aE dx (bz "memories" (.ref l) fs)) → H l = none → H' l = some (.lst ((List.range xs.length).map fun i=>.ref (μ i).1)) → FF A H H' xs.length μ → (∀ b o,H b = some o → b ≠ p → H' b = some o) → Q .bL H'
theorem wJ (T:Txt K mg A):aD P w K mg base aC 3 A.cz A.i6 ["self"] (iG A):=by
 refine T.yV.ok wu (fun vs H Q E h=>?_) (fun au R outer s H vs Q E hr h=>?_)
 ·obtain ⟨p,dx,st,fs,xs,rfl,_⟩:=h
  rfl
 ·obtain ⟨p,dx,st,fs,xs,rfl,hp,hfl,hlk,pA,aj6,k⟩:=h
  refine ⟨_,(K3 T hr (Ju T)).2,?_⟩
  refine ⟨_,rfl,_,_,_,_,_,rfl,hp,T.aA,T.bY,hlk,_,rfl,⟨_,aM.of pA⟩,fun D hD=>?_⟩
  refine Yk (K:=K) (a:=st) (xs:=xs) (fun i H'=>aH H H' ∧ ∃ μ,H' D = some (.lst ((List.range i).map fun i=>.ref (μ i).1)) ∧ FF A H H' i μ) ?_ (fun i H' _ h=>aM.of (h.1 _ _ pA)) ?_ ?_
  ·exact ⟨aH.upd hD,fun _=>(0,0,0),ae,fun _ h=>absurd h (Nat.not_lt_zero _),fun _ h=>absurd h (Nat.not_lt_zero _),fun _ _ h=>absurd h (Nat.not_lt_zero _),fun _ _ h=>absurd h (Nat.not_lt_zero _),fun _ _ h=>absurd h (Nat.not_lt_zero _),fun _ _ h=>absurd h (Nat.not_lt_zero _)⟩
  ·rintro i x H' hi ⟨s1,μ,fq,M⟩
   have sf:i < xs.length:=(List.getElem?_eq_some_iff.mp hi).1
   refine ⟨rfl,fun px sj qh wN nep=>⟨px,sj,rfl,ae,fun hv gn H2 n2 n3 n4 h1 h2 h3 h4=>⟨rfl,?_⟩⟩⟩
   have nn:∀ z,upd (upd H' sj (.own px)) px (.ins A.bZ sj []) z = none → H' z = none:=fun z hz=>by
    by_cases z1:z = px
    ·rw [z1]
     exact qh
    ·by_cases z2:z = sj
     ·rw [z2]
      exact wN
     ·rw [ak z1,ak z2] at hz
      exact hz
   have s2:aH H' H2:=fun q o eo=>by
    rw [h4 q (ay eo qh) (ay eo (nn _ n2)) (ay eo (nn _ n3)),ak (ay eo qh),ak (ay eo wN)]
    exact eo
   have M2:=M.snoc s1 s2 qh (nn _ n2) (nn _ n3) n4 h1 h2 h3
   refine ⟨(List.range i).map fun i=>.ref (μ i).1,s2 _ _ fq,?_,?_⟩
   ·rw [List.length_map,List.length_range]
    exact Nat.lt_of_lt_of_le sf (Nat.le_trans aj6 (by decide))
   ·have yG:=s2 _ _ fq
    refine ⟨aH.put (s1.trans s2) hD _,_,?_,M2.keep fun j hj b hb o e=>?_⟩
    ·rw [ae,List.range_succ,List.map_append,List.map_cons,List.map_nil]
     congr 3
     ·refine List.map_congr_left fun j hj=>?_
      have:j ≠ i:=by have:=List.mem_range.mp hj; omega
      show V.ref (μ j).1 = V.ref (if j = i then (px,hv,gn) else μ j).1
      rw [if_neg this]
     ·show [V.ref px] = [V.ref (if i = i then (px,hv,gn) else μ i).1]
      rw [if_pos rfl]
    ·have:b ≠ D:=by
      obtain ⟨dj,a1,a2,a3⟩:=M2.at_ j hj
      rcases hb with rfl | rfl | rfl
      ·exact dN a1 yG (by intro z; cases z)
      ·exact dN a2 yG (by intro z; cases z)
      ·exact dN a3 yG (by intro z; cases z)
     rw [ak this]
     exact e
  ·rintro H' ⟨s1,μ,fq,M⟩
   have hpD:p ≠ D:=ay hp hD
   refine ⟨_,rfl,_,_,_,_,rfl,s1 _ _ hp,T.aA,T.bD,Nat.lt_of_le_of_lt hfl (by decide),?_⟩
   refine k _ D μ ae hD ?_ (M.keep fun j hj b hb o e=>?_) fun b o e n=>?_
   ·rw [ak (Ne.symm hpD)]
    exact fq
   ·have:b ≠ p:=by
     obtain ⟨a1,a2,a3⟩:=M.new j hj
     rcases hb with rfl | rfl | rfl
     ·exact fun z=>by rw [z,hp] at a1; cases a1
     ·exact fun z=>by rw [z,hp] at a2; cases a2
     ·exact fun z=>by rw [z,hp] at a3; cases a3
    rw [ak this]
    exact e
   ·rw [ak n]
    exact s1 b o e
noncomputable def qE (A:bg):Sp:=fun vs H Q _=>∃ (p dx st:Addr) (xs:List V),vs = [.ref p,.ref st] ∧ H p = some (.ins A.aE dx []) ∧ H st = some (.lst xs) ∧ xs.length ≤ 16 ∧
 ∀ H' dg ret l μ,H' p = some (.ins A.aE dx (bI.zip [.ref dg,.int 0,.bl false,.ref ret,.ref st,.ref l])) → H dg = none → H ret = none → H l = none → dg ≠ ret → dg ≠ l → ret ≠ l → H' dg = some (.lst []) → H' ret = some (.lst []) →
  H' l = some (.lst ((List.range xs.length).map fun i=>.ref (μ i).1)) → FF A H H' xs.length μ → (∀ b o,H b = some o → b ≠ p → H' b = some o) → Q .bL H'
theorem OS (T:Txt K mg A):aD P w K mg base aC 4 A.cV A.mY ["self","starts"] (qE A):=by
 refine T.Dp.ok Oc (fun vs H Q E h=>?_) (fun au R outer s H vs Q E hr h=>?_)
 ·obtain ⟨p,dx,st,xs,rfl,_⟩:=h
  rfl
 ·obtain ⟨p,dx,st,xs,rfl,hp,pA,aj6,k⟩:=h
  refine ⟨_,(NW T hr (wJ T)).2,?_⟩
  refine ⟨lz,fun dg Ij=>?_⟩
  have n1:p ≠ dg:=ay hp Ij
  have n1s:st ≠ dg:=ay pA Ij
  refine ⟨_,rfl,_,_,_,_,rfl,(by rw [ak n1]; exact hp),T.aA,T.cR,(cW (Nat.le_refl 0)),?_⟩
  refine ⟨_,rfl,_,_,_,_,rfl,ae,T.aA,T.aV,(cW (lp (Nat.le_refl 0))),?_⟩
  refine ⟨_,rfl,_,_,_,_,rfl,ae,T.aA,T.b5,(cW (lp (lp (Nat.le_refl 0)))),?_⟩
  simp only [dO]
  refine ⟨lz,fun ret p7=>?_⟩
  have n2:p ≠ ret:=ay ae p7
  have ahr:upd H dg (.lst []) ret = none:=by rw [ak (Ne.symm n2)] at p7; exact p7
  have n3:dg ≠ ret:=ay ae ahr
  have ahs:H ret = none:=by rw [ak (Ne.symm n3)] at ahr; exact ahr
  have n2s:st ≠ ret:=ay pA ahs
  have nsp:st ≠ p:=dN pA hp (by intro z; cases z)
  refine ⟨_,rfl,_,_,_,_,rfl,(by rw [ak n2]; exact ae),T.aA,T.cF,(cW (lp (lp (lp (Nat.le_refl 0))))),?_⟩
  refine ⟨_,rfl,_,rfl,_,_,_,_,rfl,ae,T.aA,T.bY,(cW (lp (lp (lp (lp (Nat.le_refl 0)))))),?_⟩
  simp only [dO]
  refine ⟨_,rfl,p,dx,_,rfl,ae,rfl,p,dx,st,_,xs,rfl,ae,?_,rfl,?_,aj6,fun H' l μ h1 h2 h3 M h5=>?_⟩
  ·exact Nat.le_trans (lp (lp (lp (lp (lp (Nat.le_refl 0)))))) (by decide)
  ·rw [ak nsp,ak n2s,ak nsp,ak n1s]
   exact pA
  ·have fwd:∀ b,upd (upd (upd (upd H dg (.lst [])) p (.ins A.aE dx (bz "pending" (.bl false) (bz "in_force" (.int 0) (bz "published" (.ref dg) []))))) ret (.lst [])) p (.ins A.aE dx (bz "starts" (.ref st) (bz "retired" (.ref ret) (bz "pending" (.bl false) (bz "in_force" (.int 0) (bz "published" (.ref dg) [])))))) b = none → H b = none ∧ b ≠ dg ∧ b ≠ ret:=fun b e=>by
    have m1:b ≠ p:=fun z=>by
     rw [z,ae] at e
     cases e
    rw [ak m1] at e
    have m2:b ≠ ret:=fun z=>by
     rw [z,ae] at e
     cases e
    rw [ak m2,ak m1] at e
    have m3:b ≠ dg:=fun z=>by
     rw [z,ae] at e
     cases e
    rw [ak m3] at e
    exact ⟨e,m3,m2⟩
   obtain ⟨f1,f2,f3⟩:=fwd l h2
   refine k H' dg ret l μ h1 Ij ahs f1 n3 (Ne.symm f2) (Ne.symm f3) ?_ ?_ h3 ⟨M.at_,fun i hi=>?_,M.i1,M.i2,M.i3,M.i4⟩ fun b o e m=>?_
   ·refine h5 dg _ ?_ (Ne.symm n1)
    rw [ak (Ne.symm n1),ak n3,ak (Ne.symm n1)]
    exact ae
   ·refine h5 ret _ ?_ (Ne.symm n2)
    rw [ak (Ne.symm n2)]
    exact ae
   ·obtain ⟨a1,a2,a3⟩:=M.new i hi
    exact ⟨(fwd _ a1).1,(fwd _ a2).1,(fwd _ a3).1⟩
   ·exact h5 b o (by
     rw [ak m,ak (ay e ahs),ak m,ak (ay e Ij)]
     exact e) m
end
end Pt
namespace Pt
open PySem PySem.Spec PyProof.Rows L2
section
variable {A:bg} {ρ:Role → Addr} {S:SS} {H H':Hp}
theorem Wd.alS (ne:oq A) (W:Wd A ρ S H) {dx l:Addr} {μ:Nat → Addr × Addr × Addr} (hc:H (ρ .cf) = some (.ins A.aE dx (oT ρ S))) (h1:H' (ρ .cf) = some (.ins A.aE dx (bz "memories" (.ref l) (oT ρ S)))) (h2:H l = none)
  (h3:H' l = some (.lst ((List.range S.known.length).map fun i=>.ref (μ i).1))) (M:FF A H H' S.known.length μ) (h5:∀ b o,H b = some o → b ≠ ρ .cf → H' b = some o) :
  ∃ ρ',dM A ρ S H ρ' { S with known:=S.known.map fun k=>⟨k.boot,[],0,[]⟩ } H':=by
 let ρ':Role → Addr:=fun r=>match r with
  | .eS=>l
  | .mm i=>(μ i).1
  | .hv i=>(μ i).2.1
  | .gn i=>(μ i).2.2
  | r=>ρ r
 let isN:Role → Prop:=fun r=>match r with
  | .eS=>True
  | .mm _=>True
  | .hv _=>True
  | .gn _=>True
  | _=>False
 have rn:∀ r,¬ isN r → ρ' r = ρ r:=fun r hr=>by cases r <;> first | rfl | exact absurd trivial hr
 have kl:(S.known.map fun k=>(⟨k.boot,[],0,[]⟩:Vbcnao.Known)).length = S.known.length:=List.length_map ..
 have lv:∀ r,live { S with known:=S.known.map fun k=>⟨k.boot,[],0,[]⟩ } r ↔ live S r:=fun r=>by
  cases r with
  | mm i =>
   show i < (S.known.map _).length ↔ _
   rw [kl]
   exact Iff.rfl
  | hv i =>
   show i < (S.known.map _).length ↔ _
   rw [kl]
   exact Iff.rfl
  | gn i =>
   show i < (S.known.map _).length ↔ _
   rw [kl]
   exact Iff.rfl
  | _=>exact Iff.rfl
 have kg:∀ i,i < S.known.length → ∃ b,(S.known.map fun k=>(⟨k.boot,[],0,[]⟩:Vbcnao.Known))[i]? = some ⟨b,[],0,[]⟩:=fun i hi=>⟨_,by rw [List.getElem?_map,List.getElem?_eq_getElem hi]; rfl⟩
 have im:uw A H H':=fun a o i e=>h5 a o e fun z=>W.vN ne i e ⟨.cf,trivial,z.symm⟩
 refine ⟨ρ',W.Ul (fun r lr=>?_) (fun r r' l1 l2 z e=>?_) (fun b o e n=>h5 b o e fun z=>n ⟨.cf,trivial,z.symm⟩) rfl rfl rfl⟩
 ·have tQ:=(lv r).mp lr
  by_cases hr:isN r
  ·cases r with
   | eS =>
    refine ⟨.inr h2,_,h3,?_⟩
    show _ = HO.lst (refs ρ' .mm (S.known.map _).length)
    rw [kl]
    rfl
   | mm i =>
    obtain ⟨g9,a1,a2,a3⟩:=M.at_ i tQ
    obtain ⟨b,hb⟩:=kg i tQ
    exact ⟨.inr (M.new i tQ).1,_,a1,_,g9,hb,rfl⟩
   | hv i =>
    obtain ⟨g9,a1,a2,a3⟩:=M.at_ i tQ
    obtain ⟨b,hb⟩:=kg i tQ
    exact ⟨.inr (M.new i tQ).2.1,_,a2,_,[],hb,rfl,.nil⟩
   | gn i =>
    obtain ⟨g9,a1,a2,a3⟩:=M.at_ i tQ
    obtain ⟨b,hb⟩:=kg i tQ
    exact ⟨.inr (M.new i tQ).2.2,_,a3,_,[],hb,rfl,.nil⟩
   | _=>exact hr.elim
  ·obtain ⟨o,e,nP⟩:=W.ob r tQ
   have nP:=nP.mono im
   refine ⟨.inl ⟨tQ,rn r hr⟩,?_⟩
   rw [rn r hr]
   by_cases EF:r = .cf
   ·subst EF
    refine ⟨_,h1,dx,?_⟩
    rw [show bz "memories" (.ref l) (oT ρ S) = _ from gH cJ rfl (by decide)]
    rfl
   ·refine ⟨o,h5 _ _ e fun z=>EF (W.inj r .cf tQ trivial z),?_⟩
    have nP:=aiC (ρ':=ρ') nP fun q hq=>rn q (fun hN=>by
     cases r <;> cases q <;> first | exact EF rfl | exact hr trivial | exact hN.elim | (simp [Names] at hq))
    cases r with
    | j7 =>
     show o = .lst ((S.known.map fun k=>(⟨k.boot,[],0,[]⟩:Vbcnao.Known)).map fun k=>nV k.boot)
     rw [List.map_map]
     exact nP
    | eS=>exact absurd trivial hr
    | mm i=>exact absurd trivial hr
    | hv i=>exact absurd trivial hr
    | gn i=>exact absurd trivial hr
    | _=>exact nP
 ·have V5:=(lv r).mp l1
  have JH:=(lv r').mp l2
  have hr:isN r:=Classical.byContradiction fun q=>W.old V5 (by rw [← rn r q]; exact z)
  have gU:isN r':=Classical.byContradiction fun q=>W.old JH (by rw [← rn r' q,← e]; exact z)
  cases r with
  | eS =>
   cases r' with
   | eS=>rfl
   | mm j =>
    obtain ⟨_,a1,a2,a3⟩:=M.at_ j JH
    exact absurd e (dN h3 a1 (by intro q; cases q))
   | hv j =>
    obtain ⟨_,a1,a2,a3⟩:=M.at_ j JH
    exact absurd e (dN h3 a2 (by intro q; cases q))
   | gn j =>
    obtain ⟨_,a1,a2,a3⟩:=M.at_ j JH
    exact absurd e (dN h3 a3 (by intro q; cases q))
   | _=>exact gU.elim
  | mm i =>
   obtain ⟨_,b1,b2,b3⟩:=M.at_ i V5
   cases r' with
   | eS=>exact absurd e (dN b1 h3 (by intro q; cases q))
   | mm j=>rw [M.i1 i j V5 JH e]
   | hv j =>
    obtain ⟨_,a1,a2,a3⟩:=M.at_ j JH
    exact absurd e (dN b1 a2 (by intro q; cases q))
   | gn j =>
    obtain ⟨_,a1,a2,a3⟩:=M.at_ j JH
    exact absurd e (dN b1 a3 (by intro q; cases q))
   | _=>exact gU.elim
  | hv i =>
   obtain ⟨_,b1,b2,b3⟩:=M.at_ i V5
   cases r' with
   | eS=>exact absurd e (dN b2 h3 (by intro q; cases q))
   | mm j =>
    obtain ⟨_,a1,a2,a3⟩:=M.at_ j JH
    exact absurd e (dN b2 a1 (by intro q; cases q))
   | hv j=>rw [M.i2 i j V5 JH e]
   | gn j=>exact absurd e (M.i4 i j V5 JH)
   | _=>exact gU.elim
  | gn i =>
   obtain ⟨_,b1,b2,b3⟩:=M.at_ i V5
   cases r' with
   | eS=>exact absurd e (dN b3 h3 (by intro q; cases q))
   | mm j =>
    obtain ⟨_,a1,a2,a3⟩:=M.at_ j JH
    exact absurd e (dN b3 a1 (by intro q; cases q))
   | hv j=>exact absurd e.symm (M.i4 j i JH V5)
   | gn j=>rw [M.i3 i j V5 JH e]
   | _=>exact gU.elim
  | _=>exact hr.elim
end
structure Sws (A:bg) (H0 H:Hp) (n:Nat) (σ:Nat → Addr × Addr):Prop where
 at_:∀ i,i < n → ∃ dx,H (σ i).1 = some (.ins A.bK dx (jh.zip [nV (i + 1),.int 0,.int 0,.ref (σ i).2])) ∧ H (σ i).2 = some (.dK [])
 new:∀ i,i < n → H0 (σ i).1 = none ∧ H0 (σ i).2 = none
 i1:∀ i j,i < n → j < n → (σ i).1 = (σ j).1 → i = j
 i2:∀ i j,i < n → j < n → (σ i).2 = (σ j).2 → i = j
theorem Sws.keep {A:bg} {H0 H H':Hp} {n:Nat} {σ:Nat → Addr × Addr} (M:Sws A H0 H n σ) (h:∀ i,i < n → ∀ b,b = (σ i).1 ∨ b = (σ i).2 → ∀ o,H b = some o → H' b = some o):Sws A H0 H' n σ :=
 ⟨fun i hi=>let ⟨dx,a,b⟩:=M.at_ i hi; ⟨dx,h i hi _ (.inl rfl) _ a,h i hi _ (.inr rfl) _ b⟩,M.new,M.i1,M.i2⟩
theorem Sws.snoc {A:bg} {H0 H H':Hp} {n:Nat} {σ:Nat → Addr × Addr} (M:Sws A H0 H n σ) (s0:aH H0 H) (s:aH H H') {px dx pd:Addr} (n1:H px = none) (n2:H pd = none)
  (h1:H' px = some (.ins A.bK dx (jh.zip [nV (n + 1),.int 0,.int 0,.ref pd]))) (h2:H' pd = some (.dK [])):Sws A H0 H' (n + 1) (fun i=>if i = n then (px,pd) else σ i):=by
 have e0:(if n = n then (px,pd) else σ n) = (px,pd):=if_pos rfl
 have e1:∀ i,i < n → (if i = n then (px,pd) else σ i) = σ i:=fun i hi=>if_neg (by omega)
 have sp:∀ i,i < n + 1 → i < n ∨ i = n:=fun i hi=>by omega
 have x1:∀ i,i < n → (σ i).1 ≠ px:=fun i hi=>let ⟨_,a,_⟩:=M.at_ i hi; ay a n1
 have x2:∀ i,i < n → (σ i).2 ≠ pd:=fun i hi=>let ⟨_,_,a⟩:=M.at_ i hi; ay a n2
 refine ⟨fun i hi=>?_,fun i hi=>?_,fun i j hi hj e=>?_,fun i j hi hj e=>?_⟩
 ·rcases sp i hi with h | rfl
  ·rw [e1 i h]
   obtain ⟨g9,a,b⟩:=M.at_ i h
   exact ⟨g9,s _ _ a,s _ _ b⟩
  ·rw [e0]
   exact ⟨dx,h1,h2⟩
 ·rcases sp i hi with h | rfl
  ·rw [e1 i h]
   exact M.new i h
  ·rw [e0]
   exact ⟨s0.free n1,s0.free n2⟩
 ·rcases sp i hi with h | rfl <;> rcases sp j hj with h' | rfl
  ·rw [e1 i h,e1 j h'] at e
   exact M.i1 i j h h' e
  ·rw [e1 i h,e0] at e
   exact absurd e (x1 i h)
  ·rw [e1 j h',e0] at e
   exact absurd e.symm (x1 j h')
  ·rfl
 ·rcases sp i hi with h | rfl <;> rcases sp j hj with h' | rfl
  ·rw [e1 i h,e1 j h'] at e
   exact M.i2 i j h h' e
  ·rw [e1 i h,e0] at e
   exact absurd e (x2 i h)
  ·rw [e1 j h',e0] at e
   exact absurd e.symm (x2 j h')
  ·rfl
noncomputable def e9 (n cap life room:Nat):SS:={ on:=true,cap:=cap,life:=life,room:=room,book:=n,switches:=(List.range n).map fun i=>⟨i + 1,0,0,[]⟩,known:=(List.range n).map fun i=>⟨i + 1,[],0,[]⟩,counts:=List.replicate 6 0 }
noncomputable def ape:HO → Nat × Addr
 | .ins C _ _=>(0,C)
 | .lst _=>(1,0)
 | .dK _=>(2,0)
 | _=>(3,0)
noncomputable def ab0 (A:bg):Role → Nat × Addr
 | .aF=>(0,A.aN)
 | .cf=>(0,A.aE)
 | .sw _=>(0,A.bK)
 | .pt _ _=>(0,A.c5)
 | .mm _=>(0,A.bZ)
 | .pd _=>(2,0)
 | .cm _ _=>(2,0)
 | .hv _=>(2,0)
 | .gn _=>(2,0)
 | .cnt=>(2,0)
 | _=>(1,0)
theorem aiB {A:bg} {ρ:Role → Addr} {S:SS} {H:Hp} {r:Role} {o:HO} (h:Ob A ρ S H r o):ape o = ab0 A r:=by
 cases r with
 | aF=>obtain ⟨_,rfl⟩:=h; rfl
 | cf=>obtain ⟨_,rfl⟩:=h; rfl
 | iC=>cases h; rfl
 | eS=>cases h; rfl
 | dg=>cases h; rfl
 | j7=>cases h; rfl
 | cnt=>cases h; rfl
 | eX=>exact h.elim
 | bag=>obtain ⟨_,rfl,_⟩:=h; rfl
 | ret=>obtain ⟨_,rfl,_⟩:=h; rfl
 | pu i=>obtain ⟨_,_,_,rfl,_⟩:=h; rfl
 | sw i=>obtain ⟨_,_,_,rfl⟩:=h; rfl
 | pd i=>obtain ⟨_,_,_,rfl,_⟩:=h; rfl
 | pt i v=>obtain ⟨_,_,_,_,_,rfl⟩:=h; rfl
 | cm i v=>obtain ⟨_,_,_,_,_,rfl,_⟩:=h; rfl
 | mm i=>obtain ⟨_,_,_,rfl⟩:=h; rfl
 | hv i=>obtain ⟨_,_,_,rfl,_⟩:=h; rfl
 | gn i=>obtain ⟨_,_,_,rfl,_⟩:=h; rfl
theorem ajb {K:W.Frag} {mg:Str → Option Value} {A:bg} (T:Txt K mg A) {p c AD Mu dg ret V3 bag cnt eX:Addr} {sg:Nat → Addr × Addr} {mu:Nat → Addr × Addr × Addr} {n cap life room:Nat} {H0 H1 H:Hp}
  (hp:∃ dx,H p = some (.ins A.aN dx (eF.zip [nV cap,nV life,nV room,nV n,.int 0,.ref AD,.ref c,.ref bag,.int 0,.ref eX,.int 0,.int 0,.ref cnt])))
  (hc:∃ dx,H c = some (.ins A.aE dx (bI.zip [.ref dg,.int 0,.bl false,.ref ret,.ref Mu,.ref V3])))
  (hsw:H AD = some (.lst ((List.range n).map fun i=>.ref (sg i).1))) (pA:H Mu = some (.lst ((List.range n).map fun i=>nV (i + 1)))) (Ij:H dg = some (.lst [])) (p7:H ret = some (.lst [])) (Gp:H V3 = some (.lst ((List.range n).map fun i=>.ref (mu i).1)))
  (YC:H bag = some (.lst [])) (xq:H cnt = some (.dK [(Sum.inl 1,.int 0),(Sum.inl 2,.int 0),(Sum.inl 3,.int 0),(Sum.inl 4,.int 0)])) (Sw:Sws A H0 H n sg) (M:FF A H1 H n mu)
  (hl:[AD,Mu,dg,ret,V3,bag].Nodup) (d1:∀ i,i < n → cnt ≠ (sg i).2) (d2:∀ i,i < n → cnt ≠ (mu i).2.1 ∧ cnt ≠ (mu i).2.2) (d3:∀ i j,i < n → j < n → (sg i).2 ≠ (mu j).2.1 ∧ (sg i).2 ≠ (mu j).2.2) :
  ∃ ρ:Role → Addr,ρ .aF = p ∧ ρ .eX = eX ∧ Wd A ρ (e9 n cap life room) H ∧ ∀ b,Own ρ (e9 n cap life room) b → b ∈ [p,c,AD,Mu,dg,ret,V3,bag,cnt] ∨ ∃ i,i < n ∧ (b = (sg i).1 ∨ b = (sg i).2 ∨ b = (mu i).1 ∨ b = (mu i).2.1 ∨ b = (mu i).2.2):=by
 let ρ:Role → Addr:=fun r=>match r with
  | .aF=>p
  | .cf=>c
  | .iC=>AD
  | .bag=>bag
  | .eX=>eX
  | .cnt=>cnt
  | .dg=>dg
  | .ret=>ret
  | .j7=>Mu
  | .eS=>V3
  | .sw i=>(sg i).1
  | .pd i=>(sg i).2
  | .mm i=>(mu i).1
  | .hv i=>(mu i).2.1
  | .gn i=>(mu i).2.2
  | _=>0
 have ls:(e9 n cap life room).switches.length = n:=by show ((List.range n).map _).length = n; rw [List.length_map,List.length_range]
 have lk:(e9 n cap life room).known.length = n:=by show ((List.range n).map _).length = n; rw [List.length_map,List.length_range]
 have gs:∀ i,i < n → (e9 n cap life room).switches[i]? = some ⟨i + 1,0,0,[]⟩:=fun i hi=>by
  show ((List.range n).map _)[i]? = _
  rw [List.getElem?_map,List.getElem?_range hi]
  rfl
 have gk:∀ i,i < n → (e9 n cap life room).known[i]? = some ⟨i + 1,[],0,[]⟩:=fun i hi=>by
  show ((List.range n).map _)[i]? = _
  rw [List.getElem?_map,List.getElem?_range hi]
  rfl
 have HB:∀ i v,¬ live (e9 n cap life room) (.pt i v):=fun i v ⟨w',h,a1,a2⟩=>by
  have hi:i < n:=by rw [← ls]; exact (List.getElem?_eq_some_iff.mp a1).1
  rw [gs i hi] at a1
  cases a1
  cases a2
 have HC:∀ i v,¬ live (e9 n cap life room) (.cm i v):=fun i v ⟨w',h,a1,a2⟩=>by
  have hi:i < n:=by rw [← ls]; exact (List.getElem?_eq_some_iff.mp a1).1
  rw [gs i hi] at a1
  cases a1
  cases a2
 have ahe:∀ i,¬ live (e9 n cap life room) (.pu i):=fun i h=>absurd h (Nat.not_lt_zero _)
 have ob:∀ r,live (e9 n cap life room) r → ∃ o,H (ρ r) = some o ∧ Ob A ρ (e9 n cap life room) H r o:=fun r l=>by
  cases r with
  | aF=>obtain ⟨dx,h⟩:=hp; exact ⟨_,h,dx,rfl⟩
  | cf=>obtain ⟨dx,h⟩:=hc; exact ⟨_,h,dx,rfl⟩
  | iC =>
   refine ⟨_,hsw,?_⟩
   show _ = HO.lst (refs ρ .sw (e9 n cap life room).switches.length)
   rw [ls]
   rfl
  | bag=>exact ⟨_,YC,[],rfl,.nil⟩
  | eX=>exact l.elim
  | cnt=>exact ⟨_,xq,rfl⟩
  | dg=>exact ⟨_,Ij,rfl⟩
  | ret=>exact ⟨_,p7,[],rfl,.nil⟩
  | j7 =>
   refine ⟨_,pA,?_⟩
   show _ = HO.lst (((List.range n).map fun i=>(⟨i + 1,[],0,[]⟩:Vbcnao.Known)).map fun k=>nV k.boot)
   rw [List.map_map]
   rfl
  | eS =>
   refine ⟨_,Gp,?_⟩
   show _ = HO.lst (refs ρ .mm (e9 n cap life room).known.length)
   rw [lk]
   rfl
  | sw i =>
   have hi:i < n:=by rw [← ls]; exact l
   obtain ⟨dx,a1,a2⟩:=Sw.at_ i hi
   exact ⟨_,a1,_,dx,gs i hi,rfl⟩
  | pd i =>
   have hi:i < n:=by rw [← ls]; exact l
   obtain ⟨dx,a1,a2⟩:=Sw.at_ i hi
   exact ⟨_,a2,_,[],gs i hi,rfl,.nil⟩
  | pt i v=>exact absurd l (HB i v)
  | cm i v=>exact absurd l (HC i v)
  | mm i =>
   have hi:i < n:=by rw [← lk]; exact l
   obtain ⟨dx,a1,a2,a3⟩:=M.at_ i hi
   exact ⟨_,a1,_,dx,gk i hi,rfl⟩
  | hv i =>
   have hi:i < n:=by rw [← lk]; exact l
   obtain ⟨dx,a1,a2,a3⟩:=M.at_ i hi
   exact ⟨_,a2,_,[],gk i hi,rfl,.nil⟩
  | gn i =>
   have hi:i < n:=by rw [← lk]; exact l
   obtain ⟨dx,a1,a2,a3⟩:=M.at_ i hi
   exact ⟨_,a3,_,[],gk i hi,rfl,.nil⟩
  | pu i=>exact absurd l (ahe i)
 have nc:=T.wM
 simp only [List.nodup_cons,List.mem_cons,not_or,List.not_mem_nil,not_false_eq_true,or_false,List.nodup_nil,and_true] at nc hl
 refine ⟨ρ,rfl,rfl,⟨fun r r' l l' e=>?_,ob⟩,fun b ⟨r,l,e⟩=>?_⟩
 ·have ht:ab0 A r = ab0 A r':=by
   obtain ⟨o,e1,h1⟩:=ob r l
   obtain ⟨o',e2,h2⟩:=ob r' l'
   rw [e,e2] at e1
   cases e1
   rw [← aiB h1,← aiB h2]
  have hsi:∀ {i},live (e9 n cap life room) (.sw i) → i < n:=fun h=>by rw [← ls]; exact h
  have ZL:∀ {i},live (e9 n cap life room) (.pd i) → i < n:=fun h=>by rw [← ls]; exact h
  have hmi:∀ {i},live (e9 n cap life room) (.mm i) → i < n:=fun h=>by rw [← lk]; exact h
  have ZM:∀ {i},live (e9 n cap life room) (.hv i) → i < n:=fun h=>by rw [← lk]; exact h
  have ZO:∀ {i},live (e9 n cap life room) (.gn i) → i < n:=fun h=>by rw [← lk]; exact h
  cases r <;> cases r' <;> first
   | rfl
   | exact absurd l (HB _ _)
   | exact absurd l (HC _ _)
   | exact absurd l (ahe _)
   | exact absurd l' (HB _ _)
   | exact absurd l' (HC _ _)
   | exact absurd l' (ahe _)
   | exact l.elim
   | exact l'.elim
   | (exfalso; have h1:=congrArg Prod.fst ht; simp [ab0] at h1; done)
   | (exfalso; have h1:=congrArg Prod.snd ht; simp only [ab0] at h1; clear ht e ob; simp [h1] at nc; done)
   | (exfalso; have e':=e; dsimp only [ρ] at e'; clear ht e ob; simp [e'] at hl; done)
   | exact congrArg Role.sw (Sw.i1 _ _ (hsi l) (hsi l') e)
   | exact congrArg Role.pd (Sw.i2 _ _ (ZL l) (ZL l') e)
   | exact congrArg Role.mm (M.i1 _ _ (hmi l) (hmi l') e)
   | exact congrArg Role.hv (M.i2 _ _ (ZM l) (ZM l') e)
   | exact congrArg Role.gn (M.i3 _ _ (ZO l) (ZO l') e)
   | exact absurd e (M.i4 _ _ (ZM l) (ZO l'))
   | exact absurd e.symm (M.i4 _ _ (ZM l') (ZO l))
   | exact absurd e (d1 _ (ZL l'))
   | exact absurd e.symm (d1 _ (ZL l))
   | exact absurd e (d2 _ (ZM l')).1
   | exact absurd e.symm (d2 _ (ZM l)).1
   | exact absurd e (d2 _ (ZO l')).2
   | exact absurd e.symm (d2 _ (ZO l)).2
   | exact absurd e (d3 _ _ (ZL l) (ZM l')).1
   | exact absurd e.symm (d3 _ _ (ZL l') (ZM l)).1
   | exact absurd e (d3 _ _ (ZL l) (ZO l')).2
   | exact absurd e.symm (d3 _ _ (ZL l') (ZO l)).2
 ·subst e
  cases r with
  | sw i=>exact .inr ⟨i,by rw [← ls]; exact l,.inl rfl⟩
  | pd i=>exact .inr ⟨i,by rw [← ls]; exact l,.inr (.inl rfl)⟩
  | mm i=>exact .inr ⟨i,by rw [← lk]; exact l,.inr (.inr (.inl rfl))⟩
  | hv i=>exact .inr ⟨i,by rw [← lk]; exact l,.inr (.inr (.inr (.inl rfl)))⟩
  | gn i=>exact .inr ⟨i,by rw [← lk]; exact l,.inr (.inr (.inr (.inr rfl)))⟩
  | pt i v=>exact absurd l (HB i v)
  | cm i v=>exact absurd l (HC i v)
  | pu i=>exact absurd l (ahe i)
  | eX=>exact l.elim
  | aF=>exact .inl (.head _)
  | cf=>exact .inl (.tail _ (.head _))
  | iC=>exact .inl (.tail _ (.tail _ (.head _)))
  | j7=>exact .inl (.tail _ (.tail _ (.tail _ (.head _))))
  | dg=>exact .inl (.tail _ (.tail _ (.tail _ (.tail _ (.head _)))))
  | ret=>exact .inl (.tail _ (.tail _ (.tail _ (.tail _ (.tail _ (.head _))))))
  | eS=>exact .inl (.tail _ (.tail _ (.tail _ (.tail _ (.tail _ (.tail _ (.head _)))))))
  | bag=>exact .inl (.tail _ (.tail _ (.tail _ (.tail _ (.tail _ (.tail _ (.tail _ (.head _))))))))
  | cnt=>exact .inl (.tail _ (.tail _ (.tail _ (.tail _ (.tail _ (.tail _ (.tail _ (.tail _ (.head _)))))))))
end Pt
namespace Pt
open PySem PySem.Spec PyProof.Rows L2
noncomputable def Ex (p:Addr) (H H':Hp):Prop:=∀ b o,H b = some o → b ≠ p → H' b = some o
theorem Ex.trans {p:Addr} {H H1 H2:Hp} (a:Ex p H H1) (b:Ex p H1 H2):Ex p H H2:=fun q o e n=>b q o (a q o e n) n
theorem Ex.same {p:Addr} {H H1:Hp} (a:aH H H1):Ex p H H1:=fun q o e _=>a q o e
theorem Ex.at_ {p:Addr} {H:Hp} {o:HO}:Ex p H (L2.upd H p o):=fun q u e n=>by
 rw [ak n]
 exact e
theorem Ex.none {p b:Addr} {H H':Hp} {o:HO} (a:Ex p H H') (hp:H' p = some o) (h:H' b = Option.none):H b = Option.none:=by
 cases e:H b with
 | none=>rfl
 | some u =>
  have n:b ≠ p:=fun z=>by
   rw [z,hp] at h
   cases h
  rw [a b u e n] at h
  cases h
section
variable {P:Program} {w:World} {K:W.Frag} {mg:Str → Option Value} {base:Heap} {A:bg}
noncomputable def jm (S:SS) (_:List Int):SS × List Int:=Vbcnao.doing S .crash
theorem ajP (T:Txt K mg A):aD P w K mg base aC 4 A.jm A.YJ ["world","given"] (fX A jm fun _=>True):=by
 refine T.Zo.ok ajx (fun vs H Q E h=>?_) (fun au R outer s H vs Q E hr h=>?_)
 ·obtain ⟨ρ,S,ps,g,given,c,rfl,_⟩:=h
  rfl
 ·obtain ⟨ρ,S,ps,g,given,c,rfl,cP,G,hc,hg,ng,hz,pre,k⟩:=h
  have W:=cP.wd
  obtain ⟨dx,hw⟩:=W.aF
  obtain ⟨qu,vO⟩:=W.cf
  have ef:jm S given = ({ S with known:=S.known.map fun k=>⟨k.boot,[],0,[]⟩ },[0]):=rfl
  have hl:(S.known.map fun k=>nV k.boot).length = S.known.length:=List.length_map ..
  refine ⟨_,(ajh T hr (wJ T)).2,?_⟩
  refine ⟨_,rfl,_,_,_,_,_,rfl,hw,T.aB,T.aR,aa bq rfl rfl,_,_,_,rfl,vO,aL Lz,ρ .cf,qu,ρ .j7,oT ρ S,_,rfl,vO,?_,aa ee rfl rfl,W.j7,?_,fun H' l μ h1 h2 h3 M h5=>?_⟩
  ·exact Nat.le_trans (Nat.le_of_eq (W9 (N:=bI) rfl)) (by show 6 ≤ 100; decide)
  ·rw [hl,G.n]
   exact G.n16
  ·rw [hl] at h3 M
   obtain ⟨ρ',st⟩:=W.alS T.gS vO h1 h2 h3 M h5
   exact ⟨lz,fin k ef (cP.CQ st rfl)⟩
noncomputable def BB (A:bg):Sp:=fun vs H Q _=>∃ (p dx:Addr) (n cap life room:Nat),vs = [.ref p,nV n,nV cap,nV life,nV room] ∧ H p = some (.ins A.aN dx []) ∧ n ≤ 16 ∧
 ∀ ρ H',ρ .aF = p → Wh A ρ (e9 n cap life room) H' [] → Ex p H H' → (∀ b,iU ρ (e9 n cap life room) [] b → b = p ∨ H b = none) → Q .bL H'
theorem aaN (T:Txt K mg A):aD P w K mg base aC 6 A.fF A.xO ["self","n","cap","life","room"] (BB A):=by
 refine T.Rt.ok Mz (fun vs H Q E h=>?_) (fun au R outer s H vs Q E hr h=>?_)
 ·obtain ⟨p,dx,n,cap,life,room,rfl,_⟩:=h
  rfl
 ·obtain ⟨p,dx,n,cap,life,room,rfl,hp,hn,k⟩:=h
  refine ⟨_,(aam T hr (Jt T) (OS T)).2,?_⟩
  refine ⟨_,rfl,_,rfl,_,_,_,_,rfl,hp,T.aB,T.nA,(cW (Nat.le_refl 0)),?_⟩
  refine ⟨_,rfl,_,rfl,_,_,_,_,rfl,ae,T.aB,T.jT,(cW (lp (Nat.le_refl 0))),?_⟩
  refine ⟨_,rfl,_,rfl,_,_,_,_,rfl,ae,T.aB,T.lH,(cW (lp (lp (Nat.le_refl 0)))),?_⟩
  refine ⟨_,rfl,_,rfl,_,_,_,_,rfl,ae,T.aB,T.iS,(cW (lp (lp (lp (Nat.le_refl 0))))),?_⟩
  refine ⟨_,rfl,_,_,_,_,rfl,ae,T.aB,T.fz,(cW (lp (lp (lp (lp (Nat.le_refl 0)))))),?_⟩
  simp only [dO]
  have x1:Ex p H (upd H p (.ins A.aN dx (bz "now" (.int 0) (bz "book" (nV n) (bz "room" (nV room) (bz "life" (nV life) (bz "cap" (nV cap) []))))))):=Ex.at_
  have p1:upd H p (.ins A.aN dx (bz "now" (.int 0) (bz "book" (nV n) (bz "room" (nV room) (bz "life" (nV life) (bz "cap" (nV cap) [])))))) p = some _:=ae
  generalize (upd H p (.ins A.aN dx (bz "now" (.int 0) (bz "book" (nV n) (bz "room" (nV room) (bz "life" (nV life) (bz "cap" (nV cap) []))))))) = H1 at *
  refine ⟨_,rfl,_,rfl,(by show -(2 ^ 62) ≤ (n:Int); omega),(by show (n:Int) < 2 ^ 62; omega),fun AD adE=>?_⟩
  refine adg (lo:=0) (n:=n) (fun i H'=>aH H1 H' ∧ ∃ sg,H' AD = some (.lst ((List.range i).map fun i=>.ref (sg i).1)) ∧ Sws A H1 H' i sg) ?_ ?_ ?_
  ·exact ⟨aH.upd adE,fun _=>(0,0),ae,fun _ h=>absurd h (Nat.not_lt_zero _),fun _ h=>absurd h (Nat.not_lt_zero _),fun _ _ h=>absurd h (Nat.not_lt_zero _),fun _ _ h=>absurd h (Nat.not_lt_zero _)⟩
  ·rintro i H' hi ⟨s1,sg,fq,M⟩
   have e1:(0:Int) + (i:Int) + 1 = ((i + 1:Nat):Int):=by omega
   refine ⟨rfl,_,rfl,_,_,rfl,rfl,fun px sj qh wN nep=>⟨px,sj,_,rfl,ae,fun pd H2 npd h1 h2 h3=>⟨rfl,?_⟩⟩⟩
   have ada:H' pd = none:=by
    by_cases z1:pd = px
    ·rw [z1]
     exact qh
    ·by_cases z2:pd = sj
     ·rw [z2]
      exact wN
     ·rw [ak z1,ak z2] at npd
      exact npd
   have s2:aH H' H2:=fun q o eo=>by
    rw [h3 q (ay eo qh) (ay eo ada),ak (ay eo qh),ak (ay eo wN)]
    exact eo
   have h1':H2 px = some (.ins A.bK sj (jh.zip [nV (i + 1),.int 0,.int 0,.ref pd])):=by
    unfold nV
    rw [← e1]
    exact h1
   have M2:=M.snoc s1 s2 qh ada h1' h2
   have yG:=s2 _ _ fq
   refine ⟨(List.range i).map fun i=>.ref (sg i).1,yG,?_,aH.put (s1.trans s2) adE _,_,?_,M2.keep fun j hj b hb o e=>?_⟩
   ·rw [List.length_map,List.length_range]
    exact Nat.lt_of_lt_of_le hi (Nat.le_trans hn (by decide))
   ·rw [ae,List.range_succ,List.map_append,List.map_cons,List.map_nil]
    congr 3
    ·refine List.map_congr_left fun j hj=>?_
     have:j ≠ i:=by have:=List.mem_range.mp hj; omega
     show V.ref (sg j).1 = V.ref (if j = i then (px,pd) else sg j).1
     rw [if_neg this]
    ·show [V.ref px] = [V.ref (if i = i then (px,pd) else sg i).1]
     rw [if_pos rfl]
   ·have:b ≠ AD:=by
     obtain ⟨dj,a1,a2⟩:=M2.at_ j hj
     rcases hb with rfl | rfl
     ·exact dN a1 yG (by intro z; cases z)
     ·exact dN a2 yG (by intro z; cases z)
    rw [ak this]
    exact e
  rintro H2 ⟨s2,sg,aj8,Sw⟩
  refine ⟨_,rfl,_,_,_,_,rfl,s2 _ _ p1,T.aB,T.cN,(cW (lp (lp (lp (lp (lp (Nat.le_refl 0))))))),?_⟩
  have x2:Ex p H1 H2:=Ex.same s2
  have y3:∀ o,Ex p H2 (upd H2 p o):=fun _=>Ex.at_
  have swp:AD ≠ p:=fun z=>by rw [z,p1] at adE; cases adE
  have p3:∀ o,upd H2 p o p = some o:=fun _=>ae
  have y3:=y3 (.ins A.aN dx (bz "switches" (.ref AD) (bz "now" (.int 0) (bz "book" (nV n) (bz "room" (nV room) (bz "life" (nV life) (bz "cap" (nV cap) [])))))))
  have p3:=p3 (.ins A.aN dx (bz "switches" (.ref AD) (bz "now" (.int 0) (bz "book" (nV n) (bz "room" (nV room) (bz "life" (nV life) (bz "cap" (nV cap) [])))))))
  generalize (upd H2 p (.ins A.aN dx (bz "switches" (.ref AD) (bz "now" (.int 0) (bz "book" (nV n) (bz "room" (nV room) (bz "life" (nV life) (bz "cap" (nV cap) [])))))))) = H3 at *
  have Vl:∀ i,i < n → (sg i).1 ≠ p ∧ (sg i).2 ≠ p:=fun i hi=>by
   obtain ⟨a1,a2⟩:=Sw.new i hi
   exact ⟨(fun z=>by rw [z,p1] at a1; cases a1),(fun z=>by rw [z,p1] at a2; cases a2)⟩
  refine ⟨_,rfl,_,rfl,(by show -(2 ^ 62) ≤ (n:Int); omega),(by show (n:Int) < 2 ^ 62; omega),fun Mu Yz=>?_⟩
  refine adg (lo:=0) (n:=n) (fun i H'=>aH H3 H' ∧ H' Mu = some (.lst ((List.range i).map fun i=>nV (i + 1)))) ?_ ?_ ?_
  ·exact ⟨aH.upd Yz,ae⟩
  ·rintro i H' hi ⟨s1,fq⟩
   have e1:(0:Int) + (i:Int) + 1 = ((i + 1:Nat):Int):=by omega
   refine ⟨rfl,_,rfl,_,_,rfl,rfl,_,fq,?_,aH.put s1 Yz _,?_⟩
   ·rw [List.length_map,List.length_range]
    exact Nat.lt_of_lt_of_le hi (Nat.le_trans hn (by decide))
   ·rw [ae,List.range_succ,List.map_append]
    show some (HO.lst (_ ++ [V.int ((0:Int) + (i:Int) + 1)])) = _
    rw [e1]
    rfl
  rintro H4 ⟨s4,ank⟩
  intro c qu nc aj2 nec
  have s5:aH H4 (nB H4 c qu A.aE []):=aH.nB nc aj2
  have ahq:=s5 _ _ ank
  have Yj:((List.range n).map fun i=>nV (i + 1)).length = n:=by rw [List.length_map,List.length_range]
  refine ⟨c,qu,Mu,_,rfl,ae,ahq,by rw [Yj]; exact hn,fun H6 dg ret V3 mu q1 q2 q3 q4 q5 q6 q7 q8 q9 q10 M q12=>⟨rfl,?_⟩⟩
  rw [Yj] at q10 M
  have s6:aH H4 H6:=fun b o e=>q12 b o (s5 b o e) (ay e nc)
  have CQ:Mu ≠ p:=fun z=>by rw [z,p3] at Yz; cases Yz
  have p4:=s4 _ _ p3
  have p5:upd (upd H4 qu (.own c)) c (.ins A.aE qu []) p = some _:=s5 _ _ p4
  have p6:=s6 _ _ p4
  have cp:c ≠ p:=fun z=>by rw [z,p4] at nc; cases nc
  refine ⟨_,rfl,_,_,_,_,rfl,p6,T.aB,T.aR,(cW (lp (lp (lp (lp (lp (lp (Nat.le_refl 0)))))))),?_⟩
  have amJ:dg ≠ p:=fun z=>by rw [z,p5] at q2; cases q2
  have amF:ret ≠ p:=fun z=>by rw [z,p5] at q3; cases q3
  have am9:V3 ≠ p:=fun z=>by rw [z,p5] at q4; cases q4
  have ZE:∀ i,i < n → (mu i).1 ≠ p ∧ (mu i).2.1 ≠ p ∧ (mu i).2.2 ≠ p:=fun i hi=>by
   obtain ⟨a1,a2,a3⟩:=M.new i hi
   exact ⟨(fun z=>by rw [z,p5] at a1; cases a1),(fun z=>by rw [z,p5] at a2; cases a2),(fun z=>by rw [z,p5] at a3; cases a3)⟩
  refine ⟨lz,fun bag YC=>?_⟩
  have Q2:p ≠ bag:=ay ae YC
  refine ⟨_,rfl,_,_,_,_,rfl,(by rw [ak Q2]; exact ae),T.aB,T.dF,(cW (lp (lp (lp (lp (lp (lp (lp (Nat.le_refl 0))))))))),?_⟩
  refine ⟨_,rfl,_,_,_,_,rfl,ae,T.aB,T.jS,(cW (lp (lp (lp (lp (lp (lp (lp (lp (Nat.le_refl 0)))))))))),?_⟩
  simp only [dO]
  refine ⟨lz,fun eX Uq=>?_⟩
  have TN:p ≠ eX:=ay ae Uq
  refine ⟨_,rfl,_,_,_,_,rfl,(by rw [ak TN]; exact ae),T.aB,T.cT,(cW (lp (lp (lp (lp (lp (lp (lp (lp (lp (Nat.le_refl 0))))))))))),?_⟩
  refine ⟨_,rfl,_,_,_,_,rfl,ae,T.aB,T.hU,(cW (lp (lp (lp (lp (lp (lp (lp (lp (lp (lp (Nat.le_refl 0)))))))))))),?_⟩
  refine ⟨_,rfl,_,_,_,_,rfl,ae,T.aB,T.gg,(cW (lp (lp (lp (lp (lp (lp (lp (lp (lp (lp (lp (Nat.le_refl 0))))))))))))),?_⟩
  simp only [dO]
  intro cnt xq
  have YR:p ≠ cnt:=ay ae xq
  refine ⟨ae,[(Sum.inl 1,.int 0),(Sum.inl 2,.int 0),(Sum.inl 3,.int 0),(Sum.inl 4,.int 0)],rfl,by decide,?_⟩
  refine ⟨_,rfl,_,_,_,_,rfl,(by rw [ak YR,ak YR]; exact ae),T.aB,T.di,(cW (lp (lp (lp (lp (lp (lp (lp (lp (lp (lp (lp (lp (Nat.le_refl 0)))))))))))))),?_⟩
  rw [ak (Ne.symm Q2)] at YC
  have anB:∀ q o,H6 q = some o → q ≠ p → q ≠ bag → q ≠ eX → q ≠ cnt → ∀ {f1 f2 f3 f4:HO} {g1:HO},upd (upd (upd (upd (upd (upd (upd (upd H6 p f1) bag (.lst [])) p f2) eX (.lst [])) p f3) cnt (.dK [])) cnt g1) p f4 q = some o:=fun q o e m1 m2 m3 m4 f1 f2 f3 f4 g1=>by
   rw [ak m1,ak m4,ak m4,ak m1,ak m3,ak m1,ak m2,ak m1]
   exact e
  have b6:∀ q o,H6 q = some o → q ≠ bag:=fun q o e=>ay e YC
  have pk6:∀ q,q ≠ p → (∃ o,H6 q = some o) → q ≠ eX:=fun q m1 ⟨o,e⟩ z=>by
   rw [← z,ak m1,ak (b6 q o e),ak m1,e] at Uq
   cases Uq
  have ct6:∀ q,q ≠ p → (∃ o,H6 q = some o) → q ≠ cnt:=fun q m1 ⟨o,e⟩ z=>by
   rw [← z,ak m1,ak (pk6 q m1 ⟨o,e⟩),ak m1,ak (b6 q o e),ak m1,e] at xq
   cases xq
  have WR:bag ≠ eX:=fun z=>by
   rw [← z,ak (Ne.symm Q2),ae] at Uq
   cases Uq
  have aem:bag ≠ cnt:=fun z=>by
   rw [← z,ak (Ne.symm Q2),ak WR,ak (Ne.symm Q2),ae] at xq
   cases xq
  have VE:eX ≠ cnt:=fun z=>by
   rw [← z,ak (Ne.symm TN),ae] at xq
   cases xq
  have sw6:H6 AD = some (.lst ((List.range n).map fun i=>.ref (sg i).1)):=s6 _ _ (s4 _ _ (y3 _ _ aj8 swp))
  have sw5:=s5 _ _ (s4 _ _ (y3 _ _ aj8 swp))
  have st6:=s6 _ _ ank
  have alT:AD ≠ Mu:=ay (y3 _ _ aj8 swp) Yz
  have sg4:∀ i,i < n → ∃ ZU,H4 (sg i).1 = some (.ins A.bK ZU (jh.zip [nV (i + 1),.int 0,.int 0,.ref (sg i).2])) ∧ H4 (sg i).2 = some (.dK []):=fun i hi=>by
   obtain ⟨ZU,a1,a2⟩:=Sw.at_ i hi
   exact ⟨ZU,s4 _ _ (y3 _ _ a1 (Vl i hi).1),s4 _ _ (y3 _ _ a2 (Vl i hi).2)⟩
  have keep:∀ q o,H6 q = some o → q ≠ p → ∀ {f1 f2 f3 f4:HO} {g1:HO},upd (upd (upd (upd (upd (upd (upd (upd H6 p f1) bag (.lst [])) p f2) eX (.lst [])) p f3) cnt (.dK [])) cnt g1) p f4 q = some o:=fun q o e m1=>anB q o e m1 (b6 q o e) (pk6 q m1 ⟨o,e⟩) (ct6 q m1 ⟨o,e⟩)
  refine (?_:∀ Hf:Hp,Hf p = some (.ins A.aN dx (eF.zip [nV cap,nV life,nV room,nV n,.int 0,.ref AD,.ref c,.ref bag,.int 0,.ref eX,.int 0,.int 0,.ref cnt])) → (∀ q o,H6 q = some o → q ≠ p → Hf q = some o) → Hf bag = some (.lst []) → Hf eX = some (.lst []) →
   Hf cnt = some (.dK [(Sum.inl 1,.int 0),(Sum.inl 2,.int 0),(Sum.inl 3,.int 0),(Sum.inl 4,.int 0)]) → Q .bL Hf) _ ae (fun q o e m=>keep q o e m) ?_ ?_ ?_
  rotate_left
  ·rw [ak (Ne.symm Q2),ak aem,ak aem,ak (Ne.symm Q2),ak WR,ak (Ne.symm Q2)]
   exact ae
  ·rw [ak (Ne.symm TN),ak VE,ak VE,ak (Ne.symm TN)]
   exact ae
  ·rw [ak (Ne.symm YR)]
   exact ae
  clear keep anB
  intro Hf hpf keep hbf aoB hcf
  have Swf:=Sw.keep (H':=Hf) fun i hi b hb o e=>keep b o (by
   rcases hb with rfl | rfl
   ·exact s6 _ _ (s4 _ _ (y3 _ _ e (Vl i hi).1))
   ·exact s6 _ _ (s4 _ _ (y3 _ _ e (Vl i hi).2))) (by
   rcases hb with rfl | rfl
   ·exact (Vl i hi).1
   ·exact (Vl i hi).2)
  have Mf:=M.keep (H':=Hf) fun i hi b hb o e=>keep b o e (by
   rcases hb with rfl | rfl | rfl
   ·exact (ZE i hi).1
   ·exact (ZE i hi).2.1
   ·exact (ZE i hi).2.2)
  obtain ⟨ρ,rw,rp,Wf,own⟩:=ajb T (p:=p) (c:=c) (cap:=cap) (life:=life) (room:=room) ⟨dx,hpf⟩ ⟨qu,keep c _ q1 cp⟩ (keep AD _ sw6 swp) (keep Mu _ st6 CQ) (keep dg _ q8 amJ) (keep ret _ q9 amF) (keep V3 _ q10 am9)
   hbf hcf Swf Mf
   (by
    simp only [List.nodup_cons,List.mem_cons,not_or,List.not_mem_nil,not_false_eq_true,or_false,List.nodup_nil,and_true]
    exact ⟨⟨alT,ay sw5 q2,ay sw5 q3,ay sw5 q4,b6 _ _ sw6⟩,⟨ay ahq q2,ay ahq q3,ay ahq q4,b6 _ _ st6⟩,⟨q5,q6,b6 _ _ q8⟩,⟨q7,b6 _ _ q9⟩,b6 _ _ q10⟩)
   (fun i hi=>by
    obtain ⟨ZU,a1,a2⟩:=sg4 i hi
    exact Ne.symm (ct6 _ (Vl i hi).2 ⟨_,s6 _ _ a2⟩))
   (fun i hi=>by
    obtain ⟨ZU,a1,a2,a3⟩:=M.at_ i hi
    exact ⟨Ne.symm (ct6 _ (ZE i hi).2.1 ⟨_,a2⟩),Ne.symm (ct6 _ (ZE i hi).2.2 ⟨_,a3⟩)⟩)
   (fun i j hi hj=>by
    obtain ⟨ZU,a1,a2⟩:=sg4 i hi
    obtain ⟨b1,b2,b3⟩:=M.new j hj
    exact ⟨ay (s5 _ _ a2) b2,ay (s5 _ _ a2) b3⟩)
  have D4:∀ q o,H6 q = some o → q ≠ p → eX ≠ q:=fun q o e m=>Ne.symm (pk6 q m ⟨o,e⟩)
  have ahd:¬ Own ρ (e9 n cap life room) eX:=fun h=>by
   rcases own eX h with hm | ⟨i,hi,hm⟩
   ·simp only [List.mem_cons,List.not_mem_nil,or_false] at hm
    rcases hm with z | z | z | z | z | z | z | z | z
    ·exact TN z.symm
    ·exact D4 c _ q1 cp z
    ·exact D4 AD _ sw6 swp z
    ·exact D4 Mu _ st6 CQ z
    ·exact D4 dg _ q8 amJ z
    ·exact D4 ret _ q9 amF z
    ·exact D4 V3 _ q10 am9 z
    ·exact WR z.symm
    ·exact VE z
   ·obtain ⟨ZU,a1,a2⟩:=sg4 i hi
    obtain ⟨dxj,c1,c2,c3⟩:=M.at_ i hi
    rcases hm with z | z | z | z | z
    ·exact D4 _ _ (s6 _ _ a1) (Vl i hi).1 z
    ·exact D4 _ _ (s6 _ _ a2) (Vl i hi).2 z
    ·exact D4 _ _ c1 (ZE i hi).1 z
    ·exact D4 _ _ c2 (ZE i hi).2.1 z
    ·exact D4 _ _ c3 (ZE i hi).2.2 z
  have ex3:Ex p H H3:=(x1.trans x2).trans y3
  have ex4:Ex p H H4:=ex3.trans (.same s4)
  have ex5:Ex p H (nB H4 c qu A.aE []):=ex4.trans (.same s5)
  have ex6:Ex p H H6:=ex4.trans (.same s6)
  have h6n:∀ b,H6 b = none → H b = none:=fun b h=>ex6.none p6 h
  refine k ρ Hf rw ⟨Wf,⟨?_,.nil,by simp,by simp,by rw [rp]; exact ahd,by simp⟩⟩ (fun b o e m=>keep b o (ex6 b o e m) m) fun b hb=>?_
  ·rw [rp]
   exact aoB
  ·rcases hb with hb | hb | ⟨q,hq,_⟩
   ·rcases own b hb with hm | ⟨i,hi,hm⟩
    ·simp only [List.mem_cons,List.not_mem_nil,or_false] at hm
     rcases hm with rfl | rfl | rfl | rfl | rfl | rfl | rfl | rfl | rfl
     ·exact .inl rfl
     ·exact .inr (ex4.none p4 nc)
     ·exact .inr (x1.none p1 adE)
     ·exact .inr (ex3.none p3 Yz)
     ·exact .inr (ex5.none p5 q2)
     ·exact .inr (ex5.none p5 q3)
     ·exact .inr (ex5.none p5 q4)
     ·exact .inr (h6n _ YC)
     ·refine .inr (h6n _ ?_)
      rw [ak (Ne.symm YR),ak (Ne.symm VE),ak (Ne.symm YR),ak (Ne.symm aem),ak (Ne.symm YR)] at xq
      exact xq
    ·obtain ⟨a1,a2⟩:=Sw.new i hi
     obtain ⟨c1,c2,c3⟩:=M.new i hi
     rcases hm with rfl | rfl | rfl | rfl | rfl
     ·exact .inr (x1.none p1 a1)
     ·exact .inr (x1.none p1 a2)
     ·exact .inr (ex5.none p5 c1)
     ·exact .inr (ex5.none p5 c2)
     ·exact .inr (ex5.none p5 c3)
   ·rw [rp] at hb
    subst hb
    refine .inr (h6n _ ?_)
    rw [ak (Ne.symm TN),ak (Ne.symm WR),ak (Ne.symm TN)] at Uq
    exact Uq
   ·simp at hq
end
end Pt
namespace Pt
open PySem PySem.Spec PyProof.Rows L2
theorem apG:∀ m:Nat,m ≤ 10 → (m = 0 ∨ m = 1 ∨ m = 2 ∨ m = 3 ∨ m = 4 ∨ m = 5 ∨ m = 6 ∨ m = 7 ∨ m = 8 ∨ m = 9 ∨ m = 10):=by decide
theorem aj5:∀ m:Nat,m ≤ 19 → (m = 0 ∨ m = 1 ∨ m = 2 ∨ m = 3 ∨ m = 4 ∨ m = 5 ∨ m = 6 ∨ m = 7 ∨ m = 8 ∨ m = 9 ∨ m = 10 ∨ m = 11 ∨ m = 12 ∨ m = 13 ∨ m = 14 ∨ m = 15 ∨ m = 16 ∨ m = 17 ∨ m = 18 ∨ m = 19):=by decide
noncomputable def qQ (m:Nat) (g:List Int):Vbcnao.Call:=match m with
 | 0=>.begin_ (g.getD 0 0) (g.getD 1 0) (g.getD 2 0) (g.getD 3 0)
 | 1=>.publish g
 | 2=>.work
 | 3=>.tick (g.getD 0 0)
 | 4=>.deliver (g.getD 0 0)
 | 5=>.lose (g.getD 0 0)
 | 6=>.double (g.getD 0 0)
 | 7=>.flow (g.getD 0 0)
 | 8=>.restart (g.getD 0 0)
 | 9=>.hello (g.getD 0 0)
 | 10=>.crash
 | 11=>.enter (g.getD 0 0) (g.drop 1)
 | 12=>.hop (g.getD 0 0)
 | 13=>.policy (g.getD 0 0) (g.getD 1 0) (g.getD 2 0)
 | 14=>.switch (g.getD 0 0)
 | 15=>.knows (g.getD 0 0)
 | 16=>.controller
 | 17=>.bag
 | 18=>.packets
 | _=>.counts
noncomputable def abp (m:Nat) (S:SS) (g:List Int):SS × List Int:=Vbcnao.doing S (qQ m g)
noncomputable def ajH (m:Nat) (g:List Int):Prop:=match m with
 | 0=>g.length = 4
 | 3=>g.length = 1
 | 4=>g.length = 1
 | 5=>g.length = 1
 | 6=>g.length = 1
 | 7=>g.length = 1
 | 8=>g.length = 1
 | 9=>g.length = 1
 | 11=>g ≠ []
 | 12=>g.length = 1
 | 13=>g.length = 3
 | 14=>g.length = 1
 | 15=>g.length = 1
 | _=>True
noncomputable abbrev spC (A:bg) (m:Nat):Sp:=fX A (abp m) (ajH m)
noncomputable def dkT (A:bg) (z:Int):Option Sp:=if 13 ≤ z ∧ z ≤ 19 then some (spC A z.toNat) else none
noncomputable def dkC (A:bg) (z:Int):Option Sp:=if 1 ≤ z ∧ z ≤ 10 then some (spC A z.toNat) else none
section
variable {P:Program} {w:World} {K:W.Frag} {mg:Str → Option Value} {base:Heap} {A:bg}
theorem ap5 (T:Txt K mg A):∀ z sp,dkT A z = some sp → ∃ f fd ps,(LX A).lookup z = some f ∧ aD P w K mg base aC 3 f fd ps sp ∧ Binds K fd ps [] ∧ W.keepIn K (.ref f) = true:=by
 intro z sp h
 unfold dkT at h
 by_cases c:13 ≤ z ∧ z ≤ 19
 ·rw [if_pos c] at h
  cases h
  rcases (show z = 13 ∨ z = 14 ∨ z = 15 ∨ z = 16 ∨ z = 17 ∨ z = 18 ∨ z = 19 by omega) with rfl | rfl | rfl | rfl | rfl | rfl | rfl
  ·exact ⟨_,_,_,rfl,XQ T,T.aa9,T.CM.kp⟩
  ·exact ⟨_,_,_,rfl,(XO T).mono (by decide),T.aa8,T.CL.kp⟩
  ·exact ⟨_,_,_,rfl,(aaJ T).mono (by decide),T.aen,T.FI.kp⟩
  ·exact ⟨_,_,_,rfl,OM T,T.Sh,T.tw.kp⟩
  ·exact ⟨_,_,_,rfl,(aeX T).mono (by decide),T.ahN,T.Ms.kp⟩
  ·exact ⟨_,_,_,rfl,(VI T).mono (by decide),T.Y6,T.Ae.kp⟩
  ·exact ⟨_,_,_,rfl,(XR T).mono (by decide),T.aba,T.CN.kp⟩
 ·rw [if_neg c] at h
  cases h
theorem ap6 (T:Txt K mg A):∀ z sp,dkC A z = some sp → ∃ f fd ps,(EI A).lookup z = some f ∧ aD P w K mg base aC 7 f fd ps sp ∧ Binds K fd ps [] ∧ W.keepIn K (.ref f) = true:=by
 intro z sp h
 unfold dkC at h
 by_cases c:1 ≤ z ∧ z ≤ 10
 ·rw [if_pos c] at h
  cases h
  rcases (show z = 1 ∨ z = 2 ∨ z = 3 ∨ z = 4 ∨ z = 5 ∨ z = 6 ∨ z = 7 ∨ z = 8 ∨ z = 9 ∨ z = 10 by omega) with rfl | rfl | rfl | rfl | rfl | rfl | rfl | rfl | rfl | rfl
  ·exact ⟨_,_,_,rfl,(ag2 T).mono (by decide),T.ai1,T.Rp.kp⟩
  ·exact ⟨_,_,_,rfl,(alx T).mono (by decide),T.anI,T.aeI.kp⟩
  ·exact ⟨_,_,_,rfl,(aly T).mono (by decide),T.anJ,T.aeJ.kp⟩
  ·exact ⟨_,_,_,rfl,ag3 T,T.ai2,T.Rq.kp⟩
  ·exact ⟨_,_,_,rfl,(alA T).mono (by decide),T.anL,T.aeL.kp⟩
  ·exact ⟨_,_,_,rfl,(ait T).mono (by decide),T.akt,T.U0.kp⟩
  ·exact ⟨_,_,_,rfl,alB T,T.anM,T.aeM.kp⟩
  ·exact ⟨_,_,_,rfl,(ag1 T).mono (by decide),T.ai0,T.Ro.kp⟩
  ·exact ⟨_,_,_,rfl,(ajN T).mono (by decide),T.al2,T.Zm.kp⟩
  ·exact ⟨_,_,_,rfl,(ajP T).mono (by decide),T.al4,T.Zo.kp⟩
 ·rw [if_neg c] at h
  cases h
noncomputable def Xl (A:bg):Sp:=fun vs H Q E=>∃ (m:Nat) (a g:Addr),13 ≤ m ∧ m ≤ 19 ∧ vs = [.ref a,nV m,.ref g] ∧ spC A m [.ref a,.ref g] H Q E0
theorem alz (T:Txt K mg A):aD P w K mg base aC 4 A.rq A.WD ["world","number","given"] (Xl A):=by
 refine T.aeK.ok alh (fun vs H Q E h=>?_) (fun au R outer s H vs Q E hr h=>?_)
 ·obtain ⟨m,a,g,_,_,rfl,_⟩:=h
  rfl
 ·obtain ⟨m,a,g,h1,h2,rfl,h⟩:=h
  refine ⟨_,(akY T hr (ap5 T)).2,?_⟩
  have e:dkT A (m:Int) = some (spC A m):=by
   unfold dkT
   rw [if_pos (by omega)]
   rfl
  exact ⟨_,rfl,_,_,rfl,e,_,rfl,_,rfl,h⟩
noncomputable def yZ (A:bg):Sp:=fun vs H Q E=>∃ (m:Nat) (a g:Addr),1 ≤ m ∧ m ≤ 19 ∧ vs = [.ref a,nV m,.ref g] ∧ spC A m [.ref a,.ref g] H Q E0
theorem XT (T:Txt K mg A):aD P w K mg base aC 8 A.fE A.uB ["world","number","given"] (yZ A):=by
 refine T.CP.ok Xw (fun vs H Q E h=>?_) (fun au R outer s H vs Q E hr h=>?_)
 ·obtain ⟨m,a,g,_,_,rfl,_⟩:=h
  rfl
 ·obtain ⟨m,a,g,h1,h2,rfl,h⟩:=h
  refine ⟨_,(Xe T hr (ajO T) (amV T) (alz T) (ap6 T)).2,?_⟩
  refine ⟨_,rfl,_,rfl,_,rfl,?_⟩
  by_cases c:m ≤ 10
  ·have es:((EI A).lookup (m:Int)).isSome = true:=by
    rcases ((apG m (by omega)).resolve_left (by omega)) with rfl | rfl | rfl | rfl | rfl | rfl | rfl | rfl | rfl | rfl <;> rfl
   rw [es]
   have e:dkC A (m:Int) = some (spC A m):=by
    unfold dkC
    rw [if_pos (by omega)]
    rfl
   exact l7 ⟨_,rfl,_,_,rfl,e,_,rfl,_,rfl,h⟩
  ·have es:((EI A).lookup (m:Int)).isSome = false:=by
    rcases (show m = 11 ∨ m = 12 ∨ m = 13 ∨ m = 14 ∨ m = 15 ∨ m = 16 ∨ m = 17 ∨ m = 18 ∨ m = 19 by omega) with rfl | rfl | rfl | rfl | rfl | rfl | rfl | rfl | rfl <;> rfl
   rw [es]
   refine uS ⟨_,rfl,rfl,_,rfl,?_⟩
   have e11:decide (nV m = V.int 11) = decide (m = 11):=kR m 11
   show if decide (nV m = V.int 11) = true then _ else _
   rw [e11]
   refine aZ (fun d=>?_) (fun d=>?_)
   ·have d':=of_decide_eq_true d
    subst d'
    exact ⟨_,rfl,_,rfl,h⟩
   ·have d':m ≠ 11:=fun z=>d (decide_eq_true z)
    refine ⟨_,rfl,rfl,_,rfl,?_⟩
    have e12:decide (nV m = V.int 12) = decide (m = 12):=kR m 12
    show if decide (nV m = V.int 12) = true then _ else _
    rw [e12]
    refine aZ (fun f=>?_) (fun f=>?_)
    ·have f':=of_decide_eq_true f
     subst f'
     exact ⟨_,rfl,_,rfl,h⟩
    ·have f':m ≠ 12:=fun z=>f (decide_eq_true z)
     exact ⟨_,rfl,_,rfl,_,rfl,m,a,g,by omega,h2,rfl,h⟩
noncomputable def za (v:V):List (Str × V):=vH.zip [v]
noncomputable def Ses (A:bg) (H:Hp) (sx:Addr) (S:SS) (c:Nat) (ow:Addr → Prop):Prop:=∃ dx,
 (S.on = false ∧ H sx = some (.ins A.bH dx (za .bL)) ∧ ∀ b,¬ ow b) ∨
 ∃ (ρ:Role → Addr) (ps:PL),H sx = some (.ins A.bH dx (za (.ref (ρ .aF)))) ∧ Wh A ρ S H ps ∧ Good c S ∧ (∀ b,ow b ↔ iU ρ S ps b) ∧ ¬ iU ρ S ps sx
noncomputable def wq (A:bg):Sp:=fun vs H Q _=>∃ (p dx:Addr),vs = [.ref p] ∧ H p = some (.ins A.bH dx []) ∧ Q .bL (upd H p (.ins A.bH dx (za .bL)))
theorem VM (T:Txt K mg A):aD P w K mg base aC 1 A.dZ A.r6 ["self"] (wq A):=by
 refine T.KQ.ok Vs (fun vs H Q E h=>?_) (fun au R outer s H vs Q E hr h=>?_)
 ·obtain ⟨p,dx,rfl,_⟩:=h
  rfl
 ·obtain ⟨p,dx,rfl,hp,q⟩:=h
  refine ⟨_,(Vb T hr).2,?_⟩
  exact ⟨_,rfl,_,_,_,_,rfl,hp,T.oX,T.fg,(cW (Nat.le_refl 0)),q⟩
noncomputable def DW (A:bg):Sp:=fun vs H Q _=>∃ (p dx:Addr) (a b:V),vs = [.ref p,a,b] ∧ H p = some (.ins A.fG dx []) ∧ Q .bL (upd H p (.ins A.fG dx (Ef.zip [a,b])))
theorem acP (T:Txt K mg A):aD P w K mg base aC 1 A.gE A.Au ["self","number","given"] (DW A):=by
 refine T.Th.ok acq (fun vs H Q E h=>?_) (fun au R outer s H vs Q E hr h=>?_)
 ·obtain ⟨p,dx,a,b,rfl,_⟩:=h
  rfl
 ·obtain ⟨p,dx,a,b,rfl,hp,q⟩:=h
  refine ⟨_,(abC T hr).2,?_⟩
  refine ⟨_,rfl,_,rfl,_,_,_,_,rfl,hp,T.zW,T.jg,(cW (Nat.le_refl 0)),?_⟩
  refine ⟨_,rfl,_,rfl,_,_,_,_,rfl,ae,T.zW,T.iT,(cW (lp (Nat.le_refl 0))),?_⟩
  simp only [dO]
  exact q
theorem Txt.am7 (T:Txt K mg A):A.bH ≠ A.aU:=by
 have h:=T.wM
 simp only [List.nodup_cons,List.mem_cons,not_or] at h
 intro e
 simp_all
theorem Wh.Kr {ρ:Role → Addr} {S:SS} {H:Hp} {ps:PL} (W:Wh A ρ S H ps) {a:Addr} (n:¬ iU ρ S ps a) {o:HO} (ha:H a = some o) (hi:¬ Imm A o) (o':HO):Wh A ρ S (upd H a o') ps:=by
 refine ⟨W.wd.Kr (fun b hb=>ak fun z=>n (.inl (z ▸ hb))) fun b u im e=>?_,⟨?_,uI W.pk.at_ fun q p hq r=>⟨?_,?_⟩,W.pk.nd,W.pk.nr,W.pk.no,W.pk.n8⟩⟩
 ·have:b ≠ a:=fun z=>by
   rw [z,ha] at e
   cases e
   exact hi im
  rw [ak this]
  exact e
 ·rw [ak fun z=>n (.inr (.inl z.symm))]
  exact W.pk.lst
 ·obtain ⟨dx,z⟩:=r.ins
  exact ⟨dx,by rw [ak fun y=>n (.inr (.inr ⟨q,hq,.inl y.symm⟩))]; exact z⟩
 ·rw [ak fun y=>n (.inr (.inr ⟨q,hq,.inr y.symm⟩))]
  exact r.rt
noncomputable def ahS (A:bg) (H:Hp) (sx:Addr) (S:SS) (c:Nat) (ow:Addr → Prop) (R:SS × List Int) (Q:VK):Prop :=
 ∀ H' p ow',Ses A H' sx R.1 (c + 1) ow' → (∀ b o,H b = some o → ¬ ow b → b ≠ sx → H' b = some o) → (∀ b,ow' b → ow b ∨ H b = none) → (∀ b o,H b = some o → ¬ ow b → b ≠ p) → H' p = some (.lst (R.2.map .int)) → Q (.ref p) H'
noncomputable def uH (A:bg):Sp:=fun vs H Q _=>∃ (sx g:Addr) (given:List Int) (S:SS) (c:Nat) (ow:Addr → Prop),vs = [.ref sx,.ref g] ∧ Ses A H sx S c ow ∧ H g = some (.lst (given.map .int)) ∧ ¬ ow g ∧ ¬ ow sx ∧ given.length = 4 ∧ ahS A H sx S c ow (Vbcnao.step S (qQ 0 given)) Q
theorem TX (T:Txt K mg A):aD P w K mg base aC 8 A.dB A.qx ["self","given"] (uH A):=by
 refine T.GX.ok Tz (fun vs H Q E h=>?_) (fun au R outer s H vs Q E hr h=>?_)
 ·obtain ⟨sx,g,given,S,c,ow,rfl,_⟩:=h
  rfl
 ·obtain ⟨sx,g,given,S,c,ow,rfl,Mv,hg,ng,nsx,h4,k⟩:=h
  obtain ⟨n,cap,life,room,rfl⟩:∃ n cap life room,given = [n,cap,life,room]:=by
   match given,h4 with
   | [a,b,c,d],_=>exact ⟨a,b,c,d,rfl⟩
  have ef:Vbcnao.step S (qQ 0 [n,cap,life,room]) = if (Vbcnao.within n 1 16 && (Vbcnao.within cap 1 4096 && (Vbcnao.within life 1 1000000 && Vbcnao.within room 1 256))) = false then (S,[-1]) else (e9 n.toNat cap.toNat life.toNat room.toNat,[0]):=rfl
  unfold ahS at k
  rw [ef] at k
  obtain ⟨o0,ahp,apY⟩:∃ o,H sx = some o ∧ ∃ dx v,o = .ins A.bH dx (za v):=by
   obtain ⟨dx,⟨_,h,_⟩ | ⟨ρ,ps,h,_⟩⟩:=Mv
   ·exact ⟨_,h,dx,_,rfl⟩
   ·exact ⟨_,h,dx,_,rfl⟩
  obtain ⟨vP,v0,rfl⟩:=apY
  refine ⟨_,(Tj T hr (R1 T) (aaN T)).2,?_⟩
  refine ⟨_,rfl,_,_,_,_,rfl,rfl,aM.of hg,at_of (j:=0) rfl rfl,_,rfl,_,_,_,_,rfl,rfl,aM.of hg,at_of (j:=1) rfl rfl,_,rfl,_,_,_,_,rfl,rfl,aM.of hg,at_of (j:=2) rfl rfl,_,rfl,_,_,_,_,rfl,rfl,aM.of hg,at_of (j:=3) rfl rfl,n,cap,life,room,rfl,_,rfl,?_⟩
  refine aZ (fun d=>?_) (fun d=>?_)
  ·rw [Bool.not_eq_true'] at d
   rw [if_pos d] at k
   refine ⟨_,rfl,lz,fun p hp=>?_⟩
   refine k _ p ow ?_ (fun b o e _ _=>(aH.upd hp) _ _ e) (fun b hb=>.inl hb) (fun b o e _=>ay e hp) ae
   have s1:=aH.upd (o:=.lst [.int (-1)]) hp
   obtain ⟨dx,⟨h1,h2,h3⟩ | ⟨ρ,ps,h1,h2,h3,h4,h5⟩⟩:=Mv
   ·exact ⟨dx,.inl ⟨h1,s1 _ _ h2,h3⟩⟩
   ·exact ⟨dx,.inr ⟨ρ,ps,s1 _ _ h1,(h2.same s1).wh,h3.mono,h4,h5⟩⟩
  ·rw [Bool.not_eq_true',Bool.not_eq_false] at d
   rw [if_neg (by rw [d]; simp)] at k
   have Gd:=ahz (S:=S) d
   have eg:(Vbcnao.step S (.begin_ n cap life room)).1 = e9 n.toNat cap.toNat life.toNat room.toNat:=congrArg Prod.fst (ef.trans (if_neg (by rw [d]; simp)))
   rw [eg] at Gd
   have d0:=d
   simp only [Vbcnao.within,Bool.and_eq_true,decide_eq_true_eq] at d
   obtain ⟨⟨a1,a2⟩,⟨a3,a4⟩,⟨a5,a6⟩,a7,a8⟩:=d
   refine ⟨_,rfl,_,_,_,_,rfl,rfl,aM.of hg,at_of (j:=0) rfl rfl,_,rfl,_,_,_,_,rfl,rfl,aM.of hg,at_of (j:=1) rfl rfl,_,rfl,_,_,_,_,rfl,rfl,aM.of hg,at_of (j:=2) rfl rfl,_,rfl,_,_,_,_,rfl,rfl,aM.of hg,at_of (j:=3) rfl rfl,fun p dx np ndx nex=>⟨p,dx,n.toNat,cap.toNat,life.toNat,room.toNat,?_,ae,by omega,fun ρ H' rw0 W ex own=>⟨rfl,?_⟩⟩⟩
   ·show [V.ref p,V.int n,V.int cap,V.int life,V.int room] = [V.ref p,V.int (n.toNat:Int),V.int (cap.toNat:Int),V.int (life.toNat:Int),V.int (room.toNat:Int)]
    rw [show ((n.toNat:Nat):Int) = n by omega,show ((cap.toNat:Nat):Int) = cap by omega,show ((life.toNat:Nat):Int) = life by omega,show ((room.toNat:Nat):Int) = room by omega]
   ·have s1:aH H (nB H p dx A.aN []):=aH.nB np ndx
    have sx1:=s1 _ _ ahp
    have sxp:sx ≠ p:=ay ahp np
    have sx2:=ex _ _ sx1 sxp
    have hH:∀ b o,H b = some o → H' b = some o:=fun b o e=>ex _ _ (s1 _ _ e) (ay e np)
    have am6:∀ b,iU ρ (e9 n.toNat cap.toNat life.toNat room.toNat) [] b → H b = none:=fun b hb=>by
     rcases own b hb with z | z
     ·rw [z]
      exact np
     ·cases e:H b with
      | none=>rfl
      | some o =>
       have z2:=(s1 b o e).symm.trans z
       cases z2
    have Yg:¬ iU ρ (e9 n.toNat cap.toNat life.toNat room.toNat) [] sx:=fun h=>by
     rw [am6 sx h] at ahp
     cases ahp
    refine ⟨_,rfl,_,_,_,_,rfl,sx2,T.oX,T.fg,(mZ rfl (by decide)),?_⟩
    have e1:bz "world" (.ref p) (za v0) = za (.ref (ρ .aF)):=by
     rw [rw0]
     exact gH oE rfl (by decide)
    rw [e1]
    have W2:=W.Kr Yg sx2 (fun z=>T.am7 z) (.ins A.bH vP (za (.ref (ρ .aF))))
    refine ⟨lz,fun q hq=>?_⟩
    have qp:H q = none:=by
     cases e:H q with
     | none=>rfl
     | some o =>
      by_cases z:q = sx
      ·subst z
       rw [ae] at hq
       cases hq
      ·rw [ak z,hH q o e] at hq
       cases hq
    have s3:=aH.upd (o:=.lst [.int 0]) hq
    refine k _ q (iU ρ (e9 n.toNat cap.toNat life.toNat room.toNat) []) ⟨vP,.inr ⟨ρ,[],s3 _ _ ae,(W2.same s3).wh,?_,fun _=>Iff.rfl,Yg⟩⟩ (fun b o e _ m=>s3 _ _ (by rw [ak m]; exact hH b o e)) (fun b hb=>.inr (am6 b hb)) (fun b o e _=>ay e qp) ae
    exact { Gd with Ho:=Nat.le_trans Gd.Ho (Nat.zero_le _) }
noncomputable def CallAt (A:bg) (H:Hp) (q:Addr × Addr) (m:Nat) (given:List Int):Prop:=(∃ dx,H q.1 = some (.ins A.fG dx (Ef.zip [nV m,.ref q.2]))) ∧ H q.2 = some (.lst (given.map .int))
noncomputable def sC (A:bg):Sp:=fun vs H Q _=>∃ (sx:Addr) (q:Addr × Addr) (m:Nat) (given:List Int) (S:SS) (c:Nat) (ow:Addr → Prop),vs = [.ref sx,.ref q.1] ∧ Ses A H sx S c ow ∧ c ≤ 399 ∧ CallAt A H q m given ∧ ¬ ow q.2 ∧ ¬ ow sx ∧ m ≤ 19 ∧ ajH m given ∧ (∀ z ∈ given,-(2 ^ 63) ≤ z ∧ z < 2 ^ 63) ∧
 ahS A H sx S c ow (Vbcnao.step S (qQ m given)) Q
theorem R3 (T:Txt K mg A):aD P w K mg base aC 9 A.c6 A.oS ["self","call"] (sC A):=by
 refine T.FO.ok RY (fun vs H Q E h=>?_) (fun au R outer s H vs Q E hr h=>?_)
 ·obtain ⟨sx,q,m,given,S,c,ow,rfl,_⟩:=h
  rfl
 ·obtain ⟨sx,q,m,given,S,c,ow,rfl,Mv,hc,⟨⟨dxl,hl⟩,hg⟩,nq,nsx,hm,adF,hz,k⟩:=h
  refine ⟨_,(RS T hr (TX T) (XT T)).2,?_⟩
  refine ⟨_,rfl,_,_,_,_,_,rfl,hl,T.zW,T.jg,aa JS rfl rfl,rfl,_,rfl,?_⟩
  have e0:decide (nV m = V.int 0) = decide (m = 0):=kR m 0
  show if decide (nV m = V.int 0) = true then _ else _
  rw [e0]
  refine aZ (fun d=>?_) (fun d=>?_)
  ·have d':=of_decide_eq_true d
   subst d'
   obtain ⟨dx,⟨h1,h2,h3⟩ | ⟨ρ,ps,h1,h2,h3,h4,h5⟩⟩:=id Mv
   ·exact ⟨_,rfl,_,_,_,rfl,h2,aL Ea,_,rfl,_,_,_,_,_,rfl,hl,T.zW,T.iT,aa B5 rfl rfl,sx,q.2,given,S,c,ow,rfl,Mv,hg,nq,nsx,adF,k⟩
   ·exact ⟨_,rfl,_,_,_,rfl,h1,aL Ea,_,rfl,_,_,_,_,_,rfl,hl,T.zW,T.iT,aa B5 rfl rfl,sx,q.2,given,S,c,ow,rfl,Mv,hg,nq,nsx,adF,k⟩
  ·have d':m ≠ 0:=fun z=>d (decide_eq_true z)
   have est:Vbcnao.step S (qQ m given) = if S.on = false then (S,[-20]) else abp m S given:=by
    unfold abp
    generalize Wm:qQ m given = cl
    cases cl with
    | begin_ a b c d =>
     exfalso
     rcases ((aj5 m (by omega)).resolve_left d') with rfl | rfl | rfl | rfl | rfl | rfl | rfl | rfl | rfl | rfl | rfl | rfl | rfl | rfl | rfl | rfl | rfl | rfl | rfl <;> cases Wm
    | _=>rfl
   unfold ahS at k
   rw [est] at k
   obtain ⟨dx,⟨h1,h2,h3⟩ | ⟨ρ,ps,h1,h2,h3,h4,h5⟩⟩:=Mv
   ·rw [if_pos h1] at k
    refine ⟨_,rfl,_,_,_,_,_,rfl,h2,T.oX,T.fg,aa oE rfl rfl,rfl,_,rfl,?_⟩
    refine l7 ⟨lz,fun p hp=>?_⟩
    have s1:=aH.upd (o:=.lst [.int (-20)]) hp
    exact k _ p ow ⟨dx,.inl ⟨h1,s1 _ _ h2,h3⟩⟩ (fun b o e _ _=>s1 _ _ e) (fun b hb=>.inl hb) (fun b o e _=>ay e hp) ae
   ·rw [if_neg (by rw [h3.on]; simp)] at k
    refine ⟨_,rfl,_,_,_,_,_,rfl,h1,T.oX,T.fg,aa oE rfl rfl,rfl,_,rfl,?_⟩
    refine uS ⟨_,rfl,_,_,_,_,_,rfl,h1,T.oX,T.fg,aa oE rfl rfl,_,rfl,_,_,_,_,_,rfl,hl,T.zW,T.jg,aa JS rfl rfl,_,rfl,_,_,_,_,_,rfl,hl,T.zW,T.iT,aa B5 rfl rfl,m,_,q.2,by omega,hm,rfl,ρ,S,ps,q.2,given,c,rfl,h2,h3,by omega,hg,fun z=>nq ((h4 _).mpr z),hz,adF,fun ρ' j8 H' p st apS hp=>?_⟩
    refine k H' p (iU ρ' (abp m S given).1 j8) ⟨dx,.inr ⟨ρ',j8,?_,st.wh,h3.doing _,fun _=>Iff.rfl,st.O4 h1 h5⟩⟩ (fun b o e n _=>st.keep b o e fun z=>n ((h4 b).mpr z)) (fun b hb=>(st.grow b hb).elim (fun z=>.inl ((h4 b).mpr z)) .inr) (fun b o e n=>apS b o e fun z=>n ((h4 b).mpr z)) hp
    rw [st.w0]
    exact st.keep _ _ h1 h5
end
end Pt
namespace Pt
open PySem PySem.Spec PyProof.Rows L2
noncomputable def nums:List Nat:=[4,0,0,1,1,1,1,1,1,1,0,1,1,3,1,1,0,0,0,0]
noncomputable def akM (m:Nat):Nat:=if m = 1 ∨ m = 11 then 1 else 0
theorem agQ {p:Int} {n k:Nat} (h:PyVbcnao.shape p = some (n,k)):∃ m:Nat,p = (m:Int) ∧ m ≤ 19 ∧ nums[m]? = some n ∧ k = akM m:=by
 unfold PyVbcnao.shape at h
 by_cases h0:0 ≤ p ∧ p ≤ 19
 ·obtain ⟨m,rfl⟩:∃ m:Nat,p = (m:Int):=⟨p.toNat,by omega⟩
  refine ⟨m,rfl,by omega,?_⟩
  rcases (aj5 m (by omega)) with
   rfl | rfl | rfl | rfl | rfl | rfl | rfl | rfl | rfl | rfl | rfl | rfl | rfl | rfl | rfl | rfl | rfl | rfl | rfl | rfl <;> (simp at h; obtain ⟨rfl,rfl⟩:=h; exact ⟨rfl,rfl⟩)
 ·exfalso
  rw [if_neg (by omega),if_neg (by omega),if_neg (by omega),if_neg (by omega),if_neg (by omega),if_neg (by omega),if_neg (by omega),if_neg (by omega),if_neg (by omega),if_neg (by omega),if_neg (by omega),if_neg (by omega),if_neg (by omega),if_neg (by omega),if_neg (by omega),if_neg (by omega),if_neg (by omega),if_neg (by omega),if_neg (by omega),if_neg (by omega)] at h
  cases h
theorem aiZ {p:Int} {r:List Int} {c:List (List Int)} {t:List Int} (h:PyFlat.call PyVbcnao.shape (p :: r) = some (c,t)) :
  ∃ m n:Nat,p = (m:Int) ∧ m ≤ 19 ∧ nums[m]? = some n ∧ n ≤ r.length ∧ ((¬ (m = 1 ∨ m = 11) ∧ c = [p :: r.take n] ∧ t = r.drop n) ∨ ((m = 1 ∨ m = 11) ∧ ∃ q r',r.drop n = q :: r' ∧ 0 ≤ q ∧ q.toNat ≤ r'.length ∧ c = [p :: r.take n,r'.take q.toNat] ∧ t = r'.drop q.toNat)):=by
 unfold PyFlat.call at h
 dsimp only at h
 cases hs:PyVbcnao.shape p with
 | none =>
  rw [hs] at h
  cases h
 | some nk =>
  obtain ⟨n,k⟩:=nk
  rw [hs] at h
  dsimp only at h
  obtain ⟨m,e1,e2,e3,e4⟩:=agQ hs
  by_cases hl:r.length < n
  ·rw [if_pos hl] at h
   cases h
  rw [if_neg hl] at h
  refine ⟨m,n,e1,e2,e3,by omega,?_⟩
  unfold akM at e4
  by_cases hm:m = 1 ∨ m = 11
  ·rw [if_pos hm] at e4
   subst e4
   refine .inr ⟨hm,?_⟩
   unfold PyFlat.rows at h
   cases hr:r.drop n with
   | nil =>
    rw [hr] at h
    cases h
   | cons q r' =>
    rw [hr] at h
    unfold PyFlat.row at h
    dsimp only at h
    by_cases hq:0 ≤ q ∧ q.toNat ≤ r'.length
    ·rw [if_pos hq] at h
     dsimp only [PyFlat.rows] at h
     injection h with h
     injection h with h1 h2
     exact ⟨q,r',rfl,hq.1,hq.2,h1.symm,h2.symm⟩
    ·rw [if_neg hq] at h
     cases h
  ·rw [if_neg hm] at e4
   subst e4
   dsimp only [PyFlat.rows] at h
   injection h with h
   injection h with h1 h2
   exact .inl ⟨hm,h1.symm,h2.symm⟩
noncomputable def numOf (c:List (List Int)):Nat × List Int:=match c with
 | (p :: a) :: xs=>(p.toNat,a ++ xs.flatten)
 | _=>(0,[])
noncomputable def CAt (A:bg) (H0 H:Hp) (q:Addr × Addr) (c:List (List Int)):Prop:=CallAt A H q (numOf c).1 (numOf c).2 ∧ H0 q.2 = none
theorem aiS {α:Type} {l:List α} {i:Nat} {x:α} {r:List α} (h:l.drop i = x :: r):l[i]? = some x ∧ l.drop (i + 1) = r ∧ i < l.length:=by
 have h1:i < l.length:=Classical.byContradiction fun z=>by
  rw [List.drop_eq_nil_of_le (by omega)] at h
  cases h
 have h2:l[i]? = some l[i]:=List.getElem?_eq_getElem h1
 have h3:=JX h2
 rw [h] at h3
 injection h3 with h4 h5
 exact ⟨by rw [h2,h4],h5.symm,h1⟩
theorem ahL {f:Nat} {p:Int} {r:List Int} {cs:List (List (List Int))} (h:PyFlat.calls PyVbcnao.shape f (p :: r) = some cs):∃ f' c t cs',PyFlat.call PyVbcnao.shape (p :: r) = some (c,t) ∧ PyFlat.calls PyVbcnao.shape f' t = some cs' ∧ cs = c :: cs':=by
 cases f with
 | zero=>cases h
 | succ f =>
  unfold PyFlat.calls at h
  cases hc:PyFlat.call PyVbcnao.shape (p :: r) with
  | none =>
   rw [hc] at h
   cases h
  | some ct =>
   obtain ⟨c,t⟩:=ct
   rw [hc] at h
   dsimp only at h
   cases Wl:PyFlat.calls PyVbcnao.shape f t with
   | none =>
    rw [Wl] at h
    cases h
   | some cs' =>
    rw [Wl] at h
    exact ⟨f,c,t,cs',rfl,Wl,(Option.some.inj h).symm⟩
theorem aiY {f:Nat} {cs:List (List (List Int))} (h:PyFlat.calls PyVbcnao.shape f [] = some cs):cs = []:=by
 cases f <;> exact (Option.some.inj h).symm
section
variable {P:Program} {w:World} {K:W.Frag} {mg:Str → Option Value} {base:Heap} {A:bg}
noncomputable def BA (A:bg) (K:W.Frag):Sp:=fun vs H Q _=>∃ (p:Addr) (ns:List Int) (f:Nat) (cs:List (List (List Int))),vs = [.ref p] ∧ aM K H p (ns.map .int) ∧ ns.length ≤ 16000 ∧ PyFlat.calls PyVbcnao.shape f ns = some cs ∧
 ∀ H' D qs,aH H H' → H' D = some (.lst (qs.map fun q:Addr × Addr=>.ref q.1)) → H D = none → Paired (CAt A H H') qs cs → Q (.ref D) H'
theorem aaM (T:Txt K mg A):aD P w K mg base aC 3 A.gy A.xN ["numbers"] (BA A K):=by
 refine T.FN.ok My (fun vs H Q E h=>?_) (fun au R outer s H vs Q E hr h=>?_)
 ·obtain ⟨p,ns,f,cs,rfl,_⟩:=h
  rfl
 ·obtain ⟨p,ns,f,cs,rfl,hp,hlen,Wl,k⟩:=h
  refine ⟨_,(aak T hr (acP T)).2,?_⟩
  refine ⟨Nat.zero_le _,fun D hD=>?_⟩
  have sD:=aH.upd (o:=.lst []) hD
  refine ⟨fun m σ H'=>∃ (at_:Nat) (done rest:List (List (List Int))) (f:Nat) (qs:List (Addr × Addr)) (u3 u4 u5:Option V),σ = [some (.ref p),some (.ref D),some (nV at_),u3,u4,u5] ∧ m + at_ = ns.length ∧ done.length ≤ at_ ∧ aH H H' ∧ H' D = some (.lst (qs.map fun q:Addr × Addr=>.ref q.1)) ∧
   Paired (CAt A H H') qs done ∧ (∀ q ∈ qs,q.2 ≠ D) ∧ cs = done ++ rest ∧ PyFlat.calls PyVbcnao.shape f (ns.drop at_) = some rest,⟨ns.length,0,[],cs,f,[],none,none,none,rfl,by omega,Nat.le_refl _,sD,ae,.nil,by simp,rfl,Wl⟩,?_⟩
  rintro mm σ H1 ⟨at_,done,rest,f,qs,u3,u4,u5,rfl,Gp,hdl,s1,fq,SI,hqD,ecs,abl⟩
  refine ⟨_,rfl,_,rfl,_,_,rfl,.inl (s1.seq hp),_,_,rfl,rfl,_,rfl,?_⟩
  have elt:decide (((at_:Nat):Int) < (((ns.map V.int).length:Nat):Int)) = decide (at_ < ns.length):=by
   rw [List.length_map]
   by_cases h:at_ < ns.length
   ·rw [decide_eq_true h]
    exact decide_eq_true (by omega)
   ·rw [decide_eq_false h]
    exact decide_eq_false (by omega)
  show if decide (((at_:Nat):Int) < (((ns.map V.int).length:Nat):Int)) = true then _ else _
  rw [elt]
  refine aZ (fun d=>?_) (fun d=>?_)
  ·have d':at_ < ns.length:=of_decide_eq_true d
   obtain ⟨z,hz⟩:∃ z,ns[at_]? = some z:=⟨_,List.getElem?_eq_getElem d'⟩
   have hdr:=JX hz
   rw [hdr] at abl
   obtain ⟨f',c,t,aoq,aoH,anl,rfl⟩:=ahL abl
   obtain ⟨m,n,ez,aqy,ake,hnl,akP⟩:=aiZ aoH
   subst ez
   have tW:(ns.map V.int)[at_]? = some (.int (m:Int)):=by rw [List.getElem?_map,hz]; rfl
   have hnV:([.int 4,.int 0,.int 0,.int 1,.int 1,.int 1,.int 1,.int 1,.int 1,.int 1,.int 0,.int 1,.int 1,.int 3,.int 1,.int 1,.int 0,.int 0,.int 0,.int 0]:List V)[m]? = some (nV n):=by
    have e:([.int 4,.int 0,.int 0,.int 1,.int 1,.int 1,.int 1,.int 1,.int 1,.int 1,.int 0,.int 1,.int 1,.int 3,.int 1,.int 1,.int 0,.int 0,.int 0,.int 0]:List V) = nums.map nV:=rfl
    rw [e,List.getElem?_map,ake]
    rfl
   refine ⟨fun σ2 H2=>∃ (at_:Nat) (done rest:List (List (List Int))) (f:Nat) (qs:List (Addr × Addr)) (u3 u4 u5:Option V) (mm':Nat),σ2 = [some (.ref p),some (.ref D),some (nV at_),u3,u4,u5] ∧ mm' < mm ∧ mm' + at_ = ns.length ∧ done.length ≤ at_ ∧ aH H H2 ∧ H2 D = some (.lst (qs.map fun q:Addr × Addr=>.ref q.1)) ∧
    Paired (CAt A H H2) qs done ∧ (∀ q ∈ qs,q.2 ≠ D) ∧ cs = done ++ rest ∧ PyFlat.calls PyVbcnao.shape f (ns.drop at_) = some rest,?_,?_⟩
   ·rintro σ2 H2 ⟨a,b,c,d,e,u3,u4,u5,mm',h0,h1,h2⟩
    exact ⟨mm',h1,a,b,c,d,e,u3,u4,u5,h0,h2⟩
   refine ⟨_,rfl,_,rfl,_,_,_,_,rfl,rfl,s1.seq hp,gP tW,?_⟩
   refine ⟨_,rfl,_,_,rfl,rfl,?_⟩
   have e1:((at_:Nat):Int) + 1 = ((at_ + 1:Nat):Int):=rfl
   refine ⟨_,rfl,_,rfl,_,rfl,_,rfl,_,rfl,_,_,_,_,rfl,rfl,T.ahx.sq _,gP hnV,_,_,rfl,rfl,_,rfl,_,_,rfl,s1.seq hp,fun gv hgv=>?_⟩
   have adV:Ci (ns.map V.int) (some (((at_:Nat):Int) + 1)) (some (((at_:Nat):Int) + 1 + ((n:Nat):Int))) = ((ns.drop (at_ + 1)).take n).map V.int:=by
    rw [show ((at_:Nat):Int) + 1 + ((n:Nat):Int) = ((at_ + 1 + n:Nat):Int) from rfl,e1,aec _ (by omega),show at_ + 1 + n - (at_ + 1) = n by omega,List.map_take,List.map_drop]
   rw [adV]
   have s2:=aH.lay s1 hgv (.lst (((ns.drop (at_ + 1)).take n).map V.int))
   have ngv:H gv = none:=s1.free hgv
   have hln:(((ns.drop (at_ + 1)).take n).map V.int).length = n:=by
    rw [List.length_map,List.length_take]
    exact Nat.min_eq_left hnl
   refine ⟨_,rfl,_,rfl,_,_,rfl,.inl (aM.of ae),_,_,rfl,rfl,?_⟩
   rw [hln]
   have D2:upd H1 gv (.lst (((ns.drop (at_ + 1)).take n).map V.int)) D = some (.lst (qs.map fun q:Addr × Addr=>.ref q.1)):=(aH.upd hgv) _ _ fq
   dsimp only
   refine rS (t1:=K5 _ _ _) (fun σ' H'=>∃ (g':Addr) (at':Nat) (u5:Option V),σ' = [some (.ref p),some (.ref D),some (nV at'),some (nV m),some (.ref g'),u5] ∧ aH H1 H' ∧ H' g' = some (.lst ((numOf c).2.map V.int)) ∧ H1 g' = none ∧ at_ < at' ∧ at' ≤ ns.length ∧ ns.drop at' = t ∧ (numOf c).1 = m) ?_ ?_
   ·rintro σ' H3 ⟨g',at',u5',rfl,s3,hg3,ng3,fk,hle,hdt,hnm⟩
    have D3:=s3 _ _ fq
    refine ⟨_,rfl,.inl ⟨rfl,_,aM.of D3⟩,_,rfl,_,rfl,fun cx qu ncx aj2 aqu=>⟨cx,qu,_,_,rfl,ae,rfl,?_⟩⟩
    rw [dO]
    have s4:aH H3 (nB H3 cx qu A.fG (Ef.zip [nV m,.ref g'])):=aH.nB ncx aj2
    refine ⟨_,_,_,rfl,rfl,s4 _ _ D3,?_,?_⟩
    ·rw [List.length_map,cQ SI]
     exact Nat.lt_of_le_of_lt (Nat.le_trans hdl (Nat.le_trans (Nat.le_of_lt d') hlen)) (by decide)
    ·have hcD:cx ≠ D:=fun y=>by rw [y,D3] at ncx; cases ncx
     have hgD:g' ≠ D:=fun y=>by rw [y,fq] at ng3; cases ng3
     have nd:∀ b o,b ≠ D → nB H3 cx qu A.fG (Ef.zip [nV m,.ref g']) b = some o → upd (nB H3 cx qu A.fG (Ef.zip [nV m,.ref g'])) D (.lst ((qs.map fun q:Addr × Addr=>V.ref q.1) ++ [V.ref cx])) b = some o:=fun b o m1 e=>by
      rw [ak m1]
      exact e
     refine ⟨at',done ++ [c],aoq,f',qs ++ [(cx,g')],_,_,_,ns.length - at',rfl,by omega,by omega,?_,aH.put ((s1.trans s3).trans s4) hD _,?_,vD (uI SI fun q c' hq r=>?_) (vC ⟨⟨⟨qu,?_⟩,?_⟩,?_⟩),?_,?_,?_⟩
     ·rw [List.length_append]
      show done.length + 1 ≤ at'
      omega
     ·rw [ae,List.map_append]
      rfl
     ·obtain ⟨⟨⟨dq,a1⟩,a2⟩,a3⟩:=r
      exact ⟨⟨⟨dq,nd _ _ (dN a1 fq (by intro y; cases y)) (s4 _ _ (s3 _ _ a1))⟩,nd _ _ (hqD q hq) (s4 _ _ (s3 _ _ a2))⟩,a3⟩
     ·rw [hnm]
      exact nd _ _ hcD ae
     ·exact nd _ _ hgD (s4 _ _ hg3)
     ·exact s1.free ng3
     ·intro q hq
      rcases List.mem_append.mp hq with hq | hq
      ·exact hqD q hq
      ·rw [List.mem_singleton.mp hq]
       exact hgD
     ·rw [ecs,List.append_assoc]
      rfl
     ·rw [hdt]
      exact anl
   ·intro akG
    refine ⟨_,rfl,lz,fun tp htp=>?_⟩
    have s3:=aH.upd (o:=.tup [.int 1,.int 11]) htp
    have s13:aH H1 _:=(aH.upd hgv).trans s3
    refine ⟨_,_,rfl,.inr (j0.of ae),rfl,rfl,_,rfl,?_⟩
    have ein:ZK (nV m) [.int 1,.int 11] = decide (m = 1 ∨ m = 11):=by
     rcases (aj5 m (by omega)) with
      rfl | rfl | rfl | rfl | rfl | rfl | rfl | rfl | rfl | rfl | rfl | rfl | rfl | rfl | rfl | rfl | rfl | rfl | rfl | rfl <;> rfl
    show if ZK (nV m) [.int 1,.int 11] = true then _ else _
    rw [ein]
    refine aZ (fun y=>?_) (fun y=>?_)
    ·have y':=of_decide_eq_true y
     rcases akP with ⟨hm,_⟩ | ⟨_,q,r',hdq,hq0,hql,ec,et⟩
     ·exact absurd y' hm
     rw [List.drop_drop] at hdq
     obtain ⟨apO,aht,aqw⟩:=aiS hdq
     obtain ⟨qn,rfl⟩:∃ qn:Nat,q = (qn:Int):=⟨q.toNat,by omega⟩
     have hql:qn ≤ r'.length:=hql
     have apN:(ns.map V.int)[at_ + 1 + n]? = some (.int (qn:Int)):=by rw [List.getElem?_map,apO]; rfl
     refine ⟨_,rfl,_,rfl,_,_,rfl,rfl,_,rfl,_,rfl,_,_,rfl,rfl,_,rfl,_,rfl,_,_,_,_,rfl,rfl,(s1.trans s13).seq hp,gP apN,_,_,rfl,rfl,_,rfl,_,_,rfl,(s1.trans s13).seq hp,fun rw hrw=>?_⟩
     have aoP:Ci (ns.map V.int) (some (((at_:Nat):Int) + 1 + ((n:Nat):Int) + 1)) (some (((at_:Nat):Int) + 1 + ((n:Nat):Int) + 1 + ((qn:Nat):Int))) = (r'.take qn).map V.int:=by
      rw [show ((at_:Nat):Int) + 1 + ((n:Nat):Int) + 1 + ((qn:Nat):Int) = ((at_ + 1 + n + 1 + qn:Nat):Int) from rfl,show ((at_:Nat):Int) + 1 + ((n:Nat):Int) + 1 = ((at_ + 1 + n + 1:Nat):Int) from rfl,aec _ (by omega),show at_ + 1 + n + 1 + qn - (at_ + 1 + n + 1) = qn by omega,List.map_take,← aht,List.map_drop]
     rw [aoP]
     have hrl:((r'.take qn).map V.int).length = qn:=by
      rw [List.length_map,List.length_take]
      exact Nat.min_eq_left hql
     refine ⟨_,rfl,_,rfl,_,_,rfl,.inl (aM.of ae),_,_,rfl,rfl,_,_,rfl,rfl,?_⟩
     rw [hrl]
     have s4:=aH.upd (o:=.lst ((r'.take qn).map V.int)) hrw
     refine ⟨_,rfl,_,rfl,_,_,_,_,rfl,rfl,s4 _ _ (s3 _ _ ae),ae,?_,fun g2 hg2=>?_⟩
     ·rw [hln,hrl]
      have h1:n ≤ 4:=by
       rcases y' with rfl | rfl
       ·cases ake
        decide
       ·cases ake
        decide
      have h2:r'.length ≤ ns.length:=by rw [← aht,List.length_drop]; omega
      exact small (m:=20000) (by omega)
     ·have s5:=aH.upd (o:=.lst (((ns.drop (at_ + 1)).take n).map V.int ++ (r'.take qn).map V.int)) hg2
      have ng2:H1 g2 = none:=(s13.trans s4).free hg2
      refine akG _ _ ⟨g2,at_ + 1 + n + (1 + qn),_,rfl,(s13.trans s4).trans s5,?_,ng2,by omega,?_,?_,?_⟩
      ·rw [ae,ec]
       show some (HO.lst _) = some (HO.lst (((ns.drop (at_ + 1)).take n ++ ([r'.take qn]:List (List Int)).flatten).map V.int))
       rw [List.map_append]
       simp
      ·have:r'.length = ns.length - (at_ + 1 + n + 1):=by rw [← aht,List.length_drop]
       omega
      ·rw [et,show at_ + 1 + n + (1 + qn) = at_ + 1 + n + 1 + qn by omega,← List.drop_drop,aht]
       rfl
      ·rw [ec]
       rfl
    ·have y':¬ (m = 1 ∨ m = 11):=fun z=>y (decide_eq_true z)
     rcases akP with ⟨_,ec,et⟩ | ⟨hm,_⟩
     ·refine akG _ _ ⟨gv,at_ + 1 + n,_,rfl,s13,?_,hgv,by omega,?_,?_,?_⟩
      ·rw [s3 _ _ ae,ec]
       show _ = some (HO.lst (((ns.drop (at_ + 1)).take n ++ ([]:List (List Int)).flatten).map V.int))
       simp
      ·rw [List.length_drop] at hnl
       omega
      ·rw [et,List.drop_drop]
      ·rw [ec]
       rfl
     ·exact absurd hm y'
  ·have d':¬ at_ < ns.length:=fun y=>d (decide_eq_true y)
   rw [List.drop_eq_nil_of_le (by omega)] at abl
   rw [aiY abl,List.append_nil] at ecs
   subst ecs
   exact ⟨_,rfl,k H1 D qs s1 fq hD SI⟩
end
end Pt
namespace Pt
open PySem PySem.Spec PyProof.Rows L2
theorem tO {z:Int} (h:VbcnaoNeutral.num z = true):-(2 ^ 63) ≤ z ∧ z < 2 ^ 63:=by
 unfold VbcnaoNeutral.num NeutralIO.within at h
 rw [Bool.and_eq_true,decide_eq_true_eq,decide_eq_true_eq] at h
 omega
theorem aii {l:List Int} {n:Nat} (h:VbcnaoNeutral.row l n = true):∀ z ∈ l,-(2 ^ 63) ≤ z ∧ z < 2 ^ 63:=by
 unfold VbcnaoNeutral.row at h
 rw [Bool.and_eq_true,List.all_eq_true] at h
 exact fun z hz=>tO (h.2 z hz)
theorem ic {p:Int → Prop} (hn:∀ n,p (Int.negSucc n)) (hb:∀ n:Nat,p (Int.ofNat (n + 20))) (h0:p 0) (h1:p 1) (h2:p 2) (h3:p 3) (h4:p 4) (h5:p 5) (h6:p 6) (h7:p 7) (h8:p 8) (h9:p 9) (h10:p 10) (h11:p 11) (h12:p 12) (h13:p 13) (h14:p 14) (h15:p 15) (h16:p 16) (h17:p 17) (h18:p 18) (h19:p 19):∀ z,p z
 | .negSucc n=>hn n
 | .ofNat 0=>h0
 | .ofNat 1=>h1
 | .ofNat 2=>h2
 | .ofNat 3=>h3
 | .ofNat 4=>h4
 | .ofNat 5=>h5
 | .ofNat 6=>h6
 | .ofNat 7=>h7
 | .ofNat 8=>h8
 | .ofNat 9=>h9
 | .ofNat 10=>h10
 | .ofNat 11=>h11
 | .ofNat 12=>h12
 | .ofNat 13=>h13
 | .ofNat 14=>h14
 | .ofNat 15=>h15
 | .ofNat 16=>h16
 | .ofNat 17=>h17
 | .ofNat 18=>h18
 | .ofNat 19=>h19
 | .ofNat (n + 20)=>hb n
section
variable {p:List Int → List (List Int) → Prop}
theorem mO (h1:p [] []) (h2:∀ l r,p [] (l :: r)) (h3:∀ a t r,p (a :: t) r):∀ as r,p as r
 | [],[]=>h1
 | [],l :: r=>h2 l r
 | a :: t,r=>h3 a t r
theorem vX (h0:∀ r,p [] r) (h1:∀ a,p [a] []) (h2:∀ a l r,p [a] (l :: r)) (h3:∀ a b t r,p (a :: b :: t) r):∀ as r,p as r
 | [],r=>h0 r
 | [a],[]=>h1 a
 | [a],l :: r=>h2 a l r
 | a :: b :: t,r=>h3 a b t r
theorem cs3 (h0:∀ r,p [] r) (h1:∀ a r,p [a] r) (h2:∀ a b r,p [a,b] r) (h3:∀ a b c,p [a,b,c] []) (h4:∀ a b c l r,p [a,b,c] (l :: r)) (h5:∀ a b c d t r,p (a :: b :: c :: d :: t) r):∀ as r,p as r
 | [],r=>h0 r
 | [a],r=>h1 a r
 | [a,b],r=>h2 a b r
 | [a,b,c],[]=>h3 a b c
 | [a,b,c],l :: r=>h4 a b c l r
 | a :: b :: c :: d :: t,r=>h5 a b c d t r
theorem cs4 (h0:∀ r,p [] r) (h1:∀ a r,p [a] r) (h2:∀ a b r,p [a,b] r) (h3:∀ a b c r,p [a,b,c] r) (h4:∀ a b c d,p [a,b,c,d] []) (h5:∀ a b c d l r,p [a,b,c,d] (l :: r)) (h6:∀ a b c d e t r,p (a :: b :: c :: d :: e :: t) r):∀ as r,p as r
 | [],r=>h0 r
 | [a],r=>h1 a r
 | [a,b],r=>h2 a b r
 | [a,b,c],r=>h3 a b c r
 | [a,b,c,d],[]=>h4 a b c d
 | [a,b,c,d],l :: r=>h5 a b c d l r
 | a :: b :: c :: d :: e :: t,r=>h6 a b c d e t r
theorem cr0 (h0:p [] []) (h1:∀ l,p [] [l]) (h2:∀ l m r,p [] (l :: m :: r)) (h3:∀ a t r,p (a :: t) r):∀ as r,p as r
 | [],[]=>h0
 | [],[l]=>h1 l
 | [],l :: m :: r=>h2 l m r
 | a :: t,r=>h3 a t r
theorem cr1 (h0:∀ r,p [] r) (h1:∀ a,p [a] []) (h2:∀ a l,p [a] [l]) (h3:∀ a l m r,p [a] (l :: m :: r)) (h4:∀ a b t r,p (a :: b :: t) r):∀ as r,p as r
 | [],r=>h0 r
 | [a],[]=>h1 a
 | [a],[l]=>h2 a l
 | [a],l :: m :: r=>h3 a l m r
 | a :: b :: t,r=>h4 a b t r
end
noncomputable def Tells (c:List (List Int)):Prop :=
 (∀ S:SS,VbcnaoNeutral.step S c = Vbcnao.step S (qQ (numOf c).1 (numOf c).2)) ∧ (∀ z ∈ (numOf c).2,-(2 ^ 63) ≤ z ∧ z < 2 ^ 63) ∧ (numOf c).1 ≤ 19 ∧ ajH (numOf c).1 (numOf c).2
noncomputable abbrev Ask (k:Int) (as:List Int) (r:List (List Int)):Prop:=VbcnaoNeutral.asked1 ((k :: as) :: r) = true → Tells ((k :: as) :: r)
theorem aY {q:Prop} (h:false = true):q:=absurd h Bool.false_ne_true
theorem tM (a:Int) (ha:VbcnaoNeutral.num a = true):∀ z ∈ [a] ++ ([]:List (List Int)).flatten,-(2 ^ 63) ≤ z ∧ z < 2 ^ 63:=fun z hz=>by
 have:z = a:=by simpa using hz
 rw [this]
 exact tO ha
theorem DG:∀ z ∈ ([]:List Int) ++ ([]:List (List Int)).flatten,-(2 ^ 63) ≤ z ∧ z < 2 ^ 63:=fun z hz=>absurd hz (by show ¬ z ∈ ([]:List Int); simp)
theorem ao7:∀ as r,Ask 0 as r:=cs4 (fun _ h=>aY h) (fun _ _ h=>aY h) (fun _ _ _ h=>aY h) (fun _ _ _ _ h=>aY h)
 (fun a b c d h=>by
  have h:(VbcnaoNeutral.num a && (VbcnaoNeutral.num b && (VbcnaoNeutral.num c && VbcnaoNeutral.num d))) = true:=h
  rw [Bool.and_eq_true,Bool.and_eq_true,Bool.and_eq_true] at h
  refine ⟨fun S=>rfl,fun z hz=>?_,Nat.le_of_ble_eq_true rfl,rfl⟩
  have hz:z ∈ [a,b,c,d]:=hz
  rcases List.mem_cons.mp hz with rfl | hz
  ·exact tO h.1
  rcases List.mem_cons.mp hz with rfl | hz
  ·exact tO h.2.1
  rcases List.mem_cons.mp hz with rfl | hz
  ·exact tO h.2.2.1
  rw [List.mem_singleton.mp hz]
  exact tO h.2.2.2)
 (fun _ _ _ _ _ _ h=>aY h) (fun _ _ _ _ _ _ _ h=>aY h)
theorem ao6:∀ as r,Ask 1 as r:=cr0 (fun h=>aY h)
 (fun l h=>by
  have e:numOf [[1],l] = (1,l):=by
   show ((1:Int).toNat,[] ++ ([l]:List (List Int)).flatten) = _
   simp
  unfold Tells
  rw [e]
  exact ⟨fun S=>rfl,aii h,Nat.le_of_ble_eq_true rfl,trivial⟩)
 (fun _ _ _ h=>aY h) (fun _ _ _ h=>aY h)
theorem anW:∀ as r,Ask 11 as r:=cr1 (fun _ h=>aY h) (fun _ h=>aY h)
 (fun a l h=>by
  have h:(VbcnaoNeutral.num a && VbcnaoNeutral.row l 128) = true:=h
  rw [Bool.and_eq_true] at h
  have e:numOf [[11,a],l] = (11,a :: l):=by
   show ((11:Int).toNat,[a] ++ ([l]:List (List Int)).flatten) = _
   simp
  unfold Tells
  rw [e]
  refine ⟨fun S=>rfl,fun z hz=>?_,Nat.le_of_ble_eq_true rfl,by show a :: l ≠ []; simp⟩
  rcases List.mem_cons.mp hz with rfl | hz
  ·exact tO h.1
  ·exact aii h.2 z hz)
 (fun _ _ _ _ h=>aY h) (fun _ _ _ _ h=>aY h)
theorem anU:∀ as r,Ask 13 as r:=cs3 (fun _ h=>aY h) (fun _ _ h=>aY h) (fun _ _ _ h=>aY h)
 (fun a b c h=>by
  have h:(VbcnaoNeutral.num a && (VbcnaoNeutral.num b && VbcnaoNeutral.num c)) = true:=h
  rw [Bool.and_eq_true,Bool.and_eq_true] at h
  refine ⟨fun S=>rfl,fun z hz=>?_,Nat.le_of_ble_eq_true rfl,rfl⟩
  have hz:z ∈ [a,b,c]:=hz
  rcases List.mem_cons.mp hz with rfl | hz
  ·exact tO h.1
  rcases List.mem_cons.mp hz with rfl | hz
  ·exact tO h.2.1
  rw [List.mem_singleton.mp hz]
  exact tO h.2.2)
 (fun _ _ _ _ _ h=>aY h) (fun _ _ _ _ _ _ h=>aY h)
theorem ao4:∀ as r,Ask 3 as r:=vX (fun _ h=>aY h) (fun a h=>⟨fun S=>rfl,tM a h,Nat.le_of_ble_eq_true rfl,rfl⟩) (fun _ _ _ h=>aY h) (fun _ _ _ _ h=>aY h)
theorem ao3:∀ as r,Ask 4 as r:=vX (fun _ h=>aY h) (fun a h=>⟨fun S=>rfl,tM a h,Nat.le_of_ble_eq_true rfl,rfl⟩) (fun _ _ _ h=>aY h) (fun _ _ _ _ h=>aY h)
theorem ao2:∀ as r,Ask 5 as r:=vX (fun _ h=>aY h) (fun a h=>⟨fun S=>rfl,tM a h,Nat.le_of_ble_eq_true rfl,rfl⟩) (fun _ _ _ h=>aY h) (fun _ _ _ _ h=>aY h)
theorem ao1:∀ as r,Ask 6 as r:=vX (fun _ h=>aY h) (fun a h=>⟨fun S=>rfl,tM a h,Nat.le_of_ble_eq_true rfl,rfl⟩) (fun _ _ _ h=>aY h) (fun _ _ _ _ h=>aY h)
theorem ao0:∀ as r,Ask 7 as r:=vX (fun _ h=>aY h) (fun a h=>⟨fun S=>rfl,tM a h,Nat.le_of_ble_eq_true rfl,rfl⟩) (fun _ _ _ h=>aY h) (fun _ _ _ _ h=>aY h)
theorem aoZ:∀ as r,Ask 8 as r:=vX (fun _ h=>aY h) (fun a h=>⟨fun S=>rfl,tM a h,Nat.le_of_ble_eq_true rfl,rfl⟩) (fun _ _ _ h=>aY h) (fun _ _ _ _ h=>aY h)
theorem aoY:∀ as r,Ask 9 as r:=vX (fun _ h=>aY h) (fun a h=>⟨fun S=>rfl,tM a h,Nat.le_of_ble_eq_true rfl,rfl⟩) (fun _ _ _ h=>aY h) (fun _ _ _ _ h=>aY h)
theorem anV:∀ as r,Ask 12 as r:=vX (fun _ h=>aY h) (fun a h=>⟨fun S=>rfl,tM a h,Nat.le_of_ble_eq_true rfl,rfl⟩) (fun _ _ _ h=>aY h) (fun _ _ _ _ h=>aY h)
theorem anT:∀ as r,Ask 14 as r:=vX (fun _ h=>aY h) (fun a h=>⟨fun S=>rfl,tM a h,Nat.le_of_ble_eq_true rfl,rfl⟩) (fun _ _ _ h=>aY h) (fun _ _ _ _ h=>aY h)
theorem anS:∀ as r,Ask 15 as r:=vX (fun _ h=>aY h) (fun a h=>⟨fun S=>rfl,tM a h,Nat.le_of_ble_eq_true rfl,rfl⟩) (fun _ _ _ h=>aY h) (fun _ _ _ _ h=>aY h)
theorem ao5:∀ as r,Ask 2 as r:=mO (fun _=>⟨fun S=>rfl,DG,Nat.le_of_ble_eq_true rfl,trivial⟩) (fun _ _ h=>aY h) (fun _ _ _ h=>aY h)
theorem anY:∀ as r,Ask 10 as r:=mO (fun _=>⟨fun S=>rfl,DG,Nat.le_of_ble_eq_true rfl,trivial⟩) (fun _ _ h=>aY h) (fun _ _ _ h=>aY h)
theorem anR:∀ as r,Ask 16 as r:=mO (fun _=>⟨fun S=>rfl,DG,Nat.le_of_ble_eq_true rfl,trivial⟩) (fun _ _ h=>aY h) (fun _ _ _ h=>aY h)
theorem anQ:∀ as r,Ask 17 as r:=mO (fun _=>⟨fun S=>rfl,DG,Nat.le_of_ble_eq_true rfl,trivial⟩) (fun _ _ h=>aY h) (fun _ _ _ h=>aY h)
theorem anP:∀ as r,Ask 18 as r:=mO (fun _=>⟨fun S=>rfl,DG,Nat.le_of_ble_eq_true rfl,trivial⟩) (fun _ _ h=>aY h) (fun _ _ _ h=>aY h)
theorem anO:∀ as r,Ask 19 as r:=mO (fun _=>⟨fun S=>rfl,DG,Nat.le_of_ble_eq_true rfl,trivial⟩) (fun _ _ h=>aY h) (fun _ _ _ h=>aY h)
theorem aiN:∀ {c:List (List Int)} (h:VbcnaoNeutral.asked1 c = true),Tells c
 | [],h=>aY h
 | [] :: _,h=>aY h
 | (k :: as) :: r,h=>ic (p:=fun k=>Ask k as r) (fun _ h=>aY h) (fun _ h=>aY h) (ao7 as r) (ao6 as r) (ao5 as r) (ao4 as r) (ao3 as r) (ao2 as r) (ao1 as r) (ao0 as r) (aoZ as r) (aoY as r) (anY as r) (anW as r) (anV as r) (anU as r) (anT as r) (anS as r) (anR as r) (anQ as r) (anP as r) (anO as r) k h
noncomputable abbrev uv (k:Int) (as:List Int) (r:List (List Int)):Prop:=PyVbcnao.whole ((k :: as) :: r) = (k :: as) :: r
theorem aoe:∀ as r,uv 0 as r:=cs4 (fun _=>rfl) (fun _ _=>rfl) (fun _ _ _=>rfl) (fun _ _ _ _=>rfl) (fun _ _ _ _=>rfl) (fun _ _ _ _ _ _=>rfl) (fun _ _ _ _ _ _ _=>rfl)
theorem aod:∀ as r,uv 1 as r:=cr0 rfl (fun _=>rfl) (fun _ _ _=>rfl) (fun _ _ _=>rfl)
theorem aoc:∀ as r,uv 2 as r:=mO rfl (fun _ _=>rfl) (fun _ _ _=>rfl)
theorem aob:∀ as r,uv 3 as r:=vX (fun _=>rfl) (fun _=>rfl) (fun _ _ _=>rfl) (fun _ _ _ _=>rfl)
theorem aoa:∀ as r,uv 4 as r:=vX (fun _=>rfl) (fun _=>rfl) (fun _ _ _=>rfl) (fun _ _ _ _=>rfl)
theorem an9:∀ as r,uv 5 as r:=vX (fun _=>rfl) (fun _=>rfl) (fun _ _ _=>rfl) (fun _ _ _ _=>rfl)
theorem an8:∀ as r,uv 6 as r:=vX (fun _=>rfl) (fun _=>rfl) (fun _ _ _=>rfl) (fun _ _ _ _=>rfl)
theorem an7:∀ as r,uv 7 as r:=vX (fun _=>rfl) (fun _=>rfl) (fun _ _ _=>rfl) (fun _ _ _ _=>rfl)
theorem an6:∀ as r,uv 8 as r:=vX (fun _=>rfl) (fun _=>rfl) (fun _ _ _=>rfl) (fun _ _ _ _=>rfl)
theorem an5:∀ as r,uv 9 as r:=vX (fun _=>rfl) (fun _=>rfl) (fun _ _ _=>rfl) (fun _ _ _ _=>rfl)
theorem amm:∀ as r,uv 10 as r:=mO rfl (fun _ _=>rfl) (fun _ _ _=>rfl)
theorem aml:∀ as r,uv 11 as r:=cr1 (fun _=>rfl) (fun _=>rfl) (fun _ _=>rfl) (fun _ _ _ _=>rfl) (fun _ _ _ _=>rfl)
theorem amk:∀ as r,uv 12 as r:=vX (fun _=>rfl) (fun _=>rfl) (fun _ _ _=>rfl) (fun _ _ _ _=>rfl)
theorem amj:∀ as r,uv 13 as r:=cs3 (fun _=>rfl) (fun _ _=>rfl) (fun _ _ _=>rfl) (fun _ _ _=>rfl) (fun _ _ _ _ _=>rfl) (fun _ _ _ _ _ _=>rfl)
theorem ami:∀ as r,uv 14 as r:=vX (fun _=>rfl) (fun _=>rfl) (fun _ _ _=>rfl) (fun _ _ _ _=>rfl)
theorem amh:∀ as r,uv 15 as r:=vX (fun _=>rfl) (fun _=>rfl) (fun _ _ _=>rfl) (fun _ _ _ _=>rfl)
theorem amg:∀ as r,uv 16 as r:=mO rfl (fun _ _=>rfl) (fun _ _ _=>rfl)
theorem amf:∀ as r,uv 17 as r:=mO rfl (fun _ _=>rfl) (fun _ _ _=>rfl)
theorem ame:∀ as r,uv 18 as r:=mO rfl (fun _ _=>rfl) (fun _ _ _=>rfl)
theorem amd:∀ as r,uv 19 as r:=mO rfl (fun _ _=>rfl) (fun _ _ _=>rfl)
theorem aja:∀ c:List (List Int),PyVbcnao.whole c = c
 | []=>rfl
 | [] :: _=>rfl
 | (k :: as) :: r=>ic (p:=fun k=>uv k as r) (fun _=>rfl) (fun _=>rfl) (aoe as r) (aod as r) (aoc as r) (aob as r) (aoa as r) (an9 as r) (an8 as r) (an7 as r) (an6 as r) (an5 as r) (amm as r) (aml as r) (amk as r) (amj as r) (ami as r) (amh as r) (amg as r) (amf as r) (ame as r) (amd as r) k
noncomputable def after (S:SS):List (List (List Int)) → SS
 | []=>S
 | c :: l=>after (VbcnaoNeutral.step S c).1 l
theorem ai5 (S:SS):∀ l m:List (List (List Int)),after S (l ++ m) = after (after S l) m:=by
 intro l
 induction l generalizing S with
 | nil=>exact fun _=>rfl
 | cons c l ih=>exact fun m=>ih _ m
theorem agX (S:SS):∀ l m:List (List (List Int)),PyFlat.played VbcnaoNeutral.step S (l ++ m) = PyFlat.played VbcnaoNeutral.step S l ++ PyFlat.played VbcnaoNeutral.step (after S l) m:=by
 intro l
 induction l generalizing S with
 | nil=>exact fun _=>rfl
 | cons c l ih=>exact fun m=>congrArg (List.cons _) (ih _ m)
theorem ajc (l m:List (List Int)):PyFlat.told (l ++ m) = PyFlat.told l ++ PyFlat.told m:=List.flatMap_append
theorem ajn {A:bg} {H:Hp} {sx:Addr} {S:SS} {c:Nat} {ow:Addr → Prop} (h:Ses A H sx S c ow) (hc:c ≤ 400) (q:Vbcnao.Call):(Vbcnao.step S q).2.length ≤ 40962:=by
 cases q with
 | begin_ n cap life room =>
  unfold Vbcnao.step
  dsimp only
  split <;> simp
 | _ =>
  unfold Vbcnao.step
  dsimp only
  split
  ·simp
  ·rename_i hon
   obtain ⟨dx,⟨h1,_⟩ | ⟨ρ,ps,_,_,G,_⟩⟩:=h
   ·exact absurd h1 hon
   ·exact G.long hc _
section
variable {P:Program} {w:World} {K:W.Frag} {mg:Str → Option Value} {base:Heap} {A:bg}
noncomputable def K6 (K:W.Frag):Sp:=fun vs H Q _=>∃ (a:Addr) (ns:List Int),vs = [.ref a] ∧ aM K H a (ns.map V.int) ∧ ns.length ≤ 16000 ∧ PyVbcnao.answers_asked ns = true ∧ ∀ (H':Hp) (p:Addr),H' p = some (.lst ((PyVbcnao.answers ns).map V.int)) → Q (.ref p) H'
theorem ag4 (T:Txt K mg A):aD P w K mg base aC 10 A.lT A.Qt ["calls"] (K6 K):=by
 refine T.aaf.ok Vr (fun vs H Q E h=>?_) (fun au R outer s H vs Q E hr h=>?_)
 ·obtain ⟨a,ns,rfl,_⟩:=h
  rfl
 ·obtain ⟨a,ns,rfl,ha,hlen,zF,k⟩:=h
  unfold PyVbcnao.answers_asked at zF
  unfold PyVbcnao.answers at k
  cases EG:PyVbcnao.calls ns with
  | none =>
   rw [EG] at zF
   cases zF
  | some mO =>
  rw [EG] at zF k
  dsimp only at zF k
  obtain ⟨cs,Wl,ecs⟩:∃ cs,PyFlat.calls PyVbcnao.shape ns.length ns = some cs ∧ mO = cs:=by
   unfold PyVbcnao.calls at EG
   cases e:PyFlat.calls PyVbcnao.shape ns.length ns with
   | none =>
    rw [e] at EG
    cases EG
   | some cs =>
    rw [e] at EG
    refine ⟨cs,rfl,(Option.some.inj EG).symm.trans ?_⟩
    have:(PyVbcnao.whole:List (List Int) → List (List Int)) = id:=funext aja
    rw [this,List.map_id]
  subst ecs
  rw [Bool.and_eq_true] at zF
  obtain ⟨_,zF⟩:=zF
  unfold VbcnaoNeutral.asked at zF
  simp only [Bool.and_eq_true,decide_eq_true_eq,List.all_eq_true] at zF
  obtain ⟨⟨_,akQ,j4⟩,_⟩:=zF
  refine ⟨_,(agy T hr (VM T) (aaM T) (R3 T)).2,?_⟩
  intro sx vP nsx apC nes
  refine ⟨sx,vP,rfl,ae,rfl,?_⟩
  rw [dO]
  have s1:aH H (nB H sx vP A.bH (za .bL)):=aH.nB nsx apC
  refine ⟨Nat.zero_le _,fun D hD=>?_⟩
  have s2:=aH.upd (o:=.lst []) hD
  have anj:=s2 _ _ (aiE (H:=H) (x:=sx) (dx:=vP) (C:=A.bH) (fs:=za .bL))
  refine ⟨_,rfl,a,ns,ns.length,mO,rfl,(s1.trans s2).seq ha,hlen,Wl,fun H3 L qs s3 hL nL hq=>?_⟩
  have aj7:=s3 _ _ anj
  have hD3:=s3 _ _ (ae (H:=nB H sx vP A.bH (za .bL)) (a:=D) (o:=.lst []))
  have hDL:D ≠ L:=ay (ae (H:=nB H sx vP A.bH (za .bL)) (a:=D) (o:=.lst [])) nL
  have aoA:=cQ hq
  have hqD:∀ q ∈ qs,q.2 ≠ D ∧ q.2 ≠ sx:=fun q ED=>by
   obtain ⟨c,_,r⟩:=DE hq ED
   exact ⟨Ne.symm (ay (ae (H:=nB H sx vP A.bH (za .bL)) (a:=D) (o:=.lst [])) r.2),Ne.symm (ay anj r.2)⟩
  have SI:∀ q ∈ qs,q.1 ≠ sx ∧ q.1 ≠ D:=fun q ED=>by
   obtain ⟨c,_,⟨⟨⟨dq,r⟩,_⟩,_⟩⟩:=DE hq ED
   refine ⟨fun z=>?_,dN r hD3 (by intro z; cases z)⟩
   rw [z,aj7] at r
   injection r with r
   injection r with r1 _ _
   have nc:=T.wM
   simp only [List.nodup_cons,List.mem_cons,not_or,List.not_mem_nil,not_false_eq_true,or_false,List.nodup_nil,and_true] at nc
   simp [r1] at nc
  refine ⟨_,rfl,⟨_,aM.of hL⟩,iK (K:=K) (a:=L) (xs:=qs.map fun q:Addr × Addr=>V.ref q.1) (fun i σ H'=>∃ (u3 u4:Option V) (ow:Addr → Prop),σ = [some (.ref a),some (.ref sx),some (.ref D),u3,u4] ∧ i ≤ mO.length ∧ Ses A H' sx (after VbcnaoNeutral.start (mO.take i)) i ow ∧
    (∀ b o,H3 b = some o → b ≠ sx → b ≠ D → H' b = some o ∧ ¬ ow b) ∧ ¬ ow sx ∧ ¬ ow D ∧ H' D = some (.lst ((PyFlat.told (PyFlat.played VbcnaoNeutral.step VbcnaoNeutral.start (mO.take i))).map V.int)) ∧ (PyFlat.told (PyFlat.played VbcnaoNeutral.step VbcnaoNeutral.start (mO.take i))).length ≤ 40963 * i)
   ⟨none,none,fun _=>False,rfl,Nat.zero_le _,⟨vP,.inl ⟨rfl,aj7,fun _ h=>h⟩⟩,fun b o e _ _=>⟨e,fun h=>h⟩,fun h=>h,fun h=>h,hD3,Nat.le_refl _⟩ (fun i σ H' _ ⟨_,_,_,_,_,_,hk,_⟩=>?_) ?_ ?_⟩
  ·refine aM.of (hk L _ hL ?_ (Ne.symm hDL)).1
   exact fun z=>by rw [z,aj7] at hL; cases hL
  ·rintro i y σ H' sf ⟨u3,u4,ow,rfl,akf,Mv,hk,Yg,noD,Wq,abn⟩
   obtain ⟨q,SH,rfl⟩:=nE (f:=fun q:Addr × Addr=>V.ref q.1) sf
   obtain ⟨c,hci,ap3⟩:=lY hq SH
   have ED:=List.mem_of_getElem? SH
   have aqA:i < mO.length:=(List.getElem?_eq_some_iff.mp hci).1
   obtain ⟨fs,fb,fm,fp⟩:=aiN (j4 c (List.mem_of_getElem? hci))
   obtain ⟨⟨⟨dq,c1⟩,c2⟩,c3⟩:=ap3
   have k1:=hk _ _ c1 (SI q ED).1 (SI q ED).2
   have k2:=hk _ _ c2 (hqD q ED).2 (hqD q ED).1
   have adD:∃ dx v,H' sx = some (.ins A.bH dx (za v)):=by
    obtain ⟨dx,⟨_,h,_⟩ | ⟨ρ,ps,h,_⟩⟩:=Mv
    ·exact ⟨dx,_,h⟩
    ·exact ⟨dx,_,h⟩
   obtain ⟨ZU,vi,adD⟩:=adD
   have abm:=ajn Mv (by omega) (qQ (numOf c).1 (numOf c).2)
   have aqd:after VbcnaoNeutral.start (mO.take (i + 1)) = (Vbcnao.step (after VbcnaoNeutral.start (mO.take i)) (qQ (numOf c).1 (numOf c).2)).1:=by
    rw [take_snoc hci,ai5]
    show (VbcnaoNeutral.step _ c).1 = _
    rw [fs]
   have akT:PyFlat.told (PyFlat.played VbcnaoNeutral.step VbcnaoNeutral.start (mO.take (i + 1))) = PyFlat.told (PyFlat.played VbcnaoNeutral.step VbcnaoNeutral.start (mO.take i)) ++ ((((Vbcnao.step (after VbcnaoNeutral.start (mO.take i)) (qQ (numOf c).1 (numOf c).2)).2.length:Nat):Int) :: (Vbcnao.step (after VbcnaoNeutral.start (mO.take i)) (qQ (numOf c).1 (numOf c).2)).2):=by
    rw [take_snoc hci,agX,ajc]
    congr 1
    show PyFlat.told [(VbcnaoNeutral.step _ c).2] = _
    rw [fs]
    show ((_ :: _) ++ []:List Int) = _
    rw [List.append_nil]
   refine ⟨_,rfl,_,_,_,rfl,adD,aL Sd,_,rfl,sx,q,(numOf c).1,(numOf c).2,_,i,ow,rfl,Mv,by omega,⟨⟨dq,k1.1⟩,k2.1⟩,k2.2,Yg,fm,fp,fb,fun H4 p ow4 apq JI gr4 nw4 hp4=>?_⟩
   have pD:D ≠ p:=nw4 D _ Wq noD
   have hD4:H4 D = some (.lst ((PyFlat.told (PyFlat.played VbcnaoNeutral.step VbcnaoNeutral.start (mO.take i))).map V.int)):=JI D _ Wq noD (dN Wq adD (by intro z; cases z))
   have hl1:(PyFlat.told (PyFlat.played VbcnaoNeutral.step VbcnaoNeutral.start (mO.take i))).length ≤ 40963 * 399:=Nat.le_trans abn (Nat.mul_le_mul_left _ (by omega))
   refine ⟨_,rfl,.inl ⟨rfl,_,aM.of hD4⟩,_,rfl,_,_,rfl,.inl (aM.of hp4),_,_,_,rfl,rfl,hD4,?_,?_⟩
   ·rw [List.length_map]
    exact Nat.lt_of_le_of_lt hl1 (by decide)
   rw [List.length_map]
   refine ⟨_,rfl,.inl ⟨rfl,_,aM.of ae⟩,_,rfl,_,_,_,_,rfl,rfl,ae,(by rw [ak (Ne.symm pD)]; exact hp4),?_,?_⟩
   ·rw [List.length_append,List.length_map,List.length_map]
    show _ + 1 + _ ≤ sizeLine
    refine Nat.le_trans (m:=40963 * 400) ?_ (by decide)
    omega
   rw [dO]
   have am2:¬ ow4 D:=fun h=>(gr4 D h).elim noD fun z=>by rw [Wq] at z; cases z
   have aot:¬ ow4 sx:=fun h=>(gr4 sx h).elim Yg fun z=>by rw [adD] at z; cases z
   refine ⟨_,_,ow4,rfl,by omega,?_,fun b o e m1 m2=>?_,aot,am2,?_,?_⟩
   ·rw [aqd]
    obtain ⟨dx,⟨h1,h2,h3⟩ | ⟨ρ,ps,h1,h2,h3,h4,h5⟩⟩:=apq
    ·exact ⟨dx,.inl ⟨h1,by rw [ak (dN h2 hD4 (by intro z; cases z))]; exact h2,h3⟩⟩
    ·have nD:¬ iU ρ _ ps D:=fun z=>am2 ((h4 D).mpr z)
     exact ⟨dx,.inr ⟨ρ,ps,by rw [ak (dN h1 hD4 (by intro z; cases z))]; exact h1,h2.Kr nD hD4 (fun z=>z) _,h3,h4,h5⟩⟩
   ·obtain ⟨e1,e2⟩:=hk b o e m1 m2
    refine ⟨?_,fun h=>(gr4 b h).elim e2 fun z=>by rw [e1] at z; cases z⟩
    rw [ak m2]
    exact JI b o e1 e2 m1
   ·rw [ae,akT,List.map_append,List.append_assoc]
    rfl
   ·rw [akT,List.length_append,List.length_cons]
    omega
  ·rintro σ H' ⟨u3,u4,ow,rfl,akf,Mv,hk,Yg,noD,Wq,abn⟩
   rw [List.length_map,aoA,List.take_length] at Wq
   exact ⟨_,rfl,k H' D Wq⟩
end
end Pt
namespace Pt
open PySem PySem.Spec PyProof.Rows L2
noncomputable abbrev aQ (n q:Str) (s:Stmt):=W.fnOf n q (zL s) (aI s) (ah s)
theorem all_mk {P:Program} {w:World} {K:W.Frag} {h:Heap} {mg:Str → Option Value} {fa:Addr} (X:K.In h) (G:h.Ns mainGlobals mg) (hfa:mg "answers" = some (.ref fa))
  {c5 bK bZ aE bX aN aU fG bH jj gZ gB gD cZ b7 dY cG d7 cV cz bA bW b8 bU b9 cy eM fF bx cu cC cY dI jl kQ qt lI rA cO wj gC dH kC iL gV gW gr cM eV fD eK eJ fB cU g7 dc dW eL rq dJ ej dX c9 fQ kN eU gX gY gu kO fM gz kP ig jZ gx jk fC jm fE gE gy dZ c6 dB lT qy yX vn:Addr}
  {aiw aad acV Q9 acU Q8 acY Rc T3 Fw Ht uo X3 KD NL yS X5 KH OX Bu Lu yj AU om Hu uq Hv ur D8 rO Hw uu Ls yi X4 KG aaU Ny NK yR Lr yh Jw v5 aaT Nv R5 Dl ajT aev aiv aac amW ai4 ajS aeu alK agr VS GV acX Rb R4 Dj ajQ aes ae0 Te acQ Q4 acR Q5 aaP Nq Jv vZ VP GR XZ KA XX Ky XW Kx aaO Np OU Br aeZ Td OW Bt VN GP XY Kz alH ago R6 Dm TY Ft VQ GS OV Bs ag6 WV alF agm VO GQ acS Q6 acT Q7 aaR Nt alG agn acW Ra ag7 WW alI agp aix aae alJ agq ag5 WU ajR aet aaQ Nr ajU aew X0 KC acZ Rf aaS Nu VR GU R7 Dn TZ Fv ag8 WX ahB:Option Addr}
  {ah9 acd ab9 acg Tv G9 Xs NH Xv N6 K9 AE Hg Hh DX Hi K8 Xu aaE NG K7 IU aaD RU ajt ah8 amC ajs ale Vk acf RT ajp aeU ab5 ab6 aaz IT Vh Xq Xo Xn aay N3 aeT N5 Vf Xp alb RV Tt Vi N4 agN ak9 Vg ab7 ab8 aaB ala ace agO alc aia ald agM ajr aaA aju Xr ach aaC Vj RW Tu agP ahy:Array (Option Value)}
  {aiz ZH ZW Zy QZ Z4 ac5 Py Qk Oz Fj QJ ac4 Px Qj Ox Fi QI ac8 PD Qn OC Fp QM T6 Ez ET D0 vd E1 Hx tS tY tI mH uf Yc JO J3 Jm z4 Ko NO yD yI yt qd yM Ye JQ J5 Jp z6 Kq O1 A4 Bb AO rN Bk Lx w9 xJ wF o4 xU AV n9 oh n6 jB oj Hy tT tZ tJ mJ ug Hz tU t6 tK mK uh D9 qU rB qJ kU rE HA tV t7 tL mL um Lw w6 xH wD oZ xT Yd JP J4 Jo z5 Kp aa1 MQ M6 MG Cy Nl NN yC yH yr qc yL Lv wZ xG wC oY xS Jy vM vR vF nY vW aa0 MP M5 MF Cw Nk R9 C1 C6 CW sW Dg ajY ady ad1 acB UH aeg aiy ZG ZV Zx QY Z3 amX aiI aiU ain ael aiW ajX adx ad0 acA UG aef alQ afQ af4 afE Y0 agg VZ Gj Gx F7 yf GK ac7 PB Qm OB Fo QL R8 C0 C5 CV sV Df ajV adv adY acy UD aed ae2 SD SW Sx Ir S5 ac0 Pq Qe Ot Fd QE ac1 Pr Qg Ou Fe QF aaW ML MZ MB Cs Ng Jx vL vQ vE nX vV VW Gg Gu F4 yc GH X9 JM J1 Jk z0 Km X7 JK JZ Ji zY Kh X6 JJ JY Jh zX Kg aaV MK MY MA Cr Nf OY A1 A8 AL rK Bg ae1 SA SV Sv Iq S0 O0 A3 Ba AN rM Bj VT Ge Gr F2 ya GF X8 JL J0 Jj zZ Kl alN afN af1 afB YX agd Sa C2 C7 CY sX Dh T4 Ew ER DY u9 EY VX Gh Gv F5 yd GI OZ A2 A9 AM rL Bh aha V7 WA VB Ma WL alL afL afZ afz YV agb VU Gf Gs F3 yb GG ac2 Pu Qh Ov Ff QG ac3 Pw Qi Ow Fg QH aaY MN M3 MD Cu Ni alM afM af0 afA YW agc ac6 Pz Ql OA Fl QK ahb V8 WB VC Mb WM alO afO af2 afC YY age aiA ZI ZX Zz Q0 Z5 alP afP af3 afD YZ agf ag9 V6 Wz VA L8 WK ajW adw adZ acz UE aee aaX MM M0 MC Ct Nh ajZ adz ad2 acC UI aeh Yb JN J2 Jl z3 Kn ac9 PF Qo OD Fq QN aaZ MO M4 ME Cv Nj VY Gi Gw F6 ye GJ Sb C3 C8 CZ sY Di T5 Ey ES DZ vc EZ ahc V9 WC VD Mc WN:Value}
  {FW:Obj}
  {U6 ahI akn ahC:Nat}
  {i8 gc gb Ve aeR abD Vd abV agz NX abZ AB amr ak4 ak5 aji ak2 ah2 ak3 NY ams abY K4 abX agA To ajj abW abK abJ abI abH abG abF abE agK agJ agI agH agG agF agE agD agC agB abU abT abS abR abQ abP abO abN abM abL aaw aav aau aat aas aar aaq aap aao aan:Tok}
  (Zb:W.nsIn K mainGlobals "Part" = some (some (.ref c5)))
  (XM:W.plainGet K c5 Str.empty = true)
  (YA:W.hasDictIn K c5 = true)
  (XG:W.plainOver K c5 = true)
  (XA:W.findIn K (.ref c5) "__setattr__" = some (some (.builtin "object.__setattr__")))
  (JC:W.makesIn K c5 = true)
  (Yr:W.keepIn K (.ref c5) = true)
  (jU:W.findIn K (.ref c5) "total" = some none)
  (gh:W.findIn K (.ref c5) "came" = some none)
  (Rg:W.nsIn K mainGlobals "Switch" = some (some (.ref bK)))
  (OG:W.plainGet K bK Str.empty = true)
  (PM:W.hasDictIn K bK = true)
  (Om:W.plainOver K bK = true)
  (Od:W.findIn K (.ref bK) "__setattr__" = some (some (.builtin "object.__setattr__")))
  (vI:W.makesIn K bK = true)
  (Pg:W.keepIn K (.ref bK) = true)
  (gI:W.findIn K (.ref bK) "start" = some none)
  (eI:W.findIn K (.ref bK) "current" = some none)
  (fV:W.findIn K (.ref bK) "floor" = some none)
  (cE:W.findIn K (.ref bK) "parts" = some none)
  (Ri:W.nsIn K mainGlobals "Memory" = some (some (.ref bZ)))
  (OI:W.plainGet K bZ Str.empty = true)
  (PR:W.hasDictIn K bZ = true)
  (Oq:W.plainOver K bZ = true)
  (Of:W.findIn K (.ref bZ) "__setattr__" = some (some (.builtin "object.__setattr__")))
  (vJ:W.makesIn K bZ = true)
  (Pj:W.keepIn K (.ref bZ) = true)
  (eR:W.findIn K (.ref bZ) "have" = some none)
  (eA:W.findIn K (.ref bZ) "turned" = some none)
  (fK:W.findIn K (.ref bZ) "gone" = some none)
  (CA:W.nsIn K mainGlobals "Controller" = some (some (.ref aE)))
  (BG:W.plainGet K aE Str.empty = true)
  (Ca:W.hasDictIn K aE = true)
  (BE:W.plainOver K aE = true)
  (BC:W.findIn K (.ref aE) "__setattr__" = some (some (.builtin "object.__setattr__")))
  (pq:W.makesIn K aE = true)
  (BS:W.keepIn K (.ref aE) = true)
  (cR:W.findIn K (.ref aE) "published" = some none)
  (aV:W.findIn K (.ref aE) "in_force" = some none)
  (b5:W.findIn K (.ref aE) "pending" = some none)
  (cF:W.findIn K (.ref aE) "retired" = some none)
  (bY:W.findIn K (.ref aE) "starts" = some none)
  (bD:W.findIn K (.ref aE) "memories" = some none)
  (Rh:W.nsIn K mainGlobals "Packet" = some (some (.ref bX)))
  (OH:W.plainGet K bX Str.empty = true)
  (PN:W.hasDictIn K bX = true)
  (Oo:W.plainOver K bX = true)
  (Oe:W.findIn K (.ref bX) "__setattr__" = some (some (.builtin "object.__setattr__")))
  (AX:W.makesIn K bX = true)
  (Ph:W.keepIn K (.ref bX) = true)
  (jV:W.findIn K (.ref bX) "key" = some none)
  (fW:W.findIn K (.ref bX) "route" = some none)
  (fh:W.findIn K (.ref bX) "passed" = some none)
  (gJ:W.findIn K (.ref bX) "stamp" = some none)
  (jf:W.findIn K (.ref bX) "time" = some none)
  (UP:W.nsIn K mainGlobals "World" = some (some (.ref aN)))
  (TQ:W.plainGet K aN Str.empty = true)
  (Us:W.hasDictIn K aN = true)
  (TM:W.plainOver K aN = true)
  (TH:W.findIn K (.ref aN) "__setattr__" = some (some (.builtin "object.__setattr__")))
  (Eg:W.makesIn K aN = true)
  (Uh:W.keepIn K (.ref aN) = true)
  (nA:W.findIn K (.ref aN) "cap" = some none)
  (jT:W.findIn K (.ref aN) "life" = some none)
  (lH:W.findIn K (.ref aN) "room" = some none)
  (iS:W.findIn K (.ref aN) "book" = some none)
  (fz:W.findIn K (.ref aN) "now" = some none)
  (cN:W.findIn K (.ref aN) "switches" = some none)
  (aR:W.findIn K (.ref aN) "controller" = some none)
  (dF:W.findIn K (.ref aN) "bag" = some none)
  (jS:W.findIn K (.ref aN) "lost" = some none)
  (cT:W.findIn K (.ref aN) "packets" = some none)
  (hU:W.findIn K (.ref aN) "entered" = some none)
  (gg:W.findIn K (.ref aN) "delivered" = some none)
  (di:W.findIn K (.ref aN) "dropped_for" = some none)
  (Ml:W.nsIn K mainGlobals "Message" = some (some (.ref aU)))
  (Ll:W.plainGet K aU Str.empty = true)
  (LQ:W.hasDictIn K aU = true)
  (Lj:W.plainOver K aU = true)
  (Le:W.findIn K (.ref aU) "__setattr__" = some (some (.builtin "object.__setattr__")))
  (jo:W.makesIn K aU = true)
  (LL:W.keepIn K (.ref aU) = true)
  (bG:W.findIn K (.ref aU) "kind" = some none)
  (eO:W.findIn K (.ref aU) "x" = some none)
  (dG:W.findIn K (.ref aU) "start" = some none)
  (br:W.findIn K (.ref aU) "version" = some none)
  (gi:W.findIn K (.ref aU) "place" = some none)
  (ie:W.findIn K (.ref aU) "total" = some none)
  (eZ:W.findIn K (.ref aU) "rule" = some none)
  (Zc:W.nsIn K mainGlobals "Call" = some (some (.ref fG)))
  (XN:W.plainGet K fG Str.empty = true)
  (YB:W.hasDictIn K fG = true)
  (XH:W.plainOver K fG = true)
  (XC:W.findIn K (.ref fG) "__setattr__" = some (some (.builtin "object.__setattr__")))
  (JD:W.makesIn K fG = true)
  (Ys:W.keepIn K (.ref fG) = true)
  (jg:W.findIn K (.ref fG) "number" = some none)
  (iT:W.findIn K (.ref fG) "given" = some none)
  (Mj:W.nsIn K mainGlobals "Session" = some (some (.ref bH)))
  (Lk:W.plainGet K bH Str.empty = true)
  (LP:W.hasDictIn K bH = true)
  (Li:W.plainOver K bH = true)
  (Ld:W.findIn K (.ref bH) "__setattr__" = some (some (.builtin "object.__setattr__")))
  (wO:W.makesIn K bH = true)
  (LK:W.keepIn K (.ref bH) = true)
  (fg:W.findIn K (.ref bH) "world" = some none)
  (UR:W.nsIn K mainGlobals "is_key" = some (some (.ref jj)))
  (Ue:K.lookup jj = some ⟨aiz,aiw,.func (aQ "is_key" "is_key" zc .none ZH ZW Zy aad QZ Z4),ah9⟩)
  (QS:W.codeIn K QZ "is_key" = true)
  (Uj:W.keepIn K (.ref jj) = true)
  (IC:W.nsIn K mainGlobals "rule_fits" = some (some (.ref gZ)))
  (HR:K.lookup gZ = some ⟨ac5,acV,.func (aQ "rule_fits" "rule_fits" pL .none Py Qk Oz Q9 Fj QJ),acd⟩)
  (E7:W.codeIn K Fj "rule_fits" = true)
  (Ic:W.keepIn K (.ref gZ) = true)
  (IB:W.nsIn K mainGlobals "rules_say" = some (some (.ref gB)))
  (HQ:K.lookup gB = some ⟨ac4,acU,.func (aQ "rules_say" "rules_say" pK .none Px Qj Ox Q8 Fi QI),ab9⟩)
  (E6:W.codeIn K Fi "rules_say" = true)
  (Ib:W.keepIn K (.ref gB) = true)
  (EK:W.findIn K (.ref c5) "__init__" = some (some (.ref gD)))
  (EB:W.isFn K (.ref gD) = true)
  (HV:K.lookup gD = some ⟨ac8,acY,.func (aQ "__init__" "Part.__init__" pO .none PD Qn OC Rc Fp QM),acg⟩)
  (Fb:W.codeIn K Fp "Part.__init__" = true)
  (Ih:W.keepIn K (.ref gD) = true)
  (uX:W.findIn K (.ref c5) "is_whole" = some (some (.ref cZ)))
  (uU:W.isFn K (.ref cZ) = true)
  (wW:K.lookup cZ = some ⟨T6,T3,.func (aQ "is_whole" "Part.is_whole" jF .none Ez ET D0 Fw vd E1),Tv⟩)
  (u7:W.codeIn K vd "Part.is_whole" = true)
  (qj:W.keepIn K (.ref cZ) = true)
  (mw:W.findIn K (.ref c5) "rules_by_place" = some (some (.ref b7)))
  (l8:W.isFn K (.ref b7) = true)
  (nF:K.lookup b7 = some ⟨Hx,Ht,.func (aQ "rules_by_place" "Part.rules_by_place" eN .none tS tY tI uo mH uf),G9⟩)
  (mD:W.codeIn K mH "Part.rules_by_place" = true)
  (jI:W.keepIn K (.ref b7) = true)
  (zI:W.findIn K (.ref bK) "__init__" = some (some (.ref dY)))
  (zC:W.isFn K (.ref dY) = true)
  (BP:K.lookup dY = some ⟨Yc,X3,.func (aQ "__init__" "Switch.__init__" lD .none JO J3 Jm KD z4 Ko),Xs⟩)
  (zT:W.codeIn K z4 "Switch.__init__" = true)
  (BZ:W.keepIn K (.ref dY) = true)
  (p9:W.findIn K (.ref bK) "has_whole" = some (some (.ref cG)))
  (pZ:W.isFn K (.ref cG) = true)
  (qT:K.lookup cG = some ⟨NO,NL,.func (aQ "has_whole" "Switch.has_whole" iq .none yD yI yt yS qd yM),NH⟩)
  (qb:W.codeIn K qd "Switch.has_whole" = true)
  (lP:W.keepIn K (.ref cG) = true)
  (zK:W.findIn K (.ref bZ) "__init__" = some (some (.ref d7)))
  (zE:W.isFn K (.ref d7) = true)
  (BR:K.lookup d7 = some ⟨Ye,X5,.func (aQ "__init__" "Memory.__init__" lF .none JQ J5 Jp KH z6 Kq),Xv⟩)
  (zV:W.codeIn K z6 "Memory.__init__" = true)
  (B3:W.keepIn K (.ref d7) = true)
  (rj:W.findIn K (.ref aE) "__init__" = some (some (.ref cV)))
  (qW:W.isFn K (.ref cV) = true)
  (sH:K.lookup cV = some ⟨O1,OX,.func (aQ "__init__" "Controller.__init__" iQ .none A4 Bb AO Bu rN Bk),N6⟩)
  (rJ:W.codeIn K rN "Controller.__init__" = true)
  (sM:W.keepIn K (.ref cV) = true)
  (oN:W.findIn K (.ref aE) "forget" = some (some (.ref cz)))
  (oH:W.isFn K (.ref cz) = true)
  (pX:K.lookup cz = some ⟨Lx,Lu,.func (aQ "forget" "Controller.forget" fR .none w9 xJ wF yj o4 xU),K9⟩)
  (oW:W.codeIn K o4 "Controller.forget" = true)
  (lg:W.keepIn K (.ref cz) = true)
  (jy:W.findIn K (.ref aE) "has_published" = some (some (.ref bA)))
  (jw:W.isFn K (.ref bA) = true)
  (jW:K.lookup bA = some ⟨AV,AU,.func (aQ "has_published" "Controller.has_published" dS .none n9 oh n6 om jB oj),AE⟩)
  (jA:W.codeIn K jB "Controller.has_published" = true)
  (g6:W.keepIn K (.ref bA) = true)
  (my:W.findIn K (.ref aE) "rules_of" = some (some (.ref bW)))
  (l9:W.isFn K (.ref bW) = true)
  (nG:K.lookup bW = some ⟨Hy,Hu,.func (aQ "rules_of" "Controller.rules_of" fY .none tT tZ tJ uq mJ ug),Hg⟩)
  (mE:W.codeIn K mJ "Controller.rules_of" = true)
  (jJ:W.keepIn K (.ref bW) = true)
  (mz:W.findIn K (.ref aE) "all_have" = some (some (.ref b8)))
  (mh:W.isFn K (.ref b8) = true)
  (nH:K.lookup b8 = some ⟨Hz,Hv,.func (aQ "all_have" "Controller.all_have" fZ .none tU t6 tK ur mK uh),Hh⟩)
  (mF:W.codeIn K mK "Controller.all_have" = true)
  (jK:W.keepIn K (.ref b8) = true)
  (kM:W.findIn K (.ref aE) "all_turned" = some (some (.ref bU)))
  (kK:W.isFn K (.ref bU) = true)
  (lu:K.lookup bU = some ⟨D9,D8,.func (aQ "all_turned" "Controller.all_turned" fc .none qU rB qJ rO kU rE),DX⟩)
  (kT:W.codeIn K kU "Controller.all_turned" = true)
  (iV:W.keepIn K (.ref bU) = true)
  (mC:W.findIn K (.ref aE) "all_gone" = some (some (.ref b9)))
  (mj:W.isFn K (.ref b9) = true)
  (nI:K.lookup b9 = some ⟨HA,Hw,.func (aQ "all_gone" "Controller.all_gone" f6 .none tV t7 tL uu mL um),Hi⟩)
  (mG:W.codeIn K mL "Controller.all_gone" = true)
  (jL:W.keepIn K (.ref b9) = true)
  (oM:W.findIn K (.ref aE) "target" = some (some (.ref cy)))
  (oG:W.isFn K (.ref cy) = true)
  (pW:K.lookup cy = some ⟨Lw,Ls,.func (aQ "target" "Controller.target" gO .none w6 xH wD yi oZ xT),K8⟩)
  (oV:W.codeIn K oZ "Controller.target" = true)
  (k9:W.keepIn K (.ref cy) = true)
  (zJ:W.findIn K (.ref bX) "__init__" = some (some (.ref eM)))
  (zD:W.isFn K (.ref eM) = true)
  (BQ:K.lookup eM = some ⟨Yd,X4,.func (aQ "__init__" "Packet.__init__" lE .none JP J4 Jo KG z5 Kp),Xu⟩)
  (zU:W.codeIn K z5 "Packet.__init__" = true)
  (B0:W.keepIn K (.ref eM) = true)
  (Cd:W.findIn K (.ref aN) "__init__" = some (some (.ref fF)))
  (B9:W.isFn K (.ref fF) = true)
  (En:K.lookup fF = some ⟨aa1,aaU,.func (aQ "__init__" "World.__init__" jt .none MQ M6 MG Ny Cy Nl),aaE⟩)
  (Cq:W.codeIn K Cy "World.__init__" = true)
  (Eu:W.keepIn K (.ref fF) = true)
  (p8:W.findIn K (.ref aN) "has_switch" = some (some (.ref bx)))
  (pY:W.isFn K (.ref bx) = true)
  (qS:K.lookup bx = some ⟨NN,NK,.func (aQ "has_switch" "World.has_switch" ik .none yC yH yr yR qc yL),NG⟩)
  (qa:W.codeIn K qc "World.has_switch" = true)
  (lO:W.keepIn K (.ref bx) = true)
  (oK:W.findIn K (.ref aN) "bag_is_full" = some (some (.ref cu)))
  (oF:W.isFn K (.ref cu) = true)
  (pV:K.lookup cu = some ⟨Lv,Lr,.func (aQ "bag_is_full" "World.bag_is_full" gM .none wZ xG wC yh oY xS),K7⟩)
  (oU:W.codeIn K oY "World.bag_is_full" = true)
  (k8:W.keepIn K (.ref cu) = true)
  (nR:W.findIn K (.ref aN) "room_is_full" = some (some (.ref cC)))
  (nO:W.isFn K (.ref cC) = true)
  (oz:K.lookup cC = some ⟨Jy,Jw,.func (aQ "room_is_full" "World.room_is_full" gG .none vM vR vF v5 nY vW),IU⟩)
  (nW:W.codeIn K nY "World.room_is_full" = true)
  (j2:W.keepIn K (.ref cC) = true)
  (Cc:W.findIn K (.ref aN) "send" = some (some (.ref cY)))
  (B8:W.isFn K (.ref cY) = true)
  (Em:K.lookup cY = some ⟨aa0,aaT,.func (aQ "send" "World.send" ny .none MP M5 MF Nv Cw Nk),aaD⟩)
  (Cp:W.codeIn K Cw "World.send" = true)
  (wY:W.keepIn K (.ref cY) = true)
  (vf:W.nsIn K mainGlobals "route_is_right" = some (some (.ref dI)))
  (uK:K.lookup dI = some ⟨R9,R5,.func (aQ "route_is_right" "route_is_right" jb .none C1 C6 CW Dl sW Dg),RU⟩)
  (sR:W.codeIn K sW "route_is_right" = true)
  (uO:W.keepIn K (.ref dI) = true)
  (Zg:W.nsIn K mainGlobals "enter" = some (some (.ref jl)))
  (Yp:K.lookup jl = some ⟨ajY,ajT,.func (aQ "enter" "enter" DB .none ady ad1 acB aev UH aeg),ajt⟩)
  (UB:W.codeIn K UH "enter" = true)
  (k_enter:W.keepIn K (.ref jl) = true)
  (UQ:W.nsIn K mainGlobals "let_in" = some (some (.ref kQ)))
  (Ud:K.lookup kQ = some ⟨aiy,aiv,.func (aQ "let_in" "let_in" zb .none ZG ZV Zx aac QY Z3),ah8⟩)
  (QO:W.codeIn K QY "let_in" = true)
  (Ui:W.keepIn K (.ref kQ) = true)
  (ahP:W.nsIn K mainGlobals "hop" = some (some (.ref qt)))
  (ahl:K.lookup qt = some ⟨amX,amW,.func (aQ "hop" "hop" Rw .none aiI aiU ain ai4 ael aiW),amC⟩)
  (aej:W.codeIn K ael "hop" = true)
  (ahm:W.keepIn K (.ref qt) = true)
  (Zf:W.nsIn K mainGlobals "go_on" = some (some (.ref lI)))
  (Yo:K.lookup lI = some ⟨ajX,ajS,.func (aQ "go_on" "go_on" DA .none adx ad0 acA aeu UG aef),ajs⟩)
  (UA:W.codeIn K UG "go_on" = true)
  (Yv:W.keepIn K (.ref lI) = true)
  (aeC:W.nsIn K mainGlobals "fare" = some (some (.ref rA)))
  (adm:K.lookup rA = some ⟨alQ,alK,.func (aQ "fare" "fare" Je .none afQ af4 afE agr Y0 agg),ale⟩)
  (YQ:W.codeIn K Y0 "fare" = true)
  (adu:W.keepIn K (.ref rA) = true)
  (xD:W.findIn K (.ref aU) "__init__" = some (some (.ref cO)))
  (xo:W.isFn K (.ref cO) = true)
  (zp:K.lookup cO = some ⟨VZ,VS,.func (aQ "__init__" "Message.__init__" kq (.ref wj) Gj Gx F7 GV yf GK),Vk⟩)
  (x8:W.codeIn K yf "Message.__init__" = true)
  (zB:W.keepIn K (.ref cO) = true)
  (we:K.lookup wj = some FW)
  (wg:FW.data = .seq ([(Value.int 0 i8),(Value.int 0 gc),(Value.int 0 gb),(Value.none)]:List Value).toArray U6)
  (IE:W.nsIn K mainGlobals "hand_over" = some (some (.ref gC)))
  (HU:K.lookup gC = some ⟨ac7,acX,.func (aQ "hand_over" "hand_over" pN .none PB Qm OB Rb Fo QL),acf⟩)
  (E9:W.codeIn K Fo "hand_over" = true)
  (Ig:W.keepIn K (.ref gC) = true)
  (ve:W.nsIn K mainGlobals "take_at_switch" = some (some (.ref dH)))
  (uJ:K.lookup dH = some ⟨R8,R4,.func (aQ "take_at_switch" "take_at_switch" ja .none C0 C5 CV Dj sV Df),RT⟩)
  (sQ:W.codeIn K sV "take_at_switch" = true)
  (uN:W.keepIn K (.ref dH) = true)
  (Zd:W.nsIn K mainGlobals "reply" = some (some (.ref kC)))
  (Ym:K.lookup kC = some ⟨ajV,ajQ,.func (aQ "reply" "reply" Dy .none adv adY acy aes UD aed),ajp⟩)
  (Uy:W.codeIn K UD "reply" = true)
  (Yt:W.keepIn K (.ref kC) = true)
  (Mn:W.nsIn K mainGlobals "take_row" = some (some (.ref iL)))
  (LI:K.lookup iL = some ⟨ae2,ae0,.func (aQ "take_row" "take_row" rV .none SD SW Sx Te Ir S5),aeU⟩)
  (Im:W.codeIn K Ir "take_row" = true)
  (LN:W.keepIn K (.ref iL) = true)
  (Iv:W.nsIn K mainGlobals "take_flip" = some (some (.ref gV)))
  (HL:K.lookup gV = some ⟨ac0,acQ,.func (aQ "take_flip" "take_flip" pG .none Pq Qe Ot Q4 Fd QE),ab5⟩)
  (E2:W.codeIn K Fd "take_flip" = true)
  (HX:W.keepIn K (.ref gV) = true)
  (Iw:W.nsIn K mainGlobals "take_drop" = some (some (.ref gW)))
  (HM:K.lookup gW = some ⟨ac1,acR,.func (aQ "take_drop" "take_drop" pH .none Pr Qg Ou Q5 Fe QF),ab6⟩)
  (E3:W.codeIn K Fe "take_drop" = true)
  (HY:W.keepIn K (.ref gW) = true)
  (Fz:W.nsIn K mainGlobals "take_hello" = some (some (.ref gr)))
  (Ei:K.lookup gr = some ⟨aaW,aaP,.func (aQ "take_hello" "take_hello" nj .none ML MZ MB Nq Cs Ng),aaz⟩)
  (Ck:W.codeIn K Cs "take_hello" = true)
  (Ep:W.keepIn K (.ref gr) = true)
  (o7:W.nsIn K mainGlobals "take_at_controller" = some (some (.ref cM)))
  (ou:K.lookup cM = some ⟨Jx,Jv,.func (aQ "take_at_controller" "take_at_controller" gF .none vL vQ vE vZ nX vV),IT⟩)
  (nU:W.codeIn K nX "take_at_controller" = true)
  (oA:W.keepIn K (.ref cM) = true)
  (Aa:W.nsIn K mainGlobals "put_in_force" = some (some (.ref eV)))
  (zl:K.lookup eV = some ⟨VW,VP,.func (aQ "put_in_force" "put_in_force" kj .none Gg Gu F4 GR yc GH),Vh⟩)
  (xY:W.codeIn K yc "put_in_force" = true)
  (zx:W.keepIn K (.ref eV) = true)
  (CF:W.nsIn K mainGlobals "forget_gone" = some (some (.ref fD)))
  (BN:K.lookup fD = some ⟨X9,XZ,.func (aQ "forget_gone" "forget_gone" jQ .none JM J1 Jk KA z0 Km),Xq⟩)
  (zR:W.codeIn K z0 "forget_gone" = true)
  (BX:W.keepIn K (.ref fD) = true)
  (CC:W.nsIn K mainGlobals "tell_policy" = some (some (.ref eK)))
  (BK:K.lookup eK = some ⟨X7,XX,.func (aQ "tell_policy" "tell_policy" lA .none JK JZ Ji Ky zY Kh),Xo⟩)
  (zP:W.codeIn K zY "tell_policy" = true)
  (BV:W.keepIn K (.ref eK) = true)
  (CB:W.nsIn K mainGlobals "tell_switch" = some (some (.ref eJ)))
  (BJ:K.lookup eJ = some ⟨X6,XW,.func (aQ "tell_switch" "tell_switch" ly .none JJ JY Jh Kx zX Kg),Xn⟩)
  (zO:W.codeIn K zX "tell_switch" = true)
  (BU:W.keepIn K (.ref eJ) = true)
  (Fy:W.nsIn K mainGlobals "tell_knows" = some (some (.ref fB)))
  (Eh:K.lookup fB = some ⟨aaV,aaO,.func (aQ "tell_knows" "tell_knows" ni .none MK MY MA Np Cr Nf),aay⟩)
  (Cj:W.codeIn K Cr "tell_knows" = true)
  (Eo:W.keepIn K (.ref fB) = true)
  (sZ:W.nsIn K mainGlobals "tell_controller" = some (some (.ref cU)))
  (sE:K.lookup cU = some ⟨OY,OU,.func (aQ "tell_controller" "tell_controller" iN .none A1 A8 AL Br rK Bg),N3⟩)
  (rF:W.codeIn K rK "tell_controller" = true)
  (sI:W.keepIn K (.ref cU) = true)
  (Mm:W.nsIn K mainGlobals "tell_bag" = some (some (.ref g7)))
  (LH:K.lookup g7 = some ⟨ae1,aeZ,.func (aQ "tell_bag" "tell_bag" rT .none SA SV Sv Td Iq S0),aeT⟩)
  (Il:W.codeIn K Iq "tell_bag" = true)
  (LM:W.keepIn K (.ref g7) = true)
  (tu:W.nsIn K mainGlobals "message_numbers" = some (some (.ref dc)))
  (sG:K.lookup dc = some ⟨O0,OW,.func (aQ "message_numbers" "message_numbers" iP .none A3 Ba AN Bt rM Bj),N5⟩)
  (rH:W.codeIn K rM "message_numbers" = true)
  (sL:W.keepIn K (.ref dc) = true)
  (z8:W.nsIn K mainGlobals "tell_packets" = some (some (.ref dW)))
  (zj:K.lookup dW = some ⟨VT,VN,.func (aQ "tell_packets" "tell_packets" kh .none Ge Gr F2 GP ya GF),Vf⟩)
  (xW:W.codeIn K ya "tell_packets" = true)
  (zu:W.keepIn K (.ref dW) = true)
  (CD:W.nsIn K mainGlobals "tell_counts" = some (some (.ref eL)))
  (BL:K.lookup eL = some ⟨X8,XY,.func (aQ "tell_counts" "tell_counts" lB .none JL J0 Jj Kz zZ Kl),Xp⟩)
  (zQ:W.codeIn K zZ "tell_counts" = true)
  (BW:W.keepIn K (.ref eL) = true)
  (aez:W.nsIn K mainGlobals "tell" = some (some (.ref rq)))
  (adj:K.lookup rq = some ⟨alN,alH,.func (aQ "tell" "tell" Jb .none afN af1 afB ago YX agd),alb⟩)
  (YM:W.codeIn K YX "tell" = true)
  (adq:W.keepIn K (.ref rq) = true)
  (vg:W.nsIn K mainGlobals "begin_is_right" = some (some (.ref dJ)))
  (uL:K.lookup dJ = some ⟨Sa,R6,.func (aQ "begin_is_right" "begin_is_right" jd .none C2 C7 CY Dm sX Dh),RV⟩)
  (sS:W.codeIn K sX "begin_is_right" = true)
  (uP:W.keepIn K (.ref dJ) = true)
  (yk:W.nsIn K mainGlobals "rule_is_right" = some (some (.ref ej)))
  (wU:K.lookup ej = some ⟨T4,TY,.func (aQ "rule_is_right" "rule_is_right" jD .none Ew ER DY Ft u9 EY),Tt⟩)
  (uZ:W.codeIn K u9 "rule_is_right" = true)
  (wX:W.keepIn K (.ref ej) = true)
  (Ab:W.nsIn K mainGlobals "cut_in_rules" = some (some (.ref dX)))
  (zm:K.lookup dX = some ⟨VX,VQ,.func (aQ "cut_in_rules" "cut_in_rules" jc .none Gh Gv F5 GS yd GI),Vi⟩)
  (xZ:W.codeIn K yd "cut_in_rules" = true)
  (zy:W.keepIn K (.ref dX) = true)
  (tq:W.nsIn K mainGlobals "rules_are_right" = some (some (.ref c9)))
  (sF:K.lookup c9 = some ⟨OZ,OV,.func (aQ "rules_are_right" "rules_are_right" iO .none A2 A9 AM Bs rL Bh),N4⟩)
  (rG:W.codeIn K rL "rules_are_right" = true)
  (sJ:W.keepIn K (.ref c9) = true)
  (Rk:W.nsIn K mainGlobals "publish" = some (some (.ref fQ)))
  (Pa:K.lookup fQ = some ⟨aha,ag6,.func (aQ "publish" "publish" vt .none V7 WA VB WV Ma WL),agN⟩)
  (L5:W.codeIn K Ma "publish" = true)
  (Pn:W.keepIn K (.ref fQ) = true)
  (aex:W.nsIn K mainGlobals "work" = some (some (.ref kN)))
  (adh:K.lookup kN = some ⟨alL,alF,.func (aQ "work" "work" I0 .none afL afZ afz agm YV agb),ak9⟩)
  (YK:W.codeIn K YV "work" = true)
  (ado:W.keepIn K (.ref kN) = true)
  (z9:W.nsIn K mainGlobals "send_missing" = some (some (.ref eU)))
  (zk:K.lookup eU = some ⟨VU,VO,.func (aQ "send_missing" "send_missing" ki .none Gf Gs F3 GQ yb GG),Vg⟩)
  (xX:W.codeIn K yb "send_missing" = true)
  (zw:W.keepIn K (.ref eU) = true)
  (Iz:W.nsIn K mainGlobals "send_rows" = some (some (.ref gX)))
  (HN:K.lookup gX = some ⟨ac2,acS,.func (aQ "send_rows" "send_rows" pI .none Pu Qh Ov Q6 Ff QG),ab7⟩)
  (E4:W.codeIn K Ff "send_rows" = true)
  (HZ:W.keepIn K (.ref gX) = true)
  (IA:W.nsIn K mainGlobals "send_flip" = some (some (.ref gY)))
  (HP:K.lookup gY = some ⟨ac3,acT,.func (aQ "send_flip" "send_flip" pJ .none Pw Qi Ow Q7 Fg QH),ab8⟩)
  (E5:W.codeIn K Fg "send_flip" = true)
  (Ia:W.keepIn K (.ref gY) = true)
  (FD:W.nsIn K mainGlobals "send_drops" = some (some (.ref gu)))
  (Ek:K.lookup gu = some ⟨aaY,aaR,.func (aQ "send_drops" "send_drops" nu .none MN M3 MD Nt Cu Ni),aaB⟩)
  (Cn:W.codeIn K Cu "send_drops" = true)
  (Es:W.keepIn K (.ref gu) = true)
  (aey:W.nsIn K mainGlobals "tick" = some (some (.ref kO)))
  (adi:K.lookup kO = some ⟨alM,alG,.func (aQ "tick" "tick" Ja .none afM af0 afA agn YW agc),ala⟩)
  (YL:W.codeIn K YW "tick" = true)
  (adp:W.keepIn K (.ref kO) = true)
  (ID:W.nsIn K mainGlobals "is_in_bag" = some (some (.ref fM)))
  (HS:K.lookup fM = some ⟨ac6,acW,.func (aQ "is_in_bag" "is_in_bag" pM .none Pz Ql OA Ra Fl QK),ace⟩)
  (E8:W.codeIn K Fl "is_in_bag" = true)
  (Ie:W.keepIn K (.ref fM) = true)
  (Rl:W.nsIn K mainGlobals "deliver" = some (some (.ref gz)))
  (Pb:K.lookup gz = some ⟨ahb,ag7,.func (aQ "deliver" "deliver" vv .none V8 WB VC WW Mb WM),agO⟩)
  (L6:W.codeIn K Mb "deliver" = true)
  (Po:W.keepIn K (.ref gz) = true)
  (aeA:W.nsIn K mainGlobals "lose" = some (some (.ref kP)))
  (adk:K.lookup kP = some ⟨alO,alI,.func (aQ "lose" "lose" Jc .none afO af2 afC agp YY age),alc⟩)
  (YN:W.codeIn K YY "lose" = true)
  (ads:W.keepIn K (.ref kP) = true)
  (US:W.nsIn K mainGlobals "double" = some (some (.ref ig)))
  (Ug:K.lookup ig = some ⟨aiA,aix,.func (aQ "double" "double" zd .none ZI ZX Zz aae Q0 Z5),aia⟩)
  (QT:W.codeIn K Q0 "double" = true)
  (Uk:W.keepIn K (.ref ig) = true)
  (aeB:W.nsIn K mainGlobals "flow" = some (some (.ref jZ)))
  (adl:K.lookup jZ = some ⟨alP,alJ,.func (aQ "flow" "flow" Jd .none afP af3 afD agq YZ agf),ald⟩)
  (YO:W.codeIn K YZ "flow" = true)
  (adt:W.keepIn K (.ref jZ) = true)
  (Rj:W.nsIn K mainGlobals "restart" = some (some (.ref gx)))
  (O9:K.lookup gx = some ⟨ag9,ag5,.func (aQ "restart" "restart" vq .none V6 Wz VA WU L8 WK),agM⟩)
  (L4:W.codeIn K L8 "restart" = true)
  (Pk:W.keepIn K (.ref gx) = true)
  (Ze:W.nsIn K mainGlobals "hello" = some (some (.ref jk)))
  (Yn:K.lookup jk = some ⟨ajW,ajR,.func (aQ "hello" "hello" Dz .none adw adZ acz aet UE aee),ajr⟩)
  (Uz:W.codeIn K UE "hello" = true)
  (Yu:W.keepIn K (.ref jk) = true)
  (FA:W.nsIn K mainGlobals "send_hello" = some (some (.ref fC)))
  (Ej:K.lookup fC = some ⟨aaX,aaQ,.func (aQ "send_hello" "send_hello" nt .none MM M0 MC Nr Ct Nh),aaA⟩)
  (Cm:W.codeIn K Ct "send_hello" = true)
  (Er:W.keepIn K (.ref fC) = true)
  (Zh:W.nsIn K mainGlobals "crash" = some (some (.ref jm)))
  (Yq:K.lookup jm = some ⟨ajZ,ajU,.func (aQ "crash" "crash" DC .none adz ad2 acC aew UI aeh),aju⟩)
  (UC:W.codeIn K UI "crash" = true)
  (Yw:W.keepIn K (.ref jm) = true)
  (CG:W.nsIn K mainGlobals "answer_call" = some (some (.ref fE)))
  (BO:K.lookup fE = some ⟨Yb,X0,.func (aQ "answer_call" "answer_call" lC .none JN J2 Jl KC z3 Kn),Xr⟩)
  (zS:W.codeIn K z3 "answer_call" = true)
  (BY:W.keepIn K (.ref fE) = true)
  (EL:W.findIn K (.ref fG) "__init__" = some (some (.ref gE)))
  (EC:W.isFn K (.ref gE) = true)
  (HW:K.lookup gE = some ⟨ac9,acZ,.func (aQ "__init__" "Call.__init__" pP .none PF Qo OD Rf Fq QN),ach⟩)
  (Fc:W.codeIn K Fq "Call.__init__" = true)
  (Ii:W.keepIn K (.ref gE) = true)
  (FE:W.nsIn K mainGlobals "read_calls" = some (some (.ref gy)))
  (El:K.lookup gy = some ⟨aaZ,aaS,.func (aQ "read_calls" "read_calls" nv .none MO M4 ME Nu Cv Nj),aaC⟩)
  (Co:W.codeIn K Cv "read_calls" = true)
  (Et:W.keepIn K (.ref gy) = true)
  (xC:W.findIn K (.ref bH) "__init__" = some (some (.ref dZ)))
  (xn:W.isFn K (.ref dZ) = true)
  (zo:K.lookup dZ = some ⟨VY,VR,.func (aQ "__init__" "Session.__init__" ko .none Gi Gw F6 GU ye GJ),Vj⟩)
  (x6:W.codeIn K ye "Session.__init__" = true)
  (zA:W.keepIn K (.ref dZ) = true)
  (sO:W.findIn K (.ref bH) "answer" = some (some (.ref c6)))
  (sN:W.isFn K (.ref c6) = true)
  (uM:K.lookup c6 = some ⟨Sb,R7,.func (aQ "answer" "Session.answer" je .none C3 C8 CZ Dn sY Di),RW⟩)
  (sU:W.codeIn K sY "Session.answer" = true)
  (oB:W.keepIn K (.ref c6) = true)
  (uW:W.findIn K (.ref bH) "begin" = some (some (.ref dB)))
  (uT:W.isFn K (.ref dB) = true)
  (wV:K.lookup dB = some ⟨T5,TZ,.func (aQ "begin" "Session.begin" jE .none Ey ES DZ Fv vc EZ),Tu⟩)
  (u6:W.codeIn K vc "Session.begin" = true)
  (qi:W.keepIn K (.ref dB) = true)
  (GW:W.nsIn K mainGlobals "answers" = some (some (.ref lT)))
  (Pc:K.lookup lT = some ⟨ahc,ag8,.func (aQ "answers" "answers" vy .none V9 WC VD WX Mc WN),agP⟩)
  (L7:W.codeIn K Mc "answers" = true)
  (Pp:W.keepIn K (.ref lT) = true)
  (wM:[c5,bK,bZ,aE,bX,aN,aU,fG,bH].Nodup)
  (jM:W.nsIn K mainGlobals "ALL_SWITCHES" = some (some (.int (-1) Ve)))
  (tX:W.nsIn K mainGlobals "LAST_KEY" = some (some (.int (65535) aeR)))
  (iI:W.nsIn K mainGlobals "UNDER_WAY" = some (some (.int (0) abD)))
  (lS:W.nsIn K mainGlobals "NOT_LET_PASS" = some (some (.int (1) Vd)))
  (qY:W.nsIn K mainGlobals "NOT_WHOLE" = some (some (.int (2) abV)))
  (xw:W.nsIn K mainGlobals "TOO_OLD" = some (some (.int (3) agz)))
  (iu:W.nsIn K mainGlobals "NOTHING_CURRENT" = some (some (.int (4) NX)))
  (rh:W.nsIn K mainGlobals "DELIVERED" = some (some (.int (5) abZ)))
  (e8:W.nsIn K mainGlobals "MOST_SWITCHES_OF_A_ROUTE" = some (some (.int (8) AB)))
  (xx:W.nsIn K mainGlobals "ROW" = some (some (.int (0) amr)))
  (zH:W.nsIn K mainGlobals "FLIP" = some (some (.int (1) ak4)))
  (DJ:W.nsIn K mainGlobals "DROP" = some (some (.int (2) ak5)))
  (uV:W.nsIn K mainGlobals "HELLO" = some (some (.int (3) aji)))
  (DI:W.nsIn K mainGlobals "HAVE" = some (some (.int (4) ak2)))
  (qX:W.nsIn K mainGlobals "TURNED" = some (some (.int (5) ah2)))
  (JV:W.nsIn K mainGlobals "GONE" = some (some (.int (6) ak3)))
  (jx:W.nsIn K mainGlobals "ENTER_answering" = some (some (.int (11) NY)))
  (PX:W.nsIn K mainGlobals "HOP" = some (some (.int (12) ams)))
  (nQ:W.nsIn K mainGlobals "LAST_TIME" = some (some (.int (4611686018427387904) abY)))
  (iJ:W.nsIn K mainGlobals "MOST_RULE_NUMBERS" = some (some (.int (64) K4)))
  (rf:W.nsIn K mainGlobals "MOST_FLOW" = some (some (.int (5000) abX)))
  (xy:W.nsIn K mainGlobals "PUBLISH" = some (some (.int (1) agA)))
  (kL:W.nsIn K mainGlobals "ENTER_reading" = some (some (.int (11) To)))
  (EH:W.nsIn K mainGlobals "BEGIN" = some (some (.int (0) ajj)))
  (qZ:W.nsIn K mainGlobals "NOT_BEGUN" = some (some (.int (-20) abW)))
  (xr:W.nsIn K mainGlobals "TELLING" = some (some (.ref qy)))
  (LG:(qy == sysModules) = false)
  (LR:K.lookup qy = some ⟨.type "dict",none,.dict ([⟨hashInt 13,.int 13 abK,.ref eK⟩,⟨hashInt 14,.int 14 abJ,.ref eJ⟩,⟨hashInt 15,.int 15 abI,.ref fB⟩,⟨hashInt 16,.int 16 abH,.ref cU⟩,⟨hashInt 17,.int 17 abG,.ref g7⟩,⟨hashInt 18,.int 18 abF,.ref dW⟩,⟨hashInt 19,.int 19 abE,.ref eL⟩]:List DictEntry).toArray ahI,#[]⟩)
  (zG:W.nsIn K mainGlobals "CALLS" = some (some (.ref yX)))
  (Uc:(yX == sysModules) = false)
  (Ut:K.lookup yX = some ⟨.type "dict",none,.dict ([⟨hashInt 1,.int 1 agK,.ref fQ⟩,⟨hashInt 2,.int 2 agJ,.ref kN⟩,⟨hashInt 3,.int 3 agI,.ref kO⟩,⟨hashInt 4,.int 4 agH,.ref gz⟩,⟨hashInt 5,.int 5 agG,.ref kP⟩,⟨hashInt 6,.int 6 agF,.ref ig⟩,⟨hashInt 7,.int 7 agE,.ref jZ⟩,⟨hashInt 8,.int 8 agD,.ref gx⟩,⟨hashInt 9,.int 9 agC,.ref jk⟩,⟨hashInt 10,.int 10 agB,.ref jm⟩]:List DictEntry).toArray akn,#[]⟩)
  (xu:W.nsIn K mainGlobals "NUMBERS" = some (some (.ref vn)))
  (LS:K.lookup vn = some ⟨.type "tuple",ahB,.seq ([.int 4 abU,.int 0 abT,.int 0 abS,.int 1 abR,.int 1 abQ,.int 1 abP,.int 1 abO,.int 1 abN,.int 1 abM,.int 1 abL,.int 0 aaw,.int 1 aav,.int 1 aau,.int 3 aat,.int 1 aas,.int 1 aar,.int 0 aaq,.int 0 aap,.int 0 aao,.int 0 aan]:List Value).toArray ahC,ahy⟩)
  (qM:W.nsIn K mainGlobals "enumerate" = some none)
  (c8:W.nsIn K mainGlobals "len" = some none)
  (JB:W.nsIn K mainGlobals "list" = some none)
  (JA:W.nsIn K mainGlobals "max" = some none)
  (qL:W.nsIn K mainGlobals "range" = some none)
  (lM:W.nsIn K mainGlobals "sorted" = some none)
  (Ed:W.nsIn K mainGlobals "tuple" = some none)
 :∃ fd:FuncData,(∀ (s:Shared) (us:List Value),us.length = (["calls"]:List Str).length → BindsTo s fd ⟨us,[]⟩ ((["calls"]:List Str).zip us)) ∧ ∀ base:Heap,K.In base → base.Ns mainGlobals mg → aD P w K mg base aC 10 fa fd ["calls"] (K6 K):=by
 have e:=hfa.symm.trans (W.mg_of X G GW)
 cases e
 let A:bg:=⟨c5,
  bK,
  bZ,
  aE,
  bX,
  aN,
  aU,
  fG,
  bH,
  jj,
  aQ "is_key" "is_key" zc .none ZH ZW Zy aad QZ Z4,
  gZ,
  aQ "rule_fits" "rule_fits" pL .none Py Qk Oz Q9 Fj QJ,
  gB,
  aQ "rules_say" "rules_say" pK .none Px Qj Ox Q8 Fi QI,
  gD,
  aQ "__init__" "Part.__init__" pO .none PD Qn OC Rc Fp QM,
  cZ,
  aQ "is_whole" "Part.is_whole" jF .none Ez ET D0 Fw vd E1,
  b7,
  aQ "rules_by_place" "Part.rules_by_place" eN .none tS tY tI uo mH uf,
  dY,
  aQ "__init__" "Switch.__init__" lD .none JO J3 Jm KD z4 Ko,
  cG,
  aQ "has_whole" "Switch.has_whole" iq .none yD yI yt yS qd yM,
  d7,
  aQ "__init__" "Memory.__init__" lF .none JQ J5 Jp KH z6 Kq,
  cV,
  aQ "__init__" "Controller.__init__" iQ .none A4 Bb AO Bu rN Bk,
  cz,
  aQ "forget" "Controller.forget" fR .none w9 xJ wF yj o4 xU,
  bA,
  aQ "has_published" "Controller.has_published" dS .none n9 oh n6 om jB oj,
  bW,
  aQ "rules_of" "Controller.rules_of" fY .none tT tZ tJ uq mJ ug,
  b8,
  aQ "all_have" "Controller.all_have" fZ .none tU t6 tK ur mK uh,
  bU,
  aQ "all_turned" "Controller.all_turned" fc .none qU rB qJ rO kU rE,
  b9,
  aQ "all_gone" "Controller.all_gone" f6 .none tV t7 tL uu mL um,
  cy,
  aQ "target" "Controller.target" gO .none w6 xH wD yi oZ xT,
  eM,
  aQ "__init__" "Packet.__init__" lE .none JP J4 Jo KG z5 Kp,
  fF,
  aQ "__init__" "World.__init__" jt .none MQ M6 MG Ny Cy Nl,
  bx,
  aQ "has_switch" "World.has_switch" ik .none yC yH yr yR qc yL,
  cu,
  aQ "bag_is_full" "World.bag_is_full" gM .none wZ xG wC yh oY xS,
  cC,
  aQ "room_is_full" "World.room_is_full" gG .none vM vR vF v5 nY vW,
  cY,
  aQ "send" "World.send" ny .none MP M5 MF Nv Cw Nk,
  dI,
  aQ "route_is_right" "route_is_right" jb .none C1 C6 CW Dl sW Dg,
  jl,
  aQ "enter" "enter" DB .none ady ad1 acB aev UH aeg,
  kQ,
  aQ "let_in" "let_in" zb .none ZG ZV Zx aac QY Z3,
  qt,
  aQ "hop" "hop" Rw .none aiI aiU ain ai4 ael aiW,
  lI,
  aQ "go_on" "go_on" DA .none adx ad0 acA aeu UG aef,
  rA,
  aQ "fare" "fare" Je .none afQ af4 afE agr Y0 agg,
  cO,
  aQ "__init__" "Message.__init__" kq (.ref wj) Gj Gx F7 GV yf GK,
  gC,
  aQ "hand_over" "hand_over" pN .none PB Qm OB Rb Fo QL,
  dH,
  aQ "take_at_switch" "take_at_switch" ja .none C0 C5 CV Dj sV Df,
  kC,
  aQ "reply" "reply" Dy .none adv adY acy aes UD aed,
  iL,
  aQ "take_row" "take_row" rV .none SD SW Sx Te Ir S5,
  gV,
  aQ "take_flip" "take_flip" pG .none Pq Qe Ot Q4 Fd QE,
  gW,
  aQ "take_drop" "take_drop" pH .none Pr Qg Ou Q5 Fe QF,
  gr,
  aQ "take_hello" "take_hello" nj .none ML MZ MB Nq Cs Ng,
  cM,
  aQ "take_at_controller" "take_at_controller" gF .none vL vQ vE vZ nX vV,
  eV,
  aQ "put_in_force" "put_in_force" kj .none Gg Gu F4 GR yc GH,
  fD,
  aQ "forget_gone" "forget_gone" jQ .none JM J1 Jk KA z0 Km,
  eK,
  aQ "tell_policy" "tell_policy" lA .none JK JZ Ji Ky zY Kh,
  eJ,
  aQ "tell_switch" "tell_switch" ly .none JJ JY Jh Kx zX Kg,
  fB,
  aQ "tell_knows" "tell_knows" ni .none MK MY MA Np Cr Nf,
  cU,
  aQ "tell_controller" "tell_controller" iN .none A1 A8 AL Br rK Bg,
  g7,
  aQ "tell_bag" "tell_bag" rT .none SA SV Sv Td Iq S0,
  dc,
  aQ "message_numbers" "message_numbers" iP .none A3 Ba AN Bt rM Bj,
  dW,
  aQ "tell_packets" "tell_packets" kh .none Ge Gr F2 GP ya GF,
  eL,
  aQ "tell_counts" "tell_counts" lB .none JL J0 Jj Kz zZ Kl,
  rq,
  aQ "tell" "tell" Jb .none afN af1 afB ago YX agd,
  dJ,
  aQ "begin_is_right" "begin_is_right" jd .none C2 C7 CY Dm sX Dh,
  ej,
  aQ "rule_is_right" "rule_is_right" jD .none Ew ER DY Ft u9 EY,
  dX,
  aQ "cut_in_rules" "cut_in_rules" jc .none Gh Gv F5 GS yd GI,
  c9,
  aQ "rules_are_right" "rules_are_right" iO .none A2 A9 AM Bs rL Bh,
  fQ,
  aQ "publish" "publish" vt .none V7 WA VB WV Ma WL,
  kN,
  aQ "work" "work" I0 .none afL afZ afz agm YV agb,
  eU,
  aQ "send_missing" "send_missing" ki .none Gf Gs F3 GQ yb GG,
  gX,
  aQ "send_rows" "send_rows" pI .none Pu Qh Ov Q6 Ff QG,
  gY,
  aQ "send_flip" "send_flip" pJ .none Pw Qi Ow Q7 Fg QH,
  gu,
  aQ "send_drops" "send_drops" nu .none MN M3 MD Nt Cu Ni,
  kO,
  aQ "tick" "tick" Ja .none afM af0 afA agn YW agc,
  fM,
  aQ "is_in_bag" "is_in_bag" pM .none Pz Ql OA Ra Fl QK,
  gz,
  aQ "deliver" "deliver" vv .none V8 WB VC WW Mb WM,
  kP,
  aQ "lose" "lose" Jc .none afO af2 afC agp YY age,
  ig,
  aQ "double" "double" zd .none ZI ZX Zz aae Q0 Z5,
  jZ,
  aQ "flow" "flow" Jd .none afP af3 afD agq YZ agf,
  gx,
  aQ "restart" "restart" vq .none V6 Wz VA WU L8 WK,
  jk,
  aQ "hello" "hello" Dz .none adw adZ acz aet UE aee,
  fC,
  aQ "send_hello" "send_hello" nt .none MM M0 MC Nr Ct Nh,
  jm,
  aQ "crash" "crash" DC .none adz ad2 acC aew UI aeh,
  fE,
  aQ "answer_call" "answer_call" lC .none JN J2 Jl KC z3 Kn,
  gE,
  aQ "__init__" "Call.__init__" pP .none PF Qo OD Rf Fq QN,
  gy,
  aQ "read_calls" "read_calls" nv .none MO M4 ME Nu Cv Nj,
  dZ,
  aQ "__init__" "Session.__init__" ko .none Gi Gw F6 GU ye GJ,
  c6,
  aQ "answer" "Session.answer" je .none C3 C8 CZ Dn sY Di,
  dB,
  aQ "begin" "Session.begin" jE .none Ey ES DZ Fv vc EZ,
  fa,
  aQ "answers" "answers" vy .none V9 WC VD WX Mc WN,
  qy,
  yX,
  vn,
  i8,
  gc,
  gb⟩
 have T:Txt K mg A:=⟨⟨XM,YA,XG,XA⟩,
  W.mg_of X G Zb,
  ⟨JC,EK,EB,Yr⟩,
  jU,
  gh,
  ⟨OG,PM,Om,Od⟩,
  W.mg_of X G Rg,
  ⟨vI,zI,zC,Pg⟩,
  gI,
  eI,
  fV,
  cE,
  ⟨OI,PR,Oq,Of⟩,
  W.mg_of X G Ri,
  ⟨vJ,zK,zE,Pj⟩,
  eR,
  eA,
  fK,
  ⟨BG,Ca,BE,BC⟩,
  W.mg_of X G CA,
  ⟨pq,rj,qW,BS⟩,
  cR,
  aV,
  b5,
  cF,
  bY,
  bD,
  ⟨OH,PN,Oo,Oe⟩,
  W.mg_of X G Rh,
  ⟨AX,zJ,zD,Ph⟩,
  jV,
  fW,
  fh,
  gJ,
  jf,
  ⟨TQ,Us,TM,TH⟩,
  W.mg_of X G UP,
  ⟨Eg,Cd,B9,Uh⟩,
  nA,
  jT,
  lH,
  iS,
  fz,
  cN,
  aR,
  dF,
  jS,
  cT,
  hU,
  gg,
  di,
  ⟨Ll,LQ,Lj,Le⟩,
  W.mg_of X G Ml,
  ⟨jo,xD,xo,LL⟩,
  bG,
  eO,
  dG,
  br,
  gi,
  ie,
  eZ,
  ⟨XN,YB,XH,XC⟩,
  W.mg_of X G Zc,
  ⟨JD,EL,EC,Ys⟩,
  jg,
  iT,
  ⟨Lk,LP,Li,Ld⟩,
  W.mg_of X G Mj,
  ⟨wO,xC,xn,LK⟩,
  fg,
  aS Ue QS Uj,
  W.mg_of X G UR,
  aS HR E7 Ic,
  W.mg_of X G IC,
  aS HQ E6 Ib,
  W.mg_of X G IB,
  aS HV Fb Ih,
  aS wW u7 qj,
  ⟨uX,uU,qj⟩,
  aS nF mD jI,
  ⟨mw,l8,jI⟩,
  aS BP zT BZ,
  aS qT qb lP,
  ⟨p9,pZ,lP⟩,
  aS BR zV B3,
  aS sH rJ sM,
  aS pX oW lg,
  ⟨oN,oH,lg⟩,
  aS jW jA g6,
  ⟨jy,jw,g6⟩,
  aS nG mE jJ,
  ⟨my,l9,jJ⟩,
  aS nH mF jK,
  ⟨mz,mh,jK⟩,
  aS lu kT iV,
  ⟨kM,kK,iV⟩,
  aS nI mG jL,
  ⟨mC,mj,jL⟩,
  aS pW oV k9,
  ⟨oM,oG,k9⟩,
  aS BQ zU B0,
  aS En Cq Eu,
  aS qS qa lO,
  ⟨p8,pY,lO⟩,
  aS pV oU k8,
  ⟨oK,oF,k8⟩,
  aS oz nW j2,
  ⟨nR,nO,j2⟩,
  aS Em Cp wY,
  ⟨Cc,B8,wY⟩,
  aS uK sR uO,
  W.mg_of X G vf,
  aS Yp UB k_enter,
  W.mg_of X G Zg,
  aS Ud QO Ui,
  W.mg_of X G UQ,
  aS ahl aej ahm,
  W.mg_of X G ahP,
  aS Yo UA Yv,
  W.mg_of X G Zf,
  aS adm YQ adu,
  W.mg_of X G aeC,
  ⟨⟨_,_,_,_,_,_,_,_,_,_,rfl,zp,x8⟩,zB⟩,
  ⟨_,_,_,rfl,we,wg⟩,
  aS HU E9 Ig,
  W.mg_of X G IE,
  aS uJ sQ uN,
  W.mg_of X G ve,
  aS Ym Uy Yt,
  W.mg_of X G Zd,
  aS LI Im LN,
  W.mg_of X G Mn,
  aS HL E2 HX,
  W.mg_of X G Iv,
  aS HM E3 HY,
  W.mg_of X G Iw,
  aS Ei Ck Ep,
  W.mg_of X G Fz,
  aS ou nU oA,
  W.mg_of X G o7,
  aS zl xY zx,
  W.mg_of X G Aa,
  aS BN zR BX,
  W.mg_of X G CF,
  aS BK zP BV,
  W.mg_of X G CC,
  aS BJ zO BU,
  W.mg_of X G CB,
  aS Eh Cj Eo,
  W.mg_of X G Fy,
  aS sE rF sI,
  W.mg_of X G sZ,
  aS LH Il LM,
  W.mg_of X G Mm,
  aS sG rH sL,
  W.mg_of X G tu,
  aS zj xW zu,
  W.mg_of X G z8,
  aS BL zQ BW,
  W.mg_of X G CD,
  aS adj YM adq,
  W.mg_of X G aez,
  aS uL sS uP,
  W.mg_of X G vg,
  aS wU uZ wX,
  W.mg_of X G yk,
  aS zm xZ zy,
  W.mg_of X G Ab,
  aS sF rG sJ,
  W.mg_of X G tq,
  aS Pa L5 Pn,
  W.mg_of X G Rk,
  aS adh YK ado,
  W.mg_of X G aex,
  aS zk xX zw,
  W.mg_of X G z9,
  aS HN E4 HZ,
  W.mg_of X G Iz,
  aS HP E5 Ia,
  W.mg_of X G IA,
  aS Ek Cn Es,
  W.mg_of X G FD,
  aS adi YL adp,
  W.mg_of X G aey,
  aS HS E8 Ie,
  W.mg_of X G ID,
  aS Pb L6 Po,
  W.mg_of X G Rl,
  aS adk YN ads,
  W.mg_of X G aeA,
  aS Ug QT Uk,
  W.mg_of X G US,
  aS adl YO adt,
  W.mg_of X G aeB,
  aS O9 L4 Pk,
  W.mg_of X G Rj,
  aS Yn Uz Yu,
  W.mg_of X G Ze,
  aS Ej Cm Er,
  W.mg_of X G FA,
  aS Yq UC Yw,
  W.mg_of X G Zh,
  aS BO zS BY,
  W.mg_of X G CG,
  aS HW Fc Ii,
  aS El Co Et,
  W.mg_of X G FE,
  aS zo x6 zA,
  aS uM sU oB,
  ⟨sO,sN,oB⟩,
  aS wV u6 qi,
  ⟨uW,uT,qi⟩,
  aS Pc L7 Pp,
  W.mg_of X G GW,
  wM,
  ⟨_,W.mg_of X G jM⟩,
  ⟨_,W.mg_of X G tX⟩,
  ⟨_,W.mg_of X G iI⟩,
  ⟨_,W.mg_of X G lS⟩,
  ⟨_,W.mg_of X G qY⟩,
  ⟨_,W.mg_of X G xw⟩,
  ⟨_,W.mg_of X G iu⟩,
  ⟨_,W.mg_of X G rh⟩,
  ⟨_,W.mg_of X G e8⟩,
  ⟨_,W.mg_of X G xx⟩,
  ⟨_,W.mg_of X G zH⟩,
  ⟨_,W.mg_of X G DJ⟩,
  ⟨_,W.mg_of X G uV⟩,
  ⟨_,W.mg_of X G DI⟩,
  ⟨_,W.mg_of X G qX⟩,
  ⟨_,W.mg_of X G JV⟩,
  ⟨_,W.mg_of X G jx⟩,
  ⟨_,W.mg_of X G PX⟩,
  ⟨_,W.mg_of X G nQ⟩,
  ⟨_,W.mg_of X G iJ⟩,
  ⟨_,W.mg_of X G rf⟩,
  ⟨_,W.mg_of X G xy⟩,
  ⟨_,W.mg_of X G kL⟩,
  ⟨_,W.mg_of X G EH⟩,
  ⟨_,W.mg_of X G qZ⟩,
  W.mg_of X G xr,
  ⟨LG,⟨_,_,_,LR,⟨rfl,rfl,rfl⟩,rfl,(.cons ⟨rfl,⟨_,rfl⟩,rfl⟩ (.cons ⟨rfl,⟨_,rfl⟩,rfl⟩ (.cons ⟨rfl,⟨_,rfl⟩,rfl⟩ (.cons ⟨rfl,⟨_,rfl⟩,rfl⟩ (.cons ⟨rfl,⟨_,rfl⟩,rfl⟩ (.cons ⟨rfl,⟨_,rfl⟩,rfl⟩ (.cons ⟨rfl,⟨_,rfl⟩,rfl⟩ .nil)))))))⟩,(by show ([13,14,15,16,17,18,19]:List Int).Nodup; decide)⟩,
  W.mg_of X G zG,
  ⟨Uc,⟨_,_,_,Ut,⟨rfl,rfl,rfl⟩,rfl,(.cons ⟨rfl,⟨_,rfl⟩,rfl⟩ (.cons ⟨rfl,⟨_,rfl⟩,rfl⟩ (.cons ⟨rfl,⟨_,rfl⟩,rfl⟩ (.cons ⟨rfl,⟨_,rfl⟩,rfl⟩ (.cons ⟨rfl,⟨_,rfl⟩,rfl⟩ (.cons ⟨rfl,⟨_,rfl⟩,rfl⟩ (.cons ⟨rfl,⟨_,rfl⟩,rfl⟩ (.cons ⟨rfl,⟨_,rfl⟩,rfl⟩ (.cons ⟨rfl,⟨_,rfl⟩,rfl⟩ (.cons ⟨rfl,⟨_,rfl⟩,rfl⟩ .nil))))))))))⟩,(by show ([1,2,3,4,5,6,7,8,9,10]:List Int).Nodup; decide)⟩,
  W.mg_of X G xu,
  ⟨_,_,_,LS,rfl,rfl,(by show 20 ≤ sizeLine; decide),(.cons ⟨_,rfl⟩ (.cons ⟨_,rfl⟩ (.cons ⟨_,rfl⟩ (.cons ⟨_,rfl⟩ (.cons ⟨_,rfl⟩ (.cons ⟨_,rfl⟩ (.cons ⟨_,rfl⟩ (.cons ⟨_,rfl⟩ (.cons ⟨_,rfl⟩ (.cons ⟨_,rfl⟩ (.cons ⟨_,rfl⟩ (.cons ⟨_,rfl⟩ (.cons ⟨_,rfl⟩ (.cons ⟨_,rfl⟩ (.cons ⟨_,rfl⟩ (.cons ⟨_,rfl⟩ (.cons ⟨_,rfl⟩ (.cons ⟨_,rfl⟩ (.cons ⟨_,rfl⟩ (.cons ⟨_,rfl⟩ .nil))))))))))))))))))))⟩,
  W.mg_none_of X G qM,
  W.mg_none_of X G c8,
  W.mg_none_of X G JB,
  W.mg_none_of X G JA,
  W.mg_none_of X G qL,
  W.mg_none_of X G lM,
  W.mg_none_of X G Ed⟩
 exact ⟨_,fun s us hu=>match us,hu with | [_],_=>.of_eq rfl,fun base _ _=>ag4 T⟩
end Pt
namespace PySem.W.Fast
theorem tw12915138026804601314:True:=⟨⟩
theorem tw14158492071930690268:True:=⟨⟩
theorem tw10646308301870620622:True:=⟨⟩
theorem tw13518974359816346884:True:=⟨⟩
theorem tw5774811044918173813:True:=⟨⟩
theorem tw766392036935775413:True:=⟨⟩
theorem tw9542943832579723663:True:=⟨⟩
theorem tw11779261708118926922:True:=⟨⟩
theorem tw13415097785130188524:True:=⟨⟩
theorem tw9257577354382457595:True:=⟨⟩
theorem tw6428525767338835039:True:=⟨⟩
theorem tw12284411308533581045:True:=⟨⟩
theorem tw413201040110763805:True:=⟨⟩
theorem tw2787536055188985676:True:=⟨⟩
theorem tw9843386967092931714:True:=⟨⟩
theorem tw2115937058010492563:True:=⟨⟩
theorem tw8161055899134404976:True:=⟨⟩
theorem tw3604363002090983306:True:=⟨⟩
theorem tw16960328700818389061:True:=⟨⟩
theorem tw9974420632487741657:True:=⟨⟩
theorem tw11187476811632693493:True:=⟨⟩
theorem tw15616683903143545945:True:=⟨⟩
theorem tw1721799928114436997:True:=⟨⟩
theorem tw4872430417320819854:True:=⟨⟩
theorem tw10219517561037728357:True:=⟨⟩
theorem tw12820710900591076619:True:=⟨⟩
theorem tw11024497319511239760:True:=⟨⟩
theorem tw3162905396924254357:True:=⟨⟩
theorem tw370638889879191071:True:=⟨⟩
theorem tw6563017494519543914:True:=⟨⟩
theorem tw18347725783280224578:True:=⟨⟩
theorem tw9240220995128202701:True:=⟨⟩
theorem tw931049480638044477:True:=⟨⟩
theorem tw4596036836052688867:True:=⟨⟩
theorem tw9773101634836210832:True:=⟨⟩
theorem tw14120425769303599137:True:=⟨⟩
theorem tw2566948560885862246:True:=⟨⟩
theorem tw5401537683973613354:True:=⟨⟩
theorem tw17150893388369769745:True:=⟨⟩
theorem tw11028981478180108270:True:=⟨⟩
theorem tw8327564717280292811:True:=⟨⟩
theorem tw2092528525455330947:True:=⟨⟩
theorem tw17107258654248427652:True:=⟨⟩
theorem tw6740397541285335418:True:=⟨⟩
theorem tw6664849163107237376:True:=⟨⟩
theorem tw3709408306381738702:True:=⟨⟩
theorem tw8485768603143302981:True:=⟨⟩
theorem tw14094310606035484577:True:=⟨⟩
theorem tw760423532288546425:True:=⟨⟩
theorem tw8784886978210987365:True:=⟨⟩
theorem tw9703277295263059019:True:=⟨⟩
theorem tw10155058484066767477:True:=⟨⟩
theorem tw16484792059076622719:True:=⟨⟩
theorem tw13403351805390527828:True:=⟨⟩
theorem tw2387036366332708435:True:=⟨⟩
theorem tw12250151278031487580:True:=⟨⟩
theorem tw16175059915208070361:True:=⟨⟩
theorem tw15981471963060479674:True:=⟨⟩
theorem tw383926820152580883:True:=⟨⟩
theorem tw13616375444062319387:True:=⟨⟩
theorem tw7940269524436435472:True:=⟨⟩
theorem tw16208186046550694828:True:=⟨⟩
theorem tw6951283132260603217:True:=⟨⟩
theorem tw6275558242026408512:True:=⟨⟩
theorem tw13497264620923788353:True:=⟨⟩
theorem tw12098161012034291693:True:=⟨⟩
theorem tw12613388635104942342:True:=⟨⟩
theorem tw4204658050450249712:True:=⟨⟩
theorem tw12603626636593941722:True:=⟨⟩
theorem tw15507817873393503009:True:=⟨⟩
theorem tw5344797795980549799:True:=⟨⟩
theorem tw2389364421087822477:True:=⟨⟩
theorem tw13903157384446375201:True:=⟨⟩
theorem tw17762749468851903356:True:=⟨⟩
theorem tw14083782523309100009:True:=⟨⟩
theorem tw11320636029971112338:True:=⟨⟩
theorem tw15982048013435536281:True:=⟨⟩
theorem tw3320901929842859962:True:=⟨⟩
theorem tw16571715216512775319:True:=⟨⟩
theorem tw132766146875868285:True:=⟨⟩
theorem tw17513442926987403490:True:=⟨⟩
theorem tw11189646995207003155:True:=⟨⟩
theorem tw2608484007065723852:True:=⟨⟩
theorem tw3675824408354501753:True:=⟨⟩
theorem tw17970787764601157472:True:=⟨⟩
theorem tw14706057896371181313:True:=⟨⟩
theorem tw9687518888912237289:True:=⟨⟩
theorem tw4063141179544852746:True:=⟨⟩
theorem tw17944826906421131699:True:=⟨⟩
theorem tw15483219475365218587:True:=⟨⟩
theorem tw13150156397853266300:True:=⟨⟩
theorem tw3012712625642770801:True:=⟨⟩
theorem tw14121561291971956270:True:=⟨⟩
theorem tw5333496948062611500:True:=⟨⟩
theorem tw7995614665715699534:True:=⟨⟩
theorem tw578106388863486497:True:=⟨⟩
theorem tw236065697857412494:True:=⟨⟩
theorem tw3861195855606528241:True:=⟨⟩
theorem tw2127472415188944524:True:=⟨⟩
theorem tw3121676346829036767:True:=⟨⟩
theorem tw5654086207965143623:True:=⟨⟩
theorem tw7698404533517228275:True:=⟨⟩
theorem tw1275891187141331957:True:=⟨⟩
theorem tw8031630553797343536:True:=⟨⟩
theorem tw6710277201154184309:True:=⟨⟩
theorem tw5873362382462952072:True:=⟨⟩
theorem tw782876029967065297:True:=⟨⟩
theorem tw7653759530190792190:True:=⟨⟩
theorem tw15607898849512409972:True:=⟨⟩
theorem tw14272650642409472626:True:=⟨⟩
theorem tw1245780568903372284:True:=⟨⟩
theorem tw13553805344522138996:True:=⟨⟩
theorem tw5654101078702596176:True:=⟨⟩
theorem tw8796290382655119570:True:=⟨⟩
theorem tw18027840416440584189:True:=⟨⟩
theorem tw1352110291316908487:True:=⟨⟩
theorem tw15267789940267493659:True:=⟨⟩
theorem tw17780360769828212708:True:=⟨⟩
theorem tw10492290329218386069:True:=⟨⟩
theorem tw2426790825657645492:True:=⟨⟩
theorem tw4118015004245902717:True:=⟨⟩
theorem tw18318666522619403185:True:=⟨⟩
theorem tw3758249194615313617:True:=⟨⟩
theorem tw2359589128595444745:True:=⟨⟩
theorem tw12919460569147499660:True:=⟨⟩
theorem tw14464435276878637990:True:=⟨⟩
theorem tw1423209994478822923:True:=⟨⟩
theorem tw11754824519161076170:True:=⟨⟩
theorem tw13028389647558655600:True:=⟨⟩
theorem tw10025219570794027265:True:=⟨⟩
theorem tw17393743358916101322:True:=⟨⟩
theorem tw4916092581788081109:True:=⟨⟩
theorem tw5360565055550558702:True:=⟨⟩
theorem tw12289311192583112557:True:=⟨⟩
theorem tw15125705071441151548:True:=⟨⟩
theorem tw14585173098246533233:True:=⟨⟩
theorem tw13157300855383119039:True:=⟨⟩
theorem tw7765224447822479143:True:=⟨⟩
theorem tw3286574368829280731:True:=⟨⟩
theorem tw15931316619573929815:True:=⟨⟩
theorem tw4064559651193361573:True:=⟨⟩
theorem tw2802399821594838956:True:=⟨⟩
theorem tw12673359508265624478:True:=⟨⟩
theorem tw6022641377262707851:True:=⟨⟩
theorem tw2842111404415913817:True:=⟨⟩
theorem tw1909111712662283474:True:=⟨⟩
theorem tw12935016742608451811:True:=⟨⟩
theorem tw15095600947757552456:True:=⟨⟩
theorem tw17061389909725267138:True:=⟨⟩
theorem tw4691524151091643513:True:=⟨⟩
theorem tw8326468065973520179:True:=⟨⟩
theorem tw15611096129477350382:True:=⟨⟩
theorem tw5320116010092500385:True:=⟨⟩
theorem tw17309020907305706711:True:=⟨⟩
theorem tw3714047731216412293:True:=⟨⟩
theorem tw3498359691074070550:True:=⟨⟩
theorem tw11608251813906613670:True:=⟨⟩
theorem tw6461023283557672575:True:=⟨⟩
theorem tw10130881118090634986:True:=⟨⟩
theorem tw14535719068918233738:True:=⟨⟩
theorem tw5731024076480235592:True:=⟨⟩
theorem tw5903630813889507435:True:=⟨⟩
theorem tw6909427766639381884:True:=⟨⟩
theorem tw2476830651319982035:True:=⟨⟩
theorem tw5203615836418908358:True:=⟨⟩
theorem tw8253920861435194463:True:=⟨⟩
theorem tw15402413150348392399:True:=⟨⟩
theorem tw15455327795655176269:True:=⟨⟩
theorem tw6073140807426965635:True:=⟨⟩
theorem tw5614132750946074712:True:=⟨⟩
theorem tw220172434050870124:True:=⟨⟩
theorem tw13991012259943887746:True:=⟨⟩
theorem tw17751980461375735924:True:=⟨⟩
theorem tw19345186013734350:True:=⟨⟩
theorem tw13700188301714956499:True:=⟨⟩
theorem tw8453502966831382188:True:=⟨⟩
theorem tw14612615356622576453:True:=⟨⟩
theorem tw4848954152953275804:True:=⟨⟩
theorem tw13997180644733548781:True:=⟨⟩
theorem tw10275413907465112271:True:=⟨⟩
theorem tw6846210489787622416:True:=⟨⟩
theorem tw3542883167032493227:True:=⟨⟩
theorem tw5033791050974866800:True:=⟨⟩
theorem tw488938137668834361:True:=⟨⟩
theorem tw7100886232348639974:True:=⟨⟩
theorem tw1412814665584313245:True:=⟨⟩
theorem tw3708147810061822245:True:=⟨⟩
theorem tw4761128026714737819:True:=⟨⟩
theorem tw1355900289900655052:True:=⟨⟩
theorem tw6668516563561760578:True:=⟨⟩
theorem tw4200163256705947382:True:=⟨⟩
theorem tw15116752524295445677:True:=⟨⟩
theorem tw12479478549209509402:True:=⟨⟩
theorem tw5270429355331440687:True:=⟨⟩
theorem tw9939810671547980171:True:=⟨⟩
theorem tw10504609862859846584:True:=⟨⟩
theorem tw16668140414791449150:True:=⟨⟩
theorem tw9723819463998444779:True:=⟨⟩
theorem tw14622686683217053874:True:=⟨⟩
theorem tw12064434089919737995:True:=⟨⟩
theorem tw11865235528949145520:True:=⟨⟩
theorem tw6504597821671508181:True:=⟨⟩
theorem tw15870749320307459141:True:=⟨⟩
theorem tw17710099659783378012:True:=⟨⟩
theorem tw7149001653448933253:True:=⟨⟩
theorem tw2532754039501497876:True:=⟨⟩
theorem tw14592439501260826636:True:=⟨⟩
theorem tw15126941127700443099:True:=⟨⟩
theorem tw9340309962024845796:True:=⟨⟩
theorem tw3281059872367163847:True:=⟨⟩
theorem tw2791617110735441564:True:=⟨⟩
theorem tw17332170833410755285:True:=⟨⟩
theorem tw7740171592443606407:True:=⟨⟩
theorem tw3517507233965276032:True:=⟨⟩
theorem tw3393845177404021924:True:=⟨⟩
theorem tw14772333289790964134:True:=⟨⟩
theorem tw17319112669920653822:True:=⟨⟩
theorem tw11564201158250410301:True:=⟨⟩
theorem tw8782509854347229403:True:=⟨⟩
theorem tw308514415260773893:True:=⟨⟩
theorem tw342040561415797537:True:=⟨⟩
theorem tw5999226024538140104:True:=⟨⟩
theorem tw5313355381446562819:True:=⟨⟩
theorem tw7579165458355601786:True:=⟨⟩
theorem tw6172947341339444381:True:=⟨⟩
theorem tw1337225983691786769:True:=⟨⟩
theorem tw8066835127424416230:True:=⟨⟩
theorem tw12839273788616209671:True:=⟨⟩
theorem tw8996185384629881187:True:=⟨⟩
theorem tw1091810656237421776:True:=⟨⟩
theorem tw4464431170307838225:True:=⟨⟩
theorem tw9918471819416005020:True:=⟨⟩
theorem tw3544494864371812483:True:=⟨⟩
theorem tw12097516494867223734:True:=⟨⟩
theorem tw14815554811843321298:True:=⟨⟩
theorem tw7894621512237642697:True:=⟨⟩
theorem tw6625181557104957362:True:=⟨⟩
theorem tw5315295341981240979:True:=⟨⟩
theorem tw9046693646778665750:True:=⟨⟩
theorem tw5541478281876216831:True:=⟨⟩
theorem tw4038902959345359673:True:=⟨⟩
theorem tw4383522326934716952:True:=⟨⟩
theorem tw8218178319950310699:True:=⟨⟩
theorem tw8026367027402196161:True:=⟨⟩
theorem tw1980459635218253125:True:=⟨⟩
theorem tw6171994179931015355:True:=⟨⟩
theorem tw10591341703218250232:True:=⟨⟩
theorem tw5760817590630452137:True:=⟨⟩
theorem tw16532170952315782204:True:=⟨⟩
theorem tw10515339033707634753:True:=⟨⟩
theorem tw7526745694642052602:True:=⟨⟩
theorem tw7615027108106355336:True:=⟨⟩
theorem tw13242833266832531636:True:=⟨⟩
theorem tw3514178221878542246:True:=⟨⟩
theorem tw5301028333286412359:True:=⟨⟩
theorem tw10923953875051503474:True:=⟨⟩
theorem tw14239963894449788344:True:=⟨⟩
theorem tw15210044698378374053:True:=⟨⟩
theorem tw4220629430082934652:True:=⟨⟩
theorem tw4736244339848101116:True:=⟨⟩
theorem tw4602878725102250991:True:=⟨⟩
theorem tw18129967735624267719:True:=⟨⟩
theorem tw5899537104881489287:True:=⟨⟩
theorem tw10058822146697620075:True:=⟨⟩
theorem tw12337366835768256076:True:=⟨⟩
theorem tw16547662025451550574:True:=⟨⟩
theorem tw17997114576653339614:True:=⟨⟩
theorem tw3906771373423304159:True:=⟨⟩
theorem tw3698210636787400454:True:=⟨⟩
theorem tw2235334224484278098:True:=⟨⟩
theorem tw2795749179157542078:True:=⟨⟩
theorem tw14066552433975529531:True:=⟨⟩
theorem tw2884093043869306342:True:=⟨⟩
theorem tw18191398783028067076:True:=⟨⟩
theorem tw4042804480787703930:True:=⟨⟩
theorem tw5947502605800407778:True:=⟨⟩
theorem tw890951864019637442:True:=⟨⟩
theorem tw62768856893975672:True:=⟨⟩
theorem tw18219281222128465128:True:=⟨⟩
theorem tw3569265681901040757:True:=⟨⟩
theorem tw15524895415762339317:True:=⟨⟩
theorem tw16683512387862866591:True:=⟨⟩
theorem tw8566344417135840167:True:=⟨⟩
theorem tw13786677125019094654:True:=⟨⟩
theorem tw4849380983359141179:True:=⟨⟩
theorem tw16227878599145088484:True:=⟨⟩
theorem tw12902391817984026098:True:=⟨⟩
theorem tw13359253570402293580:True:=⟨⟩
theorem tw3171624642365962866:True:=⟨⟩
theorem tw13067946799175613511:True:=⟨⟩
theorem tw9140654920965863966:True:=⟨⟩
theorem tw6846718422114401846:True:=⟨⟩
theorem tw13064214395400429251:True:=⟨⟩
theorem tw1752032431684926293:True:=⟨⟩
theorem tw2496229365581891042:True:=⟨⟩
theorem tw10721736996248052326:True:=⟨⟩
theorem tw11282441423821409160:True:=⟨⟩
theorem tw13317892562388262599:True:=⟨⟩
theorem tw7811562972808614699:True:=⟨⟩
theorem tw7567077681102884929:True:=⟨⟩
theorem tw15461162281152334554:True:=⟨⟩
theorem tw13280025456689189749:True:=⟨⟩
theorem tw1884390312255026391:True:=⟨⟩
theorem tw12836053222119193721:True:=⟨⟩
theorem tw18038845406068506101:True:=⟨⟩
theorem tw16891442668215568008:True:=⟨⟩
theorem tw18118375281619731352:True:=⟨⟩
theorem tw1640600906818486043:True:=⟨⟩
theorem tw829614096644874516:True:=⟨⟩
theorem tw6626776973720557107:True:=⟨⟩
theorem tw18338255909547302844:True:=⟨⟩
theorem tw4077235615064258289:True:=⟨⟩
theorem tw5160762450815468446:True:=⟨⟩
theorem tw9167890165285388588:True:=⟨⟩
theorem tw11047391999635512826:True:=⟨⟩
theorem tw14201571499398258022:True:=⟨⟩
theorem tw15448568719552285994:True:=⟨⟩
theorem tw117692359342028756:True:=⟨⟩
theorem tw7288990622501564708:True:=⟨⟩
theorem tw17830584296091600783:True:=⟨⟩
theorem tw2055251091789100237:True:=⟨⟩
theorem tw9323493572361968908:True:=⟨⟩
theorem tw9161827542358305617:True:=⟨⟩
theorem tw4630738951407859337:True:=⟨⟩
theorem tw2767895555115185872:True:=⟨⟩
theorem tw10383728888351993741:True:=⟨⟩
theorem tw6001333760969061838:True:=⟨⟩
theorem tw10859419628610149303:True:=⟨⟩
theorem tw13461929783146171786:True:=⟨⟩
theorem tw18081328459283292983:True:=⟨⟩
theorem tw7519943465768868726:True:=⟨⟩
theorem tw16330462010966227103:True:=⟨⟩
theorem tw4052910690971573094:True:=⟨⟩
theorem tw1597327962788592063:True:=⟨⟩
theorem tw6796972071086742218:True:=⟨⟩
theorem tw18440468878237409431:True:=⟨⟩
theorem tw14682994623758762735:True:=⟨⟩
theorem tw5762539364988718602:True:=⟨⟩
theorem tw16892754690183891882:True:=⟨⟩
theorem tw18102784872579320905:True:=⟨⟩
theorem tw12419036888548578693:True:=⟨⟩
theorem tw1771867879179022837:True:=⟨⟩
theorem tw4044812923470431756:True:=⟨⟩
theorem tw13008685556686772995:True:=⟨⟩
theorem tw5110609585672115167:True:=⟨⟩
theorem tw9336944040039252106:True:=⟨⟩
theorem tw15694496675106414664:True:=⟨⟩
theorem tw7361893226632532962:True:=⟨⟩
theorem tw12388165276014715792:True:=⟨⟩
theorem tw10249514144200394440:True:=⟨⟩
theorem tw14760662091456623605:True:=⟨⟩
theorem tw450597652857523418:True:=⟨⟩
theorem tw7896325895262533919:True:=⟨⟩
theorem tw2529483761330406052:True:=⟨⟩
theorem tw16634654411688401538:True:=⟨⟩
theorem tw5926958872430436036:True:=⟨⟩
theorem tw14242408586058144938:True:=⟨⟩
theorem tw16950900227237741032:True:=⟨⟩
theorem tw14991293765039680215:True:=⟨⟩
theorem tw6497218721719173216:True:=⟨⟩
theorem tw2019645145544804109:True:=⟨⟩
theorem tw6979444242881535372:True:=⟨⟩
theorem tw16922285751132184517:True:=⟨⟩
theorem tw4983552971975362171:True:=⟨⟩
theorem tw2837283618561887284:True:=⟨⟩
theorem tw6945111816218003255:True:=⟨⟩
theorem tw2434343153150743372:True:=⟨⟩
theorem tw11484445003563660686:True:=⟨⟩
theorem tw18227918426755829427:True:=⟨⟩
theorem tw17195119125577011226:True:=⟨⟩
theorem tw1140482736381953872:True:=⟨⟩
theorem tw4614220425504344590:True:=⟨⟩
theorem tw14349871741089630719:True:=⟨⟩
theorem tw1393192389687793415:True:=⟨⟩
theorem tw14962458831259467473:True:=⟨⟩
theorem tw3872110419380776862:True:=⟨⟩
theorem tw16871602876587390273:True:=⟨⟩
theorem tw16855705160453384530:True:=⟨⟩
theorem tw2095406076010418822:True:=⟨⟩
theorem tw5843090672318227762:True:=⟨⟩
theorem tw805480901350957197:True:=⟨⟩
theorem tw4896481200679896977:True:=⟨⟩
theorem tw3217914803923037099:True:=⟨⟩
theorem tw17826428555778463363:True:=⟨⟩
theorem tw17465915781572855981:True:=⟨⟩
theorem tw12761685226213517917:True:=⟨⟩
theorem tw9127620507394427093:True:=⟨⟩
theorem tw5945720700790675789:True:=⟨⟩
theorem tw15782907260625938702:True:=⟨⟩
theorem tw10386141814422248788:True:=⟨⟩
theorem tw3745817286374086377:True:=⟨⟩
theorem tw17756102244886458831:True:=⟨⟩
theorem tw7728909778169707489:True:=⟨⟩
theorem tw15959825437056277207:True:=⟨⟩
theorem tw9931533044221016474:True:=⟨⟩
theorem tw11615424314502107879:True:=⟨⟩
theorem tw4812629606041048374:True:=⟨⟩
theorem tw7050729906039089209:True:=⟨⟩
theorem tw7769576517044945897:True:=⟨⟩
theorem tw4443800367542856403:True:=⟨⟩
theorem tw215298763616205394:True:=⟨⟩
theorem tw3589616911988365429:True:=⟨⟩
theorem tw15222239323097586032:True:=⟨⟩
theorem tw10863383139669893198:True:=⟨⟩
theorem tw5449895503693628188:True:=⟨⟩
theorem tw8170542414256259106:True:=⟨⟩
theorem tw4430372439392085758:True:=⟨⟩
theorem tw5945170319154965490:True:=⟨⟩
theorem tw10856680022457397474:True:=⟨⟩
theorem tw13898517956614743052:True:=⟨⟩
theorem tw9007217105264858058:True:=⟨⟩
theorem tw15065865516493303225:True:=⟨⟩
theorem tw3902814606491924149:True:=⟨⟩
theorem tw5789234760631352734:True:=⟨⟩
theorem tw6962004107264471570:True:=⟨⟩
theorem tw15377019844258221642:True:=⟨⟩
theorem tw11100665922027329137:True:=⟨⟩
theorem tw3101849578799383031:True:=⟨⟩
theorem tw8885881559718943975:True:=⟨⟩
theorem tw1321175892788462582:True:=⟨⟩
theorem tw7210618664892095878:True:=⟨⟩
theorem tw6011780804992760482:True:=⟨⟩
theorem tw2817771709011799621:True:=⟨⟩
theorem tw8022364220892430755:True:=⟨⟩
theorem tw14160945576894537123:True:=⟨⟩
theorem tw11186273704377482578:True:=⟨⟩
theorem tw14870002123978324208:True:=⟨⟩
theorem tw14186638560510752471:True:=⟨⟩
theorem tw2497039594033648943:True:=⟨⟩
theorem tw4525173143408392057:True:=⟨⟩
theorem tw17043394979694978061:True:=⟨⟩
theorem tw13645461509952762720:True:=⟨⟩
theorem tw16267750714780621186:True:=⟨⟩
theorem tw9527660431621260568:True:=⟨⟩
theorem tw2346956130076751667:True:=⟨⟩
theorem tw13612070711151017784:True:=⟨⟩
theorem tw6781429629993930077:True:=⟨⟩
theorem tw17160378238857036644:True:=⟨⟩
theorem tw4378497154378703771:True:=⟨⟩
theorem tw16279147112338918761:True:=⟨⟩
theorem tw3649030595721664804:True:=⟨⟩
theorem tw3759691662683129702:True:=⟨⟩
theorem tw5655184180124499826:True:=⟨⟩
theorem tw6211430482283510748:True:=⟨⟩
theorem tw3799044453518933969:True:=⟨⟩
theorem tw3074364523900211239:True:=⟨⟩
theorem tw15702047241344481355:True:=⟨⟩
theorem tw14737571347018182814:True:=⟨⟩
theorem tw11426685016818084343:True:=⟨⟩
theorem tw12144887270461410216:True:=⟨⟩
theorem tw16520692318567782583:True:=⟨⟩
theorem tw4943066821868364827:True:=⟨⟩
theorem tw17842483951683030714:True:=⟨⟩
theorem tw11026285091675661497:True:=⟨⟩
theorem tw9034462095638896083:True:=⟨⟩
theorem tw374377625771746976:True:=⟨⟩
theorem tw552970497162245401:True:=⟨⟩
theorem tw15682637008349886695:True:=⟨⟩
theorem tw12813905790387748485:True:=⟨⟩
theorem tw6181611186249789105:True:=⟨⟩
theorem tw1940991655930520763:True:=⟨⟩
theorem tw18281016674633350912:True:=⟨⟩
theorem tw6462086775706269489:True:=⟨⟩
theorem tw1612762282256938436:True:=⟨⟩
theorem tw8408035929854785643:True:=⟨⟩
theorem tw15862587359854880548:True:=⟨⟩
theorem tw14416128070115553935:True:=⟨⟩
theorem tw2990096899993278012:True:=⟨⟩
theorem tw8761612633522316260:True:=⟨⟩
theorem tw6530223431488649600:True:=⟨⟩
theorem tw14395748735450314649:True:=⟨⟩
theorem tw1021255154674623347:True:=⟨⟩
theorem tw4439196918833985258:True:=⟨⟩
theorem tw15554200042947246397:True:=⟨⟩
theorem tw17412800219361262394:True:=⟨⟩
theorem tw13048528445328188308:True:=⟨⟩
theorem tw4952596757008204178:True:=⟨⟩
theorem tw7999604701921484666:True:=⟨⟩
theorem tw2919688143812614679:True:=⟨⟩
theorem tw9404053644193459398:True:=⟨⟩
theorem tw13274301286936363623:True:=⟨⟩
theorem tw6330484970035113440:True:=⟨⟩
theorem tw6810503055856968319:True:=⟨⟩
theorem tw17076777309959563547:True:=⟨⟩
theorem tw13827846154751156440:True:=⟨⟩
theorem tw2339334947378584790:True:=⟨⟩
theorem tw1902676204783803482:True:=⟨⟩
theorem tw11937919908141798338:True:=⟨⟩
theorem tw6037049346441267378:True:=⟨⟩
theorem tw1123209698518833467:True:=⟨⟩
theorem tw14365579148278580577:True:=⟨⟩
theorem tw6259262704448412109:True:=⟨⟩
theorem tw15562422242381062138:True:=⟨⟩
theorem tw14504962667628085978:True:=⟨⟩
theorem tw15228832439497854523:True:=⟨⟩
theorem tw156642887971733082:True:=⟨⟩
theorem tw9667655597124426131:True:=⟨⟩
theorem tw4758217508802530942:True:=⟨⟩
theorem tw15533100241503133675:True:=⟨⟩
theorem tw2043303913204197077:True:=⟨⟩
theorem tw12520959479416204429:True:=⟨⟩
theorem tw9470162318319963068:True:=⟨⟩
theorem tw11220532516523577493:True:=⟨⟩
theorem tw11331962116065791785:True:=⟨⟩
theorem tw10294933694641294349:True:=⟨⟩
theorem tw9770902176696452705:True:=⟨⟩
theorem tw2660386211639823503:True:=⟨⟩
theorem tw400299013905747218:True:=⟨⟩
theorem tw3328548281719597791:True:=⟨⟩
theorem tw7216081738474559959:True:=⟨⟩
theorem tw2040158539559518311:True:=⟨⟩
theorem tw607455038025528291:True:=⟨⟩
theorem tw3158129408860925961:True:=⟨⟩
theorem tw4048743774797101090:True:=⟨⟩
theorem tw48267638573403486:True:=⟨⟩
theorem tw6104638696947449907:True:=⟨⟩
theorem tw3018811733099565234:True:=⟨⟩
theorem tw4465408183666052769:True:=⟨⟩
theorem tw4959209471509070364:True:=⟨⟩
theorem tw1062920643312801537:True:=⟨⟩
theorem tw4514230065830263783:True:=⟨⟩
theorem tw7820970798852194733:True:=⟨⟩
theorem tw3733030966821640340:True:=⟨⟩
theorem tw10306471865832198576:True:=⟨⟩
theorem tw8490830162606090925:True:=⟨⟩
theorem tw17564910994295016287:True:=⟨⟩
theorem tw12630668684881207389:True:=⟨⟩
theorem tw5166929713527074179:True:=⟨⟩
theorem tw15873102182915997820:True:=⟨⟩
theorem tw9406020918711386117:True:=⟨⟩
theorem tw733706736845096884:True:=⟨⟩
theorem tw795822616123953512:True:=⟨⟩
theorem tw12347952594129188058:True:=⟨⟩
theorem tw14907232527893451523:True:=⟨⟩
theorem tw8686402965634916849:True:=⟨⟩
theorem tw1864840405561086853:True:=⟨⟩
theorem tw1055908849505877798:True:=⟨⟩
theorem tw5269526777653187143:True:=⟨⟩
theorem tw13986776988820070974:True:=⟨⟩
theorem tw4051571764195223158:True:=⟨⟩
theorem tw8122663765631253526:True:=⟨⟩
theorem tw357261595150276440:True:=⟨⟩
theorem tw1483720602625064294:True:=⟨⟩
theorem tw14385250523295129913:True:=⟨⟩
theorem tw1244443370825636938:True:=⟨⟩
theorem tw10218489028070281060:True:=⟨⟩
theorem tw6963557524391940010:True:=⟨⟩
theorem tw8845142124910919399:True:=⟨⟩
theorem tw4927550222888763639:True:=⟨⟩
theorem tw12404940654745094751:True:=⟨⟩
theorem tw6866750263668683844:True:=⟨⟩
theorem tw2737996219360816932:True:=⟨⟩
theorem tw9531107342366683367:True:=⟨⟩
theorem tw15621626749539846115:True:=⟨⟩
theorem tw7434926785855639789:True:=⟨⟩
theorem tw9122896936208969112:True:=⟨⟩
theorem tw8144632215452544128:True:=⟨⟩
theorem tw6555936344653274661:True:=⟨⟩
theorem tw16554510206594984967:True:=⟨⟩
theorem tw10181489952312348686:True:=⟨⟩
theorem tw16941890086138085777:True:=⟨⟩
theorem tw4106666109754724505:True:=⟨⟩
theorem tw17295174767339496481:True:=⟨⟩
theorem tw10050962460788683566:True:=⟨⟩
theorem tw13114119817249093557:True:=⟨⟩
theorem tw4751761640399886546:True:=⟨⟩
theorem tw16351315464691054034:True:=⟨⟩
theorem tw12382121372476511376:True:=⟨⟩
theorem tw4068595501810728051:True:=⟨⟩
theorem tw15705667402876335151:True:=⟨⟩
theorem tw17976993638149403160:True:=⟨⟩
theorem tw17633717044206555743:True:=⟨⟩
theorem tw4152685909522974491:True:=⟨⟩
theorem tw12931384848868817014:True:=⟨⟩
theorem tw16977098228358268380:True:=⟨⟩
theorem tw8073238304077232075:True:=⟨⟩
theorem tw4083906639909218271:True:=⟨⟩
theorem tw4859311477509272978:True:=⟨⟩
theorem tw7104244954724360314:True:=⟨⟩
theorem tw7855974134567818713:True:=⟨⟩
theorem tw16470545681720674060:True:=⟨⟩
theorem tw2216281206232492831:True:=⟨⟩
theorem tw12052190073724996709:True:=⟨⟩
theorem tw16103469771550817825:True:=⟨⟩
theorem tw951854998235798016:True:=⟨⟩
theorem tw16932845259546338357:True:=⟨⟩
theorem tw11671570599068599166:True:=⟨⟩
theorem tw5809126959583991255:True:=⟨⟩
theorem tw1235219868222514666:True:=⟨⟩
theorem tw16322596494410241237:True:=⟨⟩
theorem tw4036993204014539382:True:=⟨⟩
theorem tw11717270255303288199:True:=⟨⟩
theorem tw18281977261480499788:True:=⟨⟩
theorem tw137303905140747558:True:=⟨⟩
theorem tw8623753612456180564:True:=⟨⟩
theorem tw17497838178331541582:True:=⟨⟩
theorem tw3311885426281270614:True:=⟨⟩
theorem tw11928879347199140747:True:=⟨⟩
theorem tw18192930661230776873:True:=⟨⟩
theorem tw18315925560526618409:True:=⟨⟩
theorem tw7175448707840823071:True:=⟨⟩
theorem tw11015498129854379698:True:=⟨⟩
theorem tw10280081365919620433:True:=⟨⟩
theorem tw495774659196912568:True:=⟨⟩
theorem tw16600196207297510666:True:=⟨⟩
theorem tw15014863710209447904:True:=⟨⟩
theorem tw3382770166494195235:True:=⟨⟩
theorem tw12281546521341177848:True:=⟨⟩
theorem tw5494158073780473409:True:=⟨⟩
theorem tw9216125709535672229:True:=⟨⟩
theorem tw825050854585300044:True:=⟨⟩
theorem tw18167325280246430758:True:=⟨⟩
theorem tw12942205457308224069:True:=⟨⟩
theorem tw13053876194881102334:True:=⟨⟩
theorem tw4640371442843044290:True:=⟨⟩
theorem tw15866690656238817611:True:=⟨⟩
theorem tw2058581512790010892:True:=⟨⟩
theorem tw10528643866434385514:True:=⟨⟩
theorem tw15206430845508184562:True:=⟨⟩
theorem tw3969522127449110730:True:=⟨⟩
theorem tw13367150495542524832:True:=⟨⟩
theorem tw15882119144494702855:True:=⟨⟩
theorem tw14125999598320509317:True:=⟨⟩
theorem tw1459145879131051306:True:=⟨⟩
end PySem.W.Fast
open PySem PySem.W PyProof.Rows
set_option maxRecDepth 100000 in
set_option maxHeartbeats 0 in
theorem PySem.Challenge.cw_policyturn_s01_answers_holds : PySem.Challenge.rw_policyturn_s01_answers.Holds := by
 w_on; k_headS; (case hw=>exact ⟨[.list [.int 2]],by decide +kernel,by decide +kernel⟩)
 k_fillS
 refine L2.agt (r:=PySem.Challenge.rw_policyturn_s01_answers) (k:=10) (CX:=L2.aC) (ps:=["calls"]) (sp:=Pt.K6) (by decide +kernel) rfl rfl ⟨rfl,by decide,by decide⟩ (fun w h Y=>PySem.W.kIn_of Y) ?F ?S (fun _ _ _ _ z=>z)
 case F =>
  intro w mg fa h Y KX G hmg
  refine' Pt.all_mk KX G hmg ?Zb ?XM ?YA ?XG ?XA ?JC ?Yr ?jU ?gh ?Rg ?OG ?PM ?Om ?Od ?vI ?Pg ?gI ?eI ?fV ?cE ?Ri ?OI ?PR ?Oq ?Of ?vJ ?Pj ?eR ?eA ?fK ?CA ?BG ?Ca ?BE ?BC ?pq ?BS ?cR ?aV ?b5 ?cF ?bY ?bD ?Rh ?OH ?PN ?Oo ?Oe ?AX ?Ph ?jV ?fW ?fh ?gJ ?jf ?UP ?TQ ?Us ?TM ?TH ?Eg ?Uh ?nA ?jT ?lH ?iS ?fz ?cN ?aR ?dF ?jS ?cT ?hU ?gg ?di ?Ml ?Ll ?LQ ?Lj ?Le ?jo ?LL ?bG ?eO ?dG ?br ?gi ?ie ?eZ ?Zc ?XN ?YB ?XH ?XC ?JD ?Ys ?jg ?iT ?Mj ?Lk ?LP ?Li ?Ld ?wO ?LK ?fg ?UR ?Ue ?QS ?Uj ?IC ?HR ?E7 ?Ic ?IB ?HQ ?E6 ?Ib ?EK ?EB ?HV ?Fb ?Ih ?uX ?uU ?wW ?u7 ?qj ?mw ?l8 ?nF ?mD ?jI ?zI ?zC ?BP ?zT ?BZ ?p9 ?pZ ?qT ?qb ?lP ?zK ?zE ?BR ?zV ?B3 ?rj ?qW ?sH ?rJ ?sM ?oN ?oH ?pX ?oW ?lg ?jy ?jw ?jW ?jA ?g6 ?my ?l9 ?nG ?mE ?jJ ?mz ?mh ?nH ?mF ?jK ?kM ?kK ?lu ?kT ?iV ?mC ?mj ?nI ?mG ?jL ?oM ?oG ?pW ?oV ?k9 ?zJ ?zD ?BQ ?zU ?B0 ?Cd ?B9 ?En ?Cq ?Eu ?p8 ?pY ?qS ?qa ?lO ?oK ?oF ?pV ?oU ?k8 ?nR ?nO ?oz ?nW ?j2 ?Cc ?B8 ?Em ?Cp ?wY ?vf ?uK ?sR ?uO ?Zg ?Yp ?UB ?k_enter ?UQ ?Ud ?QO ?Ui ?ahP ?ahl ?aej ?ahm ?Zf ?Yo ?UA ?Yv ?aeC ?adm ?YQ ?adu ?xD ?xo ?zp ?x8 ?zB ?we ?wg ?IE ?HU ?E9 ?Ig ?ve ?uJ ?sQ ?uN ?Zd ?Ym ?Uy ?Yt ?Mn ?LI ?Im ?LN ?Iv ?HL ?E2 ?HX ?Iw ?HM ?E3 ?HY ?Fz ?Ei ?Ck ?Ep ?o7 ?ou ?nU ?oA ?Aa ?zl ?xY ?zx ?CF ?BN ?zR ?BX ?CC ?BK ?zP ?BV ?CB ?BJ ?zO ?BU ?Fy ?Eh ?Cj ?Eo ?sZ ?sE ?rF ?sI ?Mm ?LH ?Il ?LM ?tu ?sG ?rH ?sL ?z8 ?zj ?xW ?zu ?CD ?BL ?zQ ?BW ?aez ?adj ?YM ?adq ?vg ?uL ?sS ?uP ?yk ?wU ?uZ ?wX ?Ab ?zm ?xZ ?zy ?tq ?sF ?rG ?sJ ?Rk ?Pa ?L5 ?Pn ?aex ?adh ?YK ?ado ?z9 ?zk ?xX ?zw ?Iz ?HN ?E4 ?HZ ?IA ?HP ?E5 ?Ia ?FD ?Ek ?Cn ?Es ?aey ?adi ?YL ?adp ?ID ?HS ?E8 ?Ie ?Rl ?Pb ?L6 ?Po ?aeA ?adk ?YN ?ads ?US ?Ug ?QT ?Uk ?aeB ?adl ?YO ?adt ?Rj ?O9 ?L4 ?Pk ?Ze ?Yn ?Uz ?Yu ?FA ?Ej ?Cm ?Er ?Zh ?Yq ?UC ?Yw ?CG ?BO ?zS ?BY ?EL ?EC ?HW ?Fc ?Ii ?FE ?El ?Co ?Et ?xC ?xn ?zo ?x6 ?zA ?sO ?sN ?uM ?sU ?oB ?uW ?uT ?wV ?u6 ?qi ?GW ?Pc ?L7 ?Pp ?wM ?jM ?tX ?iI ?lS ?qY ?xw ?iu ?rh ?e8 ?xx ?zH ?DJ ?uV ?DI ?qX ?JV ?jx ?PX ?nQ ?iJ ?rf ?xy ?kL ?EH ?qZ ?xr ?LG ?LR ?zG ?Uc ?Ut ?xu ?LS ?qM ?c8 ?JB ?JA ?qL ?lM ?Ed
  (case Zb=>k_is)
  (case XM=>k_is)
  (case YA=>k_is)
  (case XG=>k_is)
  (case XA=>k_is)
  (case JC=>k_is)
  (case Yr=>k_is)
  (case jU=>k_is)
  (case gh=>k_is)
  (case Rg=>k_is)
  (case OG=>k_is)
  (case PM=>k_is)
  (case Om=>k_is)
  (case Od=>k_is)
  (case vI=>k_is)
  (case Pg=>k_is)
  (case gI=>k_is)
  (case eI=>k_is)
  (case fV=>k_is)
  (case cE=>k_is)
  (case Ri=>k_is)
  (case OI=>k_is)
  (case PR=>k_is)
  (case Oq=>k_is)
  (case Of=>k_is)
  (case vJ=>k_is)
  (case Pj=>k_is)
  (case eR=>k_is)
  (case eA=>k_is)
  (case fK=>k_is)
  (case CA=>k_is)
  (case BG=>k_is)
  (case Ca=>k_is)
  (case BE=>k_is)
  (case BC=>k_is)
  (case pq=>k_is)
  (case BS=>k_is)
  (case cR=>k_is)
  (case aV=>k_is)
  (case b5=>k_is)
  (case cF=>k_is)
  (case bY=>k_is)
  (case bD=>k_is)
  (case Rh=>k_is)
  (case OH=>k_is)
  (case PN=>k_is)
  (case Oo=>k_is)
  (case Oe=>k_is)
  (case AX=>k_is)
  (case Ph=>k_is)
  (case jV=>k_is)
  (case fW=>k_is)
  (case fh=>k_is)
  (case gJ=>k_is)
  (case jf=>k_is)
  (case UP=>k_is)
  (case TQ=>k_is)
  (case Us=>k_is)
  (case TM=>k_is)
  (case TH=>k_is)
  (case Eg=>k_is)
  (case Uh=>k_is)
  (case nA=>k_is)
  (case jT=>k_is)
  (case lH=>k_is)
  (case iS=>k_is)
  (case fz=>k_is)
  (case cN=>k_is)
  (case aR=>k_is)
  (case dF=>k_is)
  (case jS=>k_is)
  (case cT=>k_is)
  (case hU=>k_is)
  (case gg=>k_is)
  (case di=>k_is)
  (case Ml=>k_is)
  (case Ll=>k_is)
  (case LQ=>k_is)
  (case Lj=>k_is)
  (case Le=>k_is)
  (case jo=>k_is)
  (case LL=>k_is)
  (case bG=>k_is)
  (case eO=>k_is)
  (case dG=>k_is)
  (case br=>k_is)
  (case gi=>k_is)
  (case ie=>k_is)
  (case eZ=>k_is)
  (case Zc=>k_is)
  (case XN=>k_is)
  (case YB=>k_is)
  (case XH=>k_is)
  (case XC=>k_is)
  (case JD=>k_is)
  (case Ys=>k_is)
  (case jg=>k_is)
  (case iT=>k_is)
  (case Mj=>k_is)
  (case Lk=>k_is)
  (case LP=>k_is)
  (case Li=>k_is)
  (case Ld=>k_is)
  (case wO=>k_is)
  (case LK=>k_is)
  (case fg=>k_is)
  (case UR=>k_is)
  (case Ue=>k_is)
  (case QS=>k_is)
  (case Uj=>k_is)
  (case IC=>k_is)
  (case HR=>k_is)
  (case E7=>k_is)
  (case Ic=>k_is)
  (case IB=>k_is)
  (case HQ=>k_is)
  (case E6=>k_is)
  (case Ib=>k_is)
  (case EK=>k_is)
  (case EB=>k_is)
  (case HV=>k_is)
  (case Fb=>k_is)
  (case Ih=>k_is)
  (case uX=>k_is)
  (case uU=>k_is)
  (case wW=>k_is)
  (case u7=>k_is)
  (case qj=>k_is)
  (case mw=>k_is)
  (case l8=>k_is)
  (case nF=>k_is)
  (case mD=>k_is)
  (case jI=>k_is)
  (case zI=>k_is)
  (case zC=>k_is)
  (case BP=>k_is)
  (case zT=>k_is)
  (case BZ=>k_is)
  (case p9=>k_is)
  (case pZ=>k_is)
  (case qT=>k_is)
  (case qb=>k_is)
  (case lP=>k_is)
  (case zK=>k_is)
  (case zE=>k_is)
  (case BR=>k_is)
  (case zV=>k_is)
  (case B3=>k_is)
  (case rj=>k_is)
  (case qW=>k_is)
  (case sH=>k_is)
  (case rJ=>k_is)
  (case sM=>k_is)
  (case oN=>k_is)
  (case oH=>k_is)
  (case pX=>k_is)
  (case oW=>k_is)
  (case lg=>k_is)
  (case jy=>k_is)
  (case jw=>k_is)
  (case jW=>k_is)
  (case jA=>k_is)
  (case g6=>k_is)
  (case my=>k_is)
  (case l9=>k_is)
  (case nG=>k_is)
  (case mE=>k_is)
  (case jJ=>k_is)
  (case mz=>k_is)
  (case mh=>k_is)
  (case nH=>k_is)
  (case mF=>k_is)
  (case jK=>k_is)
  (case kM=>k_is)
  (case kK=>k_is)
  (case lu=>k_is)
  (case kT=>k_is)
  (case iV=>k_is)
  (case mC=>k_is)
  (case mj=>k_is)
  (case nI=>k_is)
  (case mG=>k_is)
  (case jL=>k_is)
  (case oM=>k_is)
  (case oG=>k_is)
  (case pW=>k_is)
  (case oV=>k_is)
  (case k9=>k_is)
  (case zJ=>k_is)
  (case zD=>k_is)
  (case BQ=>k_is)
  (case zU=>k_is)
  (case B0=>k_is)
  (case Cd=>k_is)
  (case B9=>k_is)
  (case En=>k_is)
  (case Cq=>k_is)
  (case Eu=>k_is)
  (case p8=>k_is)
  (case pY=>k_is)
  (case qS=>k_is)
  (case qa=>k_is)
  (case lO=>k_is)
  (case oK=>k_is)
  (case oF=>k_is)
  (case pV=>k_is)
  (case oU=>k_is)
  (case k8=>k_is)
  (case nR=>k_is)
  (case nO=>k_is)
  (case oz=>k_is)
  (case nW=>k_is)
  (case j2=>k_is)
  (case Cc=>k_is)
  (case B8=>k_is)
  (case Em=>k_is)
  (case Cp=>k_is)
  (case wY=>k_is)
  (case vf=>k_is)
  (case uK=>k_is)
  (case sR=>k_is)
  (case uO=>k_is)
  (case Zg=>k_is)
  (case Yp=>k_is)
  (case UB=>k_is)
  (case k_enter=>k_is)
  (case UQ=>k_is)
  (case Ud=>k_is)
  (case QO=>k_is)
  (case Ui=>k_is)
  (case ahP=>k_is)
  (case ahl=>k_is)
  (case aej=>k_is)
  (case ahm=>k_is)
  (case Zf=>k_is)
  (case Yo=>k_is)
  (case UA=>k_is)
  (case Yv=>k_is)
  (case aeC=>k_is)
  (case adm=>k_is)
  (case YQ=>k_is)
  (case adu=>k_is)
  (case xD=>k_is)
  (case xo=>k_is)
  (case zp=>k_is)
  (case x8=>k_is)
  (case zB=>k_is)
  (case we=>k_is)
  (case wg=>rfl)
  (case IE=>k_is)
  (case HU=>k_is)
  (case E9=>k_is)
  (case Ig=>k_is)
  (case ve=>k_is)
  (case uJ=>k_is)
  (case sQ=>k_is)
  (case uN=>k_is)
  (case Zd=>k_is)
  (case Ym=>k_is)
  (case Uy=>k_is)
  (case Yt=>k_is)
  (case Mn=>k_is)
  (case LI=>k_is)
  (case Im=>k_is)
  (case LN=>k_is)
  (case Iv=>k_is)
  (case HL=>k_is)
  (case E2=>k_is)
  (case HX=>k_is)
  (case Iw=>k_is)
  (case HM=>k_is)
  (case E3=>k_is)
  (case HY=>k_is)
  (case Fz=>k_is)
  (case Ei=>k_is)
  (case Ck=>k_is)
  (case Ep=>k_is)
  (case o7=>k_is)
  (case ou=>k_is)
  (case nU=>k_is)
  (case oA=>k_is)
  (case Aa=>k_is)
  (case zl=>k_is)
  (case xY=>k_is)
  (case zx=>k_is)
  (case CF=>k_is)
  (case BN=>k_is)
  (case zR=>k_is)
  (case BX=>k_is)
  (case CC=>k_is)
  (case BK=>k_is)
  (case zP=>k_is)
  (case BV=>k_is)
  (case CB=>k_is)
  (case BJ=>k_is)
  (case zO=>k_is)
  (case BU=>k_is)
  (case Fy=>k_is)
  (case Eh=>k_is)
  (case Cj=>k_is)
  (case Eo=>k_is)
  (case sZ=>k_is)
  (case sE=>k_is)
  (case rF=>k_is)
  (case sI=>k_is)
  (case Mm=>k_is)
  (case LH=>k_is)
  (case Il=>k_is)
  (case LM=>k_is)
  (case tu=>k_is)
  (case sG=>k_is)
  (case rH=>k_is)
  (case sL=>k_is)
  (case z8=>k_is)
  (case zj=>k_is)
  (case xW=>k_is)
  (case zu=>k_is)
  (case CD=>k_is)
  (case BL=>k_is)
  (case zQ=>k_is)
  (case BW=>k_is)
  (case aez=>k_is)
  (case adj=>k_is)
  (case YM=>k_is)
  (case adq=>k_is)
  (case vg=>k_is)
  (case uL=>k_is)
  (case sS=>k_is)
  (case uP=>k_is)
  (case yk=>k_is)
  (case wU=>k_is)
  (case uZ=>k_is)
  (case wX=>k_is)
  (case Ab=>k_is)
  (case zm=>k_is)
  (case xZ=>k_is)
  (case zy=>k_is)
  (case tq=>k_is)
  (case sF=>k_is)
  (case rG=>k_is)
  (case sJ=>k_is)
  (case Rk=>k_is)
  (case Pa=>k_is)
  (case L5=>k_is)
  (case Pn=>k_is)
  (case aex=>k_is)
  (case adh=>k_is)
  (case YK=>k_is)
  (case ado=>k_is)
  (case z9=>k_is)
  (case zk=>k_is)
  (case xX=>k_is)
  (case zw=>k_is)
  (case Iz=>k_is)
  (case HN=>k_is)
  (case E4=>k_is)
  (case HZ=>k_is)
  (case IA=>k_is)
  (case HP=>k_is)
  (case E5=>k_is)
  (case Ia=>k_is)
  (case FD=>k_is)
  (case Ek=>k_is)
  (case Cn=>k_is)
  (case Es=>k_is)
  (case aey=>k_is)
  (case adi=>k_is)
  (case YL=>k_is)
  (case adp=>k_is)
  (case ID=>k_is)
  (case HS=>k_is)
  (case E8=>k_is)
  (case Ie=>k_is)
  (case Rl=>k_is)
  (case Pb=>k_is)
  (case L6=>k_is)
  (case Po=>k_is)
  (case aeA=>k_is)
  (case adk=>k_is)
  (case YN=>k_is)
  (case ads=>k_is)
  (case US=>k_is)
  (case Ug=>k_is)
  (case QT=>k_is)
  (case Uk=>k_is)
  (case aeB=>k_is)
  (case adl=>k_is)
  (case YO=>k_is)
  (case adt=>k_is)
  (case Rj=>k_is)
  (case O9=>k_is)
  (case L4=>k_is)
  (case Pk=>k_is)
  (case Ze=>k_is)
  (case Yn=>k_is)
  (case Uz=>k_is)
  (case Yu=>k_is)
  (case FA=>k_is)
  (case Ej=>k_is)
  (case Cm=>k_is)
  (case Er=>k_is)
  (case Zh=>k_is)
  (case Yq=>k_is)
  (case UC=>k_is)
  (case Yw=>k_is)
  (case CG=>k_is)
  (case BO=>k_is)
  (case zS=>k_is)
  (case BY=>k_is)
  (case EL=>k_is)
  (case EC=>k_is)
  (case HW=>k_is)
  (case Fc=>k_is)
  (case Ii=>k_is)
  (case FE=>k_is)
  (case El=>k_is)
  (case Co=>k_is)
  (case Et=>k_is)
  (case xC=>k_is)
  (case xn=>k_is)
  (case zo=>k_is)
  (case x6=>k_is)
  (case zA=>k_is)
  (case sO=>k_is)
  (case sN=>k_is)
  (case uM=>k_is)
  (case sU=>k_is)
  (case oB=>k_is)
  (case uW=>k_is)
  (case uT=>k_is)
  (case wV=>k_is)
  (case u6=>k_is)
  (case qi=>k_is)
  (case GW=>k_is)
  (case Pc=>k_is)
  (case L7=>k_is)
  (case Pp=>k_is)
  (case jM=>k_is)
  (case tX=>k_is)
  (case iI=>k_is)
  (case lS=>k_is)
  (case qY=>k_is)
  (case xw=>k_is)
  (case iu=>k_is)
  (case rh=>k_is)
  (case e8=>k_is)
  (case xx=>k_is)
  (case zH=>k_is)
  (case DJ=>k_is)
  (case uV=>k_is)
  (case DI=>k_is)
  (case qX=>k_is)
  (case JV=>k_is)
  (case jx=>k_is)
  (case PX=>k_is)
  (case nQ=>k_is)
  (case iJ=>k_is)
  (case rf=>k_is)
  (case xy=>k_is)
  (case kL=>k_is)
  (case EH=>k_is)
  (case qZ=>k_is)
  (case xr=>k_is)
  (case LG=>decide)
  (case LR=>k_is)
  (case zG=>k_is)
  (case Uc=>decide)
  (case Ut=>k_is)
  (case xu=>k_is)
  (case LS=>k_is)
  (case qM=>k_is)
  (case c8=>k_is)
  (case JB=>k_is)
  (case JA=>k_is)
  (case qL=>k_is)
  (case lM=>k_is)
  (case Ed=>k_is)
  (case wM=>decide)
 case S =>
  intro K H xs a hO hwi zF hx
  cases hx with
  | cons h1 h2 =>
   cases h2
   cases h1 with
   | lst hs ha =>
    have e:=L2.afS a.1 _ ha
    subst e
    have q:((Codec.inLen 0 16000 a.1 && a.1.all (Codec.inInt (-9223372036854775808) 9223372036854775807)) && true) = true:=hwi
    rw [Bool.and_eq_true,Bool.and_eq_true] at q
    exact ⟨_,a.1,rfl,hs,(Codec.inNat_iff.mp q.1.1).2,zF,fun H' p hp=>.lst (L2.aM.of hp) (L2.afW _)⟩
